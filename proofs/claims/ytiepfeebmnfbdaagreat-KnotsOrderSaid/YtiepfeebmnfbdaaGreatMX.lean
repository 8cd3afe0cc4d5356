/- MX -/
import Derived.Test.YtiepfeebmnfbdaaGreatMZ
namespace Go.Proofs.YtiepfeebmnfbdaaGreat
open Tryz
set_option linter.unusedSimpArgs false
set_option maxHeartbeats 64000000
set_option maxRecDepth 100000
open Go Go.RowKit
attribute [go_sem] results5 results13
theorem WH{P:Prop}(h:P:=by exact gT hE hm [(0,.sl nl 20 (l.map bS) none),(3,.sl ((cq kZ (l.take (i+1))).map bS).isEmpty 20 ((cq kZ (l.take (i+1))).map bS) (some 68)),(4,.i (i+1:Nat))] [] A0a A0a h2 A05 (fun a3 w3 h3=>⟨⟨i+1,hi⟩,h3,by simp only;omega⟩)):P:=h
theorem WG{P:Prop}(h:P:=by simp +decide only[go_sem,Nat.reduceBEq,eq]):P:=h
def iN{α:Type}(key:α->C3)(out:List α)(e:α):List α:=
 out.takeWhile (fun x=>ae (key x) (key e))++e::(match out.dropWhile (fun x=>ae (key x) (key e)) with
  |x::r=>if key x=key e then r else x::r
  |[]=>[])
def cq{α:Type}(key:α->C3)(l:List α):List α:=l.foldl (iN key) []
variable{α:Type}
theorem Mw{β:Type}{ka:α->C3}{kb:β->C3}{f:α->β}(hf:∀x,kb (f x)=ka x)(out:List α)(e:α):(iN ka out e).map f=iN kb (out.map f) (f e):=by
 have h1:(out.map f).takeWhile (fun x=>ae (kb x) (kb (f e)))=(out.takeWhile fun x=>ae (ka x) (ka e)).map f:=by rw[List.takeWhile_map];congr 1;congr 1;funext x;simp only[Function.comp,hf]
 have h2:(out.map f).dropWhile (fun x=>ae (kb x) (kb (f e)))=(out.dropWhile fun x=>ae (ka x) (ka e)).map f:=by rw[List.dropWhile_map];congr 1;congr 1;funext x;simp only[Function.comp,hf]
 unfold iN;rw[h1,h2,adK,adL];congr 2;generalize out.dropWhile (fun x=>ae (ka x) (ka e))=r;cases r with
 |nil=>rfl
 |cons y r=>simp only[adL,hf];split<;>rfl
theorem tC{β:Type}{ka:α->C3}{kb:β->C3}{f:α->β}(hf:∀x,kb (f x)=ka x)(l:List α):(cq ka l).map f=cq kb (l.map f):=by
 have key:∀(l out:List α),(l.foldl (iN ka) out).map f=(l.map f).foldl (iN kb) (out.map f):=by
  intro l
  induction l with
  |nil=>exact fun _=>rfl
  |cons e l ih=>intro out;rw[aeh,ih,Mw hf,adL,aeh]
 exact key l []
theorem Tw(out:List En)(e:En):iN (fun e:En=>e.1) out e=mW out e:=by
 unfold iN mW;simp only;congr 2;cases out.dropWhile (fun x=>ae x.1 e.1) with
 |nil=>rfl
 |cons x r=>rfl
theorem Qi(l:List En):cq (fun e:En=>e.1) l=aS l:=by unfold cq aS;congr 1;funext out e;exact Tw out e
theorem CV(key:α->C3)(l:List α)(e:α):cq key (l++[e])=iN key (cq key l) e:=by unfold cq;rw[aeT];rfl
theorem Mx(key:α->C3)(out:List α)(e:α):(iN key out e).length<=out.length+1:=by
 have h0:=ae6 List.length (aeu (p:=fun x=>ae (key x) (key e)) (l:=out));rw[adh] at h0;unfold iN;rw[adh,adm];generalize out.dropWhile (fun x=>ae (key x) (key e))=r at h0;cases r with
 |nil=>simp at h0⊢;omega
 | cons y r=>
   simp only[adm] at h0⊢;split
   . omega
   . rw[adm];omega
theorem My(key:α->C3){out:List α}{e x:α}(h:x∈iN key out e):x=e∨x∈out:=by
 have e0:=aeu (p:=fun x=>ae (key x) (key e)) (l:=out);unfold iN at h;rcases adv.1 h with h|h
 . exact .inr (by rw[<-e0];exact ad2 _ h)
 . rcases adA.1 h with h|h
   . exact .inl h
   . right;rw[<-e0];refine aeG _ ?_;generalize out.dropWhile (fun x=>ae (key x) (key e))=r at h;cases r with
     |nil=>cases h
     | cons y r=>
       simp only at h;split at h
       . exact adE _ h
       . exact h
theorem tD(key:α->C3){l:List α}:∀{x:α},x∈cq key l->x∈l:=by
 have key':∀(l out:List α) (x:α),x∈l.foldl (iN key) out->x∈out∨x∈l:=by
  intro l
  induction l with
  |nil=>exact fun out x h=> .inl h
  | cons e l ih=>
    intro out x h;rcases ih _ x h with h|h
    . rcases My key h with h|h
      . exact .inr (h▸adP ..)
      . exact .inl h
    . exact .inr (adE _ h)
 intro x h;exact(key' l [] x h).resolve_left A0k
theorem HK(key:α->C3)(l:List α):(cq key l).length<=l.length:=by
 have key':∀(l out:List α),(l.foldl (iN key) out).length<=out.length+l.length:=by
  intro l
  induction l with
  |nil=>exact fun out=>adp _
  |cons e l ih=>intro out;have h1:=ih (iN key out e);have h2:=Mx key out e;rw[aeh,adm];omega
 have:=key' l [];simpa[cq] using this
abbrev RE:=C3×List Value
def kZ(e:RE):C3:=e.1
def bS(e:RE):V:= .agg (.x (.string e.1.1):: .i e.1.2.1:: .i e.1.2.2::e.2.map V.x)
def zN(e:RE):Prop:=e.2.length=17∧∀v∈e.2,(V.x v).cell=true
theorem o9(e:RE)(h:zN e):∃M:U,bS e= .agg (.x (.string e.1.1):: .i e.1.2.1:: .i e.1.2.2::M)∧M.length=17∧M.take 17=M:=by refine⟨_,rfl,by rw[eq];exact h.1,ady (by rw[eq];exact Nat.le_of_eq h.1)⟩
variable{l:List RE}
theorem CW(h:∀e∈l,zN e):((l.map bS).all fun u=>u.cells.all V.cell)=true:=adr.2 fun u hu=>by
 obtain⟨e,he,rfl⟩:=ads.1 hu;refine adr.2 fun c hc=>?_
 simp only[bS,V.cells,adA,ads] at hc;rcases hc with rfl|rfl|rfl|⟨v,hv,rfl⟩
 . rfl
 . rfl
 . rfl
 . exact(h e he).2 v hv
variable{E:Env}
theorem Qj(hP:E.P=prog){a b:List RE}(h:a.length+b.length<=1000)(hb:∀e∈b,zN e)(st:St)(d tok sz:Nat)(nl:Bool)(t':Option Nat)(hs:sz=20∨b.map bS=[]):
 bt E st (some d) 43 (.sl false 20 (a.map bS) (some tok)) (.sl nl sz (b.map bS) t')=some ⟨upd (strip tok (strip d st.t)) d (.sl false 20 ((a++b).map bS) (some d)),aG E tok (aG E d st.b)⟩:=by
 have e1:bo E.P 43=some 20:=by rw[hP];exact Fl
 obtain⟨by',e2,h2⟩:∃by',bY E.P 43=some by'∧by'<=1000:=⟨_,by rw[hP];exact Nk,A0c⟩;obtain⟨z,e3,h3⟩:∃z,aB E.P 43=some z∧z.length=20:=⟨_,by rw[hP];exact Nl,rfl⟩;unfold bt;simp only[e1,e2,e3];have hm:((a.map bS).length+(b.map bS).length)*by'<=1000*1000:=agq (by rw[eq,eq];omega) h2;rw[adl ⟨A0c,h3,trivial,hs,CW hb,A0b,by rw[eq,eq];omega⟩,adK]
theorem Mz(hP:E.P=prog){b:List RE}(h:b.length<=1000)(hb:∀e∈b,zN e)(st:St)(d n sz:Nat)(nl:Bool)(t':Option Nat)(hs:sz=20∨b.map bS=[]):
 bt E st (some d) 43 (.sl true n [] none) (.sl nl sz (b.map bS) t')=some ⟨upd (strip d st.t) d (.sl (b.map bS).isEmpty 20 (b.map bS) (some d)),aG E d st.b⟩:=by
 have e1:bo E.P 43=some 20:=by rw[hP];exact Fl
 obtain⟨by',e2,h2⟩:∃by',bY E.P 43=some by'∧by'<=1000:=⟨_,by rw[hP];exact Nk,A0c⟩;obtain⟨z,e3,h3⟩:∃z,aB E.P 43=some z∧z.length=20:=⟨_,by rw[hP];exact Nl,rfl⟩;unfold bt;simp only[e1,e2,e3];have hm:(b.map bS).length*by'<=1000*1000:=agq A0w h2;rw[adl ⟨A0c,h3,hs,CW hb,A0b,A0w⟩];rfl
theorem MA(hP:E.P=prog){a:List RE}{e:RE}(h:a.length<=999)(hb:zN e)(st:St)(d tok:Nat)(nl:Bool)(t':Option Nat):
 bt E st (some d) 43 (.sl (a.map bS).isEmpty 20 (a.map bS) (some tok)) (.sl nl 20 [bS e] t')=some ⟨upd (strip tok (strip d st.t)) d (.sl false 20 ((a++[e]).map bS) (some d)),aG E tok (aG E d st.b)⟩:=by
 obtain⟨by',e2,h2⟩:∃by',bY E.P 43=some by'∧by'<=1000:=⟨_,by rw[hP];exact Nk,A0c⟩;obtain⟨z,e3,h3⟩:∃z,aB E.P 43=some z∧z.length=20:=⟨_,by rw[hP];exact Nl,rfl⟩;have hm:((a.map bS).length+1)*by'<=1000*1000:=agq A0w h2;have hone:(bS e).cells.all V.cell=true:=by have:=CW (l:=[e]) (fun x hx=>by rw[adj.1 hx];exact hb);simpa using this
 rw[adK];exact db (E:=E) (n:=20) (by rw[hP];exact Fl) e2 e3 A0c h3 hone A0b A0w st d tok nl t'
theorem MC{i:Nat}:List.take ((i:Int).toNat-0) (l.map bS)=(l.take i).map bS:=by simp[List.map_take]
theorem MD{i:Nat}:List.take ((((l.map bS).length:Nat):Int).toNat-(i:Int).toNat) (List.drop (i:Int).toNat (l.map bS))=(l.drop i).map bS:=by rw[tl,tl,List.map_drop,ady A0k]
theorem EI{i:Nat}{e:RE}(h:l[i]?=some e):(l.map bS)[(i:Int).toNat]?=some (bS e):=by rw[tl,ac9,h];rfl
variable{c:C3}{k:Nat}
theorem EJ(hk:k<=l.length)(h1:∀(j:Nat) (q:RE),j<k->l[j]?=some q->ae q.1 c=true)(h2:∀q,l[k]?=some q->ae q.1 c=false)(e:RE)(he:e.1=c):
 iN kZ l e=l.take k++e::(match l.drop k with
  |x::r=>if x.1=c then r else x::r
  |[]=>[]):=by
 obtain⟨q1,q2⟩:=iZ (fun q:RE=>ae q.1 c) l k hk h1 h2;unfold iN kZ;rw[he,q1,q2];congr 2;cases l.drop k with
 |nil=>rfl
 |cons x r=>rfl
theorem Qk(hk:k<=l.length)(h1:∀(j:Nat) (q:RE),j<k->l[j]?=some q->ae q.1 c=true)(h2:∀q,l[k]?=some q->ae q.1 c=false)(h3:∀q,l[k]?=some q->q.1≠c)(e:RE)(he:e.1=c):iN kZ l e=(l.take k++[e])++l.drop k:=by
 rw[EJ hk h1 h2 e he,aef,List.singleton_append];congr 2;cases hd:l.drop k with
 |nil=>rfl
 | cons x r=>
   have hx:l[k]?=some x:=by have:=ae6 List.head? hd;rw[List.head?_drop] at this;exact this
   simp only;rw[adq (h3 x hx)]
theorem Ql{q0:RE}(h1:∀(j:Nat) (q:RE),j<k->l[j]?=some q->ae q.1 c=true)(hq:l[k]?=some q0)(hc:q0.1=c)(e:RE)(he:e.1=c):iN kZ l e=l.set k e:=by
 have hk:=(iO.1 hq).1;rw[EJ (agG hk) h1 (fun q h=>by rw[hq] at h;cases h;rw[hc];exact bQ.irr _) e he,afl hk];have hx:l[k]=q0:=by have:=io hk;rw[hq] at this;exact(afo this).symm
 simp only[hx];rw[adl hc,List.set_eq_take_append_cons_drop,adl hk]
def gY(e:RE):List Value:= .string e.1.1:: .int .i64 e.1.2.1:: .int .i64 e.1.2.2::e.2
theorem zO:∀l:List Value,(l.map V.x).mapM V.one=some l
 |[]=>rfl
 |v::l=>by rw[adL,afk,zO l];rfl
theorem Qm(e:RE):(bS e).val=some (.agg (gY e).toArray):=by show(((gY e).map V.x).mapM V.one).map (fun l=>Value.agg l.toArray)=_;rw[zO];rfl
theorem Qn(l:List RE)(c:C3):∃k,k<=l.length∧(∀(j:Nat) (q:RE),j<k->l[j]?=some q->ae q.1 c=true)∧∀q,l[k]?=some q->ae q.1 c=false:=by
 induction l with
 |nil=>exact⟨0,adp _,fun j q h=>by omega,fun q h=>by simp at h⟩
 | cons x l ih=>
   cases hx:ae x.1 c with
   |false=>exact⟨0,adN _,fun j q h=>by omega,fun q h=>by simp at h;rw[<-h];exact hx⟩
   | true=>
     obtain⟨k,h1,h2,h3⟩:=ih;refine⟨k+1,by simpa using h1,fun j q hj hq=>?_,fun q hq=>h3 q A1w ⟩;cases j with
     |zero=>simp at hq;rw[<-hq];exact hx
     |succ j=>exact h2 j q A0b A1w
abbrev RS:=Bool×Nat×List RE
def ac6(p:RS):Prop:=(p.2.2≠[]->p.2.1=20)∧p.2.2.length<=400∧∀e∈p.2.2,zN e
theorem CX:EnvOK (aY [(27,bp)] (fun _=>false) [] (fun _=>false) (fun i=>i==10)):=ge _ _ _ _ _ ⟨sO,trivial⟩ trivial
variable{m:Lim}{w:World}{nl:Bool}{sz:Nat}
def uR77:List (Nat×List Nat)->List (Nat×Nat×Nat)
 |[]=>[]
 |p::r=>(p.2.map fun i=>(p.1,i,p.1|||2^i))++uR77 r
theorem CY{vs:Array Value}(hok:ac6 (nl,sz,l))(hr:RdL m w vs.toList [.sl nl sz (l.map bS) none])(hj:(aY [(27,bp)] (fun _=>false) [] (fun _=>false) (fun i=>i==10)).J w)(hg:∀g,Rd m w (.p g) ((aY [(27,bp)] (fun _=>false) [] (fun _=>false) (fun i=>i==10)).G g)):
 Calls prog 13 vs w fun e w'=>∃v,e= .returned v∧∃m',Rd m' w' v (.sl ((cq kZ l).map bS).isEmpty 20 ((cq kZ l).map bS) none)∧Step (fun _=>False) m w m' w':=by
 have hE:EnvOK (aY [(27,bp)] (fun _=>false) [] (fun _=>false) (fun i=>i==10)):=CX;have hMB:∀s,(aY [(27,bp)] (fun _=>false) [] (fun _=>false) (fun i=>i==10)).MB s=false:=fun _=>rfl
 have hm:(aY [(27,bp)] (fun _=>false) [] (fun _=>false) (fun i=>i==10)).P.follows .mixedOrders=true:=A0a
 obtain⟨hsz,hl4,hall⟩:=hok;simp only at hsz hl4 hall;refine ly (E:=(aY [(27,bp)] (fun _=>false) [] (fun _=>false) (fun i=>i==10))) (n:=70) (sz:=20) (k:=1) (Kn:=Kno.top) func13 rfl ntmps13 A0c A0c hr rfl rfl hj hg trivial (fun a0 hS=>?_)
 --slot 0 is kept in sight
 obtain⟨v0,hv0⟩:∃v0,a0.tmps.getD 0 undef=v0:=⟨_,rfl⟩;have hrd0:Rd m w v0 (.sl nl sz (l.map bS) none):=by obtain⟨m1,O,gs,q1,_,_,_,q5,_⟩:=hS;obtain⟨b,β,hrel⟩:=q1.rel;have:=(hrel.tmps 0:Rs m1 w β _ (.sl nl sz (l.map bS) none)).rd rfl;rw[hv0] at this;have hx:Ext m1 w m w:=⟨adp _,fun _ _ _ _ _ h=>h,fun blk hb fr hf=>⟨fr,by rw[(q5.same blk hb (fun h=>h)).2];exact hf,adp _⟩,fun _ _ _ _ h=>h⟩;exact this.mono hx
 obtain⟨t0,ht0,h1⟩:=hS.keepS 0 v0 hv0;refine wpIn_seq (gT hE hm [(0,.sl nl sz (l.map bS) none)] [] A0a A0a h1 A0d ?_);intro a0 w1 h1;refine wpIn_seq (gT hE hm [(0,.sl nl sz (l.map bS) none),(3,.sl true 0 [] none)] [] A0a A0a h1 A0d ?_);intro a0 w1 h1;refine wpIn_seq (wpIn_seq (gT hE hm [(0,.sl nl sz (l.map bS) none),(3,.sl true 0 [] none),(4,.i 0)] [] A0a A0a h1 A0d ?_));intro a0 w1 h1;replace h1:=(h1.nil 3 20 (some 68) (n0:=0) (k0:=none) (by simp only[go_sem,Nat.reduceEqDiff,adw,adB,bX,aq,vq])).le (st':=aq [(0,.sl nl sz (l.map bS) none),(3,.sl ((cq kZ (l.take 0)).map bS).isEmpty 20 ((cq kZ (l.take 0)).map bS) (some 68)),(4,.i (0:Nat))] []) (aK (by simp +decide only[go_sem,Nat.reduceBEq,adt]<;>(repeat' first|rfl|constructor)) A0d);refine wpIn_block (cI (X:={i:Nat//i<=l.length}) (fun i a' w'=>Hold (aY [(27,bp)] (fun _=>false) [] (fun _=>false) (fun i=>i==10)) 70 20 ⟨Kno.top,fun i=>i !=0,t0,m,w⟩ [] (aq [(0,.sl nl sz (l.map bS) none),(3,.sl ((cq kZ (l.take i.1)).map bS).isEmpty 20 ((cq kZ (l.take i.1)).map bS) (some 68)),(4,.i i.1)] []) a' w') (fun i=>l.length-i.1) ⟨0,adN _⟩ h1 ?_);rintro⟨i,hi0⟩ a0 w1 h1;simp only at h1 hi0⊢;by_cases hi:i<l.length
 . have c1 :decide ((i:Int)<l.length)=true:=ac0 A0b;have i0:(0:Int)<=(i:Int):=A0b
   have c4:=ax (i:=i) A0b;have q1:l[i]?=some l[i]:=io hi;have q2:=EI q1;have hoke:=hall _ (adR hi);obtain rfl:=hsz (fun h=>by rw[h] at hi;simp at hi);have e3:cq kZ (l.take (i+1))=iN kZ (cq kZ (l.take i)) l[i]:=by rw[aF q1,CV]
   have hol:(cq kZ (l.take i)).length<=400:=adJ (HK kZ _) A0K;have hoo:∀e∈cq kZ (l.take i),zN e:=fun e he=>hall e (afL (tD kZ he))
   generalize cq kZ (l.take i)=out at h1 e3 hol hoo;generalize l[i]=en at q1 q2 e3 hoke;refine wpIn_seq (gT hE hm [(0,.sl nl 20 (l.map bS) none),(3,.sl ((out).map bS).isEmpty 20 ((out).map bS) (some 68)),(4,.i i)] [] A0a A0a h1 A06 ?_);intro a0 w1 h1;have hex:=Qn out en.1;obtain⟨k,hk,hb,hs⟩:=hex;refine wpIn_seq (wpIn_block (wpIn_mono (Q:=fun e a' w'=>(e= .normal∨e= .exit 1)∧Hold (aY [(27,bp)] (fun _=>false) [] (fun _=>false) (fun i=>i==10)) 70 20 ⟨Kno.top,fun i=>i !=0,t0,m,w⟩ [] (aq [(0,.sl nl 20 (l.map bS) none),(3,.sl ((cq kZ (l.take (i+1))).map bS).isEmpty 20 ((cq kZ (l.take (i+1))).map bS) (some 68)),(4,.i i)] []) a' w') ?main ?tail))
   case tail=>
    rintro e a' w' ⟨he,h2⟩;rcases he with rfl|rfl<;>simp only[Exit.inBlock,Exit.then,adB]
    . exact WH
    . exact WH
   case main=>
    refine wpIn_seq (gT hE hm [(0,.sl nl 20 (l.map bS) none),(3,.sl ((out).map bS).isEmpty 20 ((out).map bS) (some 68)),(4,.i i),(5,.i 0)] [] A0a A0a h1 A0d ?_);intro a0 w1 h1;obtain⟨N,hN,lN,tN⟩:=o9 en hoke;rw[hN] at q2;refine wpIn_seq (gT hE hm [(0,.sl nl 20 (l.map bS) none),(3,.sl ((out).map bS).isEmpty 20 ((out).map bS) (some 68)),(4,.i i),(5,.i k)] [] A0a A0a h1 ?run ?cont)
    case run=>
     simp +decide only[go_sem,Nat.reduceBEq,eq];refine aT (X:={j:Nat//j<=k}) (fun j=>[(0,.sl nl 20 (l.map bS) none),(3,.sl ((out).map bS).isEmpty 20 ((out).map bS) (some 68)),(4,.i i),(5,.i j.1)]) (fun _=>[]) (fun j=>k-j.1) ⟨0,adN _⟩ A0y A0e (fun⟨j,hj⟩=>?_);simp only at hj⊢;have j0:(0:Int)<=(j:Int):=A0b
     have j4:=ax (i:=j) A0b;by_cases hjl:j<out.length
     . have d0:decide ((j:Int)<out.length)=true:=ac0 A0b;have p1:out[j]?=some out[j]:=io hjl;have p2:=EI p1;obtain⟨M,hM,lM,tM⟩:=o9 out[j] (hoo _ (adR hjl));rw[hM] at p2;by_cases hjk:j<k
       . have hq:eF (out[j]).1.1 (out[j]).1.2.1 (out[j]).1.2.2 en.1.1 en.1.2.1 en.1.2.2=true:=hb j _ hjk p1;simp +decide only[go_sem,Nat.reduceBEq,eq,adm,lM,lN,d0,j0,j4,i0,p2,q2,bp,hq];refine⟨⟨j+1,hjk⟩,?_,?_,?_⟩
         . exact WG
         . exact WG
         . simp only;omega
       . obtain rfl:j=k:=A0b
         have hq:eF (out[j]).1.1 (out[j]).1.2.1 (out[j]).1.2.2 en.1.1 en.1.2.1 en.1.2.2=false:=hs _ p1;simp +decide only[go_sem,Nat.reduceBEq,eq,adm,lM,lN,d0,j0,j4,i0,p2,q2,bp,hq]
     . have d0:decide ((j:Int)<out.length)=false:=Io A0b;obtain rfl:j=k:=A0b
       simp +decide only[go_sem,Nat.reduceBEq,eq,d0]
    case cont=>
     intro a0 w1 h1;have k0:(0:Int)<=(k:Int):=A0b
     by_cases hf:∃q0,out[k]?=some q0∧q0.1=en.1
     . obtain⟨q0,p1,hq0⟩:=hf;have hkl:k<out.length:=(iO.1 p1).1;have d0:decide ((k:Int)<out.length)=true:=ac0 A0b;have p2:=EI p1;obtain⟨M,hM,lM,tM⟩:=o9 q0 (hoo _ (adg p1));rw[hM] at p2;have hq:eE (q0.1.1,q0.1.2.1,q0.1.2.2) (en.1.1,en.1.2.1,en.1.2.2)=true:=ac0 hq0;refine wpIn_seq (wpIn_seq (gT hE hm [(0,.sl nl 20 (l.map bS) none),(3,.sl ((out).map bS).isEmpty 20 ((out).map bS) (some 68)),(4,.i i),(5,.i k),(47,.bool true)] [] A0a A0a h1 (by simp +decide only[go_sem,Nat.reduceBEq,eq,adm,lM,lN,d0,k0,i0,p2,q2,Sy,hq]<;>(repeat' first|rfl|constructor)) ?_));intro a0 w1 h1;have hc:a0.eval (.tmp 47)= .bool true:=h1.val A0g;refine wpIn_cond_true hc (wpIn_seq (wpIn_region ?_))
       have hem:(out.map bS).isEmpty=false:=by cases out with
        |nil=>simp at hkl
        |cons x r=>rfl
       rw[hem] at h1;refine SX hE 0 6 [(0,.sl nl 20 (l.map bS) none),(3,.sl false 20 (out.map bS) (some 68)),(4,.i i),(48,.sl false 20 (out.map bS) (some 68)),(49,.i k),(53,bS en)] [] [6,7] A0c A0a A0a h1 (by rw[hN];simp +decide only[go_sem,Nat.reduceBEq,eq,adm,lN,tN,k0,i0,q2]<;>(repeat' first|rfl|constructor)) ?_;intro a0 w1 h1;have hrl:(bS en).cells=(gY en).map V.x:=by simp[bS,gY,V.cells]
       have hx53:a0.tmps.getD 53 undef= .agg (gY en).toArray:=by obtain⟨m1,O,gs,z1,_⟩:=h1;obtain⟨b1,β,hrel⟩:=z1.rel;exact((hrel.tmps 53:Rs m1 w1 β _ (bS en)).rd rfl).val_is (Qm en)
       obtain⟨g,cap,w2,hall3,⟨hz1,hz2,hz3⟩,hst,hfin⟩:=GC hMB (fun _=>rfl) hE A0c h1 rfl (d:=3) (tok:=68) (es:=out.map bS) A0g (t:=43) Fl A0c (k:=k) (by rw[eq];exact hkl) (xs:=gY en) (by simp[gY,hoke.1]) (fun v hv=>by
        simp only[gY,adA] at hv;rcases hv with rfl|rfl|rfl|hv
        . rfl
        . rfl
        . rfl
        . exact pj (m:=m) (w:=w) (.x v) (hoke.2 v hv)) (x:= .agg (gY en).toArray) rfl (fun u hu=>by
        obtain⟨e,_,rfl⟩:=ads.1 hu;exact⟨gY e,by simp[bS,gY,V.cells]⟩) (u:=bS en) hrl
       have h48:=hall3 48 A0g;have h33:=hall3 3 A0g;have h49:a0.tmps.getD 49 undef= .int .i64 (k:Int):=h1.val A0g;have h44:a0.tmps.getD 4 undef= .int .i64 (i:Int):=h1.val A0g;have h00:a0.tmps.getD 0 undef=v0:=(h1.sight 0 rfl).trans ht0;have hput:∀(v:Value) (j:Nat),j≠54->(a0.put (some 54) v).tmps.getD j undef=a0.tmps.getD j undef:=fun v j hj=>by rw[show(a0.put (some 54) v).tmps=a0.tmps.setIfInBounds 54 v from rfl,bG _ _ _ _ (by rw[hz1];decide),adq hj]
       refine KO (v:= .pointer (some ⟨g,(k:Int).toNat*20,none⟩)) (w':=w1) rfl A0L rfl rfl (l7 (sz:=20) rfl underlying22 Fl h48 h49 k0 A0w) ?_;rw[tl];refine GB (w':=w2) rfl A0L rfl rfl ?_ ?_
       . have e1:(a0.put (some 54) (.pointer (some ⟨g,k*20,none⟩))).eval (.tmp 53)= .agg (gY en).toArray:=(hput _ 53 A0c).trans hx53;have e2:(a0.put (some 54) (.pointer (some ⟨g,k*20,none⟩))).eval (.tmp 54)= .pointer (some ⟨g,k*20,none⟩):=by show(a0.tmps.setIfInBounds 54 _).getD 54 undef=_;rw[bG _ _ _ _ (by rw[hz1];decide),adl rfl]
         simp only[execOp,e1,e2,Gc,hst,Ge,Gd]
       . refine(show Code.wpIn _ _ _ (Code.exit 1) _ _ _ from wpIn_exit ⟨.inr rfl,?_⟩);have e5:cq kZ (l.take (i+1))=out.set k en:=by rw[e3];exact Ql hb p1 hq0 en rfl
         have e6:((out.set k en).map bS).isEmpty=false:=by
          cases hh:out.set k en with
          |nil=>have:=ae6 List.length hh;rw[adV] at this;rw[aem.1 this] at hkl;simp at hkl
          |cons x r=>rfl
         rw[e5,e6,afH];refine hfin _ _ 3 68 (by simp[Act.put,hz1]) hz2 (hz3.put (fun j hj=>by cases hj;rfl)) ((hput _ 3 A0c).trans h33) (fun _=>rfl) A0g (fun j hj=>?_);by_cases j0:j=0
         . subst j0;refine .inr (.inr ⟨?_,rfl⟩);rw[hput _ 0 A0c,h00];exact hrd0
         . by_cases j4:j=4
           . subst j4;exact .inr (.inl ⟨_,rfl,(hput _ 4 A0c).trans h44⟩)
           . left;simp only[aq,bX,aJ];rw[adq j0,adq hj,adq j4]
     . have hne:∀q,out[k]?=some q->q.1≠en.1:=fun q h e=>hf ⟨q,h,e⟩
       have e5:cq kZ (l.take (i+1))=(out.take k++[en])++out.drop k:=by rw[e3];exact Qk hk hb hs hne en rfl
       refine wpIn_seq (gT hE hm [(0,.sl nl 20 (l.map bS) none),(3,.sl ((out).map bS).isEmpty 20 ((out).map bS) (some 68)),(4,.i i),(5,.i k)] [] A0a A0a h1 ?run8 ?cont8)
       case run8=>
        by_cases hkl:k<out.length
        . have d0:decide ((k:Int)<out.length)=true:=ac0 A0b;have p1:out[k]?=some out[k]:=io hkl;have p2:=EI p1;obtain⟨M,hM,lM,tM⟩:=o9 out[k] (hoo _ (adR hkl));rw[hM] at p2;have hq:eE ((out[k]).1.1,(out[k]).1.2.1,(out[k]).1.2.2) (en.1.1,en.1.2.1,en.1.2.2)=false:=Io (hne _ p1);simp +decide only[go_sem,Nat.reduceBEq,eq,adm,lM,lN,d0,k0,i0,p2,q2,Sy,hq]<;>(repeat' first|rfl|constructor)
        . have d0:decide ((k:Int)<out.length)=false:=Io A0b;simp +decide only[go_sem,Nat.reduceBEq,eq,d0]<;>(repeat' first|rfl|constructor)
       case cont8=>
        intro a0 w1 h1;replace h1:=(h1.bareS (d:=3) A0c (nl:=(out.map bS).isEmpty) (z:=20) (es:=out.map bS) (tok:=some 68) A0g).le (st':=aq [(0,.sl nl 20 (l.map bS) none),(3,.sl (out.map bS).isEmpty 20 (out.map bS) none),(4,.i i),(5,.i k)] []) (aK A0d A0d);have e6:(((out.take k++[en])++out.drop k).map bS).isEmpty=false:=by cases out.take k<;>rfl
        refine gT hE hm [(0,.sl nl 20 (l.map bS) none),(3,.sl false 20 (((out.take k++[en])++out.drop k).map bS) (some 68)),(4,.i i)] [] A0a A0a h1 ?run10 ?cont10
        case run10=>
         have hk1:(k:Int)<=(((out.map bS).length:Nat):Int):=A0w
         have g1:∀(st:St),bt (aY [(27,bp)] (fun _=>false) [] (fun _=>false) (fun i=>i==10)) st (some 58) 43 (.sl true 0 [] none) (.sl (out.map bS).isEmpty 20 ((out.take k).map bS) none)=_:=fun st=>Mz (E:=(aY [(27,bp)] (fun _=>false) [] (fun _=>false) (fun i=>i==10))) rfl (b:=out.take k) A0K (fun e he=>hoo e (afL he)) st 58 0 20 _ none (.inl rfl)
         have g2:∀(st:St) (tok:Nat),bt (aY [(27,bp)] (fun _=>false) [] (fun _=>false) (fun i=>i==10)) st (some 64) 43 (.sl ((out.take k).map bS).isEmpty 20 ((out.take k).map bS) (some tok)) (.sl false 20 [bS en] none)=_:=fun st tok=>MA (E:=(aY [(27,bp)] (fun _=>false) [] (fun _=>false) (fun i=>i==10))) rfl (a:=out.take k) (e:=en) A0K hoke st 64 tok false none
         have g3:∀(st:St) (tok:Nat),bt (aY [(27,bp)] (fun _=>false) [] (fun _=>false) (fun i=>i==10)) st (some 68) 43 (.sl false 20 ((out.take k++[en]).map bS) (some tok)) (.sl (out.map bS).isEmpty 20 ((out.drop k).map bS) none)=_:=fun st tok=>Qj (E:=(aY [(27,bp)] (fun _=>false) [] (fun _=>false) (fun i=>i==10))) rfl (a:=out.take k++[en]) (b:=out.drop k) A0N (fun e he=>hoo e (af9 he)) st 68 tok 20 _ none (.inl rfl)
         rw[hN] at g2;simp +decide only[go_sem,Nat.reduceBEq,eq];generalize ((out.take k++[en])++out.drop k).map bS=w3 at g3⊢;generalize (out.take k++[en]).map bS=w2 at g2 g3⊢;have pl:List.take ((k:Int).toNat-0) (out.map bS)=(out.take k).map bS:=MC;have pr:List.take ((((out.map bS).length:Nat):Int).toNat-(k:Int).toNat) (List.drop (k:Int).toNat (out.map bS))=(out.drop k).map bS:=MD;generalize (out.take k).map bS=w1 at g1 g2 pl⊢;generalize (out.drop k).map bS=w4 at g3 pr⊢;generalize out.map bS=w0 at g1 g3 pl pr hk1⊢;generalize l.map bS=wl at q2⊢;refine kf [(0,0,0,.sl nl 20 wl none),(0,16384,3,.sl w0.isEmpty 20 (w0) none),(0,0,4,.i i),(0,0,5,.i k),(1,0,55,.sl w0.isEmpty 20 (w0) none),(2,0,56,.i k),(4,0,57,.sl w0.isEmpty 20 (w1) none),(8,512,58,.sl w1.isEmpty 20 w1 (some 58)),(16,0,59,.sl nl 20 wl none),(32,0,60,.i i),(64,0,61,.ip (.x (.string en.1.1):: .i en.1.2.1:: .i en.1.2.2::N)),(128,0,62,.agg (.x (.string en.1.1):: .i en.1.2.1:: .i en.1.2.2::N)),(256,0,63,.sl false 20 [.agg (.x (.string en.1.1):: .i en.1.2.1:: .i en.1.2.2::N)] none),(512,8192,64,.sl false 20 (w2) (some 64)),(1024,0,65,.sl w0.isEmpty 20 (w0) none),(2048,0,66,.i k),(4096,0,67,.sl w0.isEmpty 20 (w4) none),(8192,16384,68,.sl false 20 w3 (some 68)),(16384,0,3,.sl false 20 w3 (some 68))] [] (uR77 [(0,[0,1,4,5,10,11]),(1,[1,4,5,10,11]),(2,[0,4,5,10,11]),(16,[0,1,5,10,11]),(32,[0,1,4,10,11]),(1024,[0,1,4,5,11]),(2048,[0,1,4,5,10]),(3,[2,4,5,10,11]),(17,[1,5,10,11]),(33,[1,4,10,11]),(1025,[1,4,5,11]),(2049,[1,4,5,10]),(18,[0,5,10,11]),(34,[0,4,10,11]),(1026,[0,4,5,11]),(2050,[0,4,5,10]),(48,[0,1,6,10,11]),(1040,[0,1,5,11]),(2064,[0,1,5,10]),(1056,[0,1,4,11]),(2080,[0,1,4,10]),(3072,[0,1,4,5,12]),(7,[3,4,5,10,11]),(19,[2,5,10,11]),(35,[2,4,10,11]),(1027,[2,4,5,11]),(2051,[2,4,5,10]),(49,[1,6,10,11]),(1041,[1,5,11]),(2065,[1,5,10]),(1057,[1,4,11]),(2081,[1,4,10]),(3073,[1,4,5,12]),(50,[0,6,10,11]),(1042,[0,5,11]),(2066,[0,5,10]),(1058,[0,4,11]),(2082,[0,4,10]),(3074,[0,4,5,12]),(112,[0,1,7,10,11]),(1072,[0,1,6,11]),(2096,[0,1,6,10]),(3088,[0,1,5,12]),(3104,[0,1,4,12]),(7168,[0,1,4,5]),(15,[4,5,10,11]),(23,[3,5,10,11]),(39,[3,4,10,11]),(1031,[3,4,5,11]),(2055,[3,4,5,10]),(51,[2,6,10,11]),(1043,[2,5,11]),(2067,[2,5,10]),(1059,[2,4,11]),(2083,[2,4,10]),(3075,[2,4,5,12]),(113,[1,7,10,11]),(1073,[1,6,11]),(2097,[1,6,10]),(3089,[1,5,12]),(3105,[1,4,12]),(7169,[1,4,5]),(114,[0,7,10,11]),(1074,[0,6,11]),(2098,[0,6,10]),(3090,[0,5,12]),(3106,[0,4,12]),(7170,[0,4,5]),(240,[0,1,8,10,11]),(1136,[0,1,7,11]),(2160,[0,1,7,10]),(3120,[0,1,6,12]),(7184,[0,1,5]),(7200,[0,1,4]),(31,[5,10,11]),(47,[4,10,11]),(1039,[4,5,11]),(2063,[4,5,10]),(55,[3,6,10,11]),(1047,[3,5,11]),(2071,[3,5,10]),(1063,[3,4,11]),(2087,[3,4,10]),(3079,[3,4,5,12]),(115,[2,7,10,11]),(1075,[2,6,11]),(2099,[2,6,10]),(3091,[2,5,12]),(3107,[2,4,12]),(7171,[2,4,5]),(241,[1,8,10,11]),(1137,[1,7,11]),(2161,[1,7,10]),(3121,[1,6,12]),(7185,[1,5]),(7201,[1,4]),(242,[0,8,10,11]),(1138,[0,7,11]),(2162,[0,7,10]),(3122,[0,6,12]),(7186,[0,5]),(7202,[0,4]),(496,[0,1,10,11]),(1264,[0,1,8,11]),(2288,[0,1,8,10]),(3184,[0,1,7,12]),(7216,[0,1,6]),(63,[6,10,11]),(1055,[5,11]),(2079,[5,10]),(1071,[4,11]),(2095,[4,10]),(3087,[4,5,12]),(119,[3,7,10,11]),(1079,[3,6,11]),(2103,[3,6,10]),(3095,[3,5,12]),(3111,[3,4,12]),(7175,[3,4,5]),(243,[2,8,10,11]),(1139,[2,7,11]),(2163,[2,7,10]),(3123,[2,6,12]),(7187,[2,5]),(7203,[2,4]),(497,[1,10,11]),(1265,[1,8,11]),(2289,[1,8,10]),(3185,[1,7,12]),(7217,[1,6]),(498,[0,10,11]),(1266,[0,8,11]),(2290,[0,8,10]),(3186,[0,7,12]),(7218,[0,6]),(1520,[0,1,11]),(2544,[0,1,10]),(3312,[0,1,8,12]),(7280,[0,1,7]),(127,[7,10,11]),(1087,[6,11]),(2111,[6,10]),(3103,[5,12]),(3119,[4,12]),(7183,[4,5]),(247,[3,8,10,11]),(1143,[3,7,11]),(2167,[3,7,10]),(3127,[3,6,12]),(7191,[3,5]),(7207,[3,4]),(499,[2,10,11]),(1267,[2,8,11]),(2291,[2,8,10]),(3187,[2,7,12]),(7219,[2,6]),(1521,[1,11]),(2545,[1,10]),(3313,[1,8,12]),(7281,[1,7]),(1522,[0,11]),(2546,[0,10]),(3314,[0,8,12]),(7282,[0,7]),(3568,[0,1,12]),(7408,[0,1,8]),(255,[8,10,11]),(1151,[7,11]),(2175,[7,10]),(3135,[6,12]),(7199,[5]),(7215,[4]),(503,[3,10,11]),(1271,[3,8,11]),(2295,[3,8,10]),(3191,[3,7,12]),(7223,[3,6]),(1523,[2,11]),(2547,[2,10]),(3315,[2,8,12]),(7283,[2,7]),(3569,[1,12]),(7409,[1,8]),(3570,[0,12]),(7410,[0,8]),(7664,[0,1]),(511,[9,10,11]),(1279,[8,11]),(2303,[8,10]),(3199,[7,12]),(7231,[6]),(1527,[3,11]),(2551,[3,10]),(3319,[3,8,12]),(7287,[3,7]),(3571,[2,12]),(7411,[2,8]),(7665,[1]),(7666,[0]),(1023,[10,11]),(1535,[9,11]),(2559,[9,10]),(3327,[8,12]),(7295,[7]),(3575,[3,12]),(7415,[3,8]),(7667,[2]),(2047,[11]),(3071,[10]),(3583,[9,12]),(7423,[8]),(7671,[3]),(4095,[12]),(7679,[9]),(8191,[13]),(16383,[14])]) 32767 A0a A0a ?_ ?_ ?_
         . exact WG
         . simp only[uR77,List.map_cons,List.map_nil,List.cons_append,List.nil_append,Nat.reducePow,Nat.reduceOr];simp +decide (maxSteps:=100000000) only[go_sem,Nat.reduceBEq,adm,lN,tN,pl,pr,g1,g2,g3,i0,k0,hk1,q2]
         . simp +decide only[go_sem,Nat.reduceBEq,eq]<;>(repeat' first|rfl|constructor)
        case cont10=>intro a0 w1 h1;refine⟨.inl rfl,?_⟩;rw[e5,e6];exact h1
 . have c1:decide ((i:Int)<l.length)=false:=Io A0b;have e:l.take i=l:=ady A0b;rw[e] at h1;refine wpIn_seq (SV hE hm 0 [(0,.sl nl sz (l.map bS) none),(3,.sl ((cq kZ l).map bS).isEmpty 20 ((cq kZ l).map bS) (some 68))] [] A0a A0a h1 A06 ?_);intro a0 w1 h1;simp only[Exit.inBlock,Exit.then,adB];refine SW hE hm [(2,.sl ((cq kZ l).map bS).isEmpty 20 ((cq kZ l).map bS) (some 68))] [] A0a A0a h1 A0d ?_;intro a0 w1 h1;refine⟨.inr rfl,_,_,_,_,h1,rfl,rfl,by simp +decide only[go_sem,Nat.reduceBEq,eq]<;>rfl,fun v m' gs k1 _ _ k4 _ _=>⟨m',k1,k4⟩⟩
variable{v:Value}
theorem Tx{u:V}(h:Rd m w v u)(hu:u.cell=true):(V.x v).cell=true:=by
 cases h with
 |undef v=>simp[V.cell] at hu
 |x v=>exact hu
 |agg cs Cs hl h=>simp[V.cell] at hu
 |tup cs Cs hl h=>simp[V.cell] at hu
 |nil sz tok=>rfl
 |emp a cap sz=>rfl
 |dyn t v=>rfl
 |sl blk off cap sz es tok c hb hcap hsz hc hm hr=>rfl
 |ip blk off cs c hb hc hm hr=>rfl
 |fm blk ks vs ents clock hb hh hm hk hv hkey hbn hd hr=>rfl
abbrev ER:={p:En×RE//p.2.1=p.1.1}
def TR(p:ER):C3:=p.1.1.1
def Both(m:Lim)(w:World)(p:ER):Prop:=zN p.1.2∧∀(j:Nat) (x:Value) (d:V),(gY p.1.2)[j]?=some x->(cj p.1.1).cells[j]?=some d->Rd m w x d
theorem Both.mono{m':Lim}{w':World}(he:Ext m w m' w'){p:ER}(h:Both m w p):Both m' w' p:=⟨h.1,fun j x d h1 h2=>(h.2 j x d h1 h2).mono he⟩
theorem rp(e:En):(cj e).cells.length=20:=rfl
theorem Ty(e:En):(cj e).cells.all V.cell=true:=by obtain⟨c,b,n,v⟩:=e;cases n<;>rfl
theorem Qo{l:List En}(h:Rd m w v (.sl nl sz (l.map cj) none)):∃Z:List ER,Z.map (fun p=>p.1.1)=l∧(∀p∈Z,Both m w p)∧Rd m w v (.sl nl sz ((Z.map fun p=>p.1.2).map bS) none):=by
 generalize hes:l.map cj=es at h;cases h with
 | nil sz tok=>
   have hl:l=[]:=by
    cases l with
    |nil=>rfl
    |cons a l=>cases hes
   exact⟨[],hl.symm,fun _ h=>A09,.nil sz none⟩
 | emp a cap sz=>
   have hl:l=[]:=by
    cases l with
    |nil=>rfl
    |cons a l=>cases hes
   exact⟨[],hl.symm,fun _ h=>A09,.emp a cap sz⟩
 | sl blk off cap sz es tok c hb hcap hsz hcell hm hr=>
   let f:Nat×En->ER:=fun q=>⟨(q.2,(q.2.1,(List.range 17).map fun j=>c (q.1*sz+(3+j)))),rfl⟩
   have hat:∀i e,l[i]?=some e->es[i]?=some (cj e):=fun i e h=>by rw[<-hes,ac9,h];rfl
   have hcs:∀i e,l[i]?=some e->∀(j:Nat) (d:V),(cj e).cells[j]?=some d->Rd m w (c (i*sz+j)) d:=fun i e h j d hd=>hr i _ (hat i e h) j d hd
   have hraw:∀i e,l[i]?=some e->∀j,j<20->(gY (f (i,e)).1.2)[j]?=some (c (i*sz+j)):=by
    intro i e h j hj;have h0:=Rd.x_iff.1 (hcs i e h 0 (.x (.string e.1.1)) rfl);have h1:=Rd.x_iff.1 (hcs i e h 1 (.i e.1.2.1) rfl);have h2:=Rd.x_iff.1 (hcs i e h 2 (.i e.1.2.2) rfl)
    match j,hj with
    |0,_=>show some (Value.string e.1.1)=_;rw[h0]
    |1,_=>show some (Value.int .i64 e.1.2.1)=_;rw[h1]
    |2,_=>show some (Value.int .i64 e.1.2.2)=_;rw[h2]
    |j+3,hj=>show((List.range 17).map fun j=>c (i*sz+(3+j)))[j]?=_;rw[ac9,aeD A0b,aea,Nat.add_comm 3 j]
   have hlz:((List.range l.length).zip l).map (fun q=>q.2)=l:=List.map_snd_zip A0k;have hmem:∀q∈(List.range l.length).zip l,l[q.1]?=some q.2:=fun q hq=>by obtain⟨t,ht⟩:=aen hq;rw[afn] at ht;have h1:=(iO.1 ht.1).1;rw[afi] at h1;rw[aeD h1] at ht;rw[<-afo ht.1];exact ht.2
   refine⟨((List.range l.length).zip l).map f,by rw[aes];exact hlz,fun p hp=>?_,?_⟩
   . obtain⟨q,hq,rfl⟩:=ads.1 hp;have hq':=hmem q hq;refine⟨⟨by simp[f],fun v hv=>?_⟩,fun j x d hx hd=>?_⟩
     . obtain⟨j,hj,rfl⟩:=ads.1 hv;have hj:=adU.1 hj;have hd:(cj q.2).cells[3+j]?=some ((cj q.2).cells[3+j]'(by rw[rp];omega)):=io _;exact Tx (hcs q.1 q.2 hq' (3+j) _ hd) (adr.1 (Ty q.2) _ (adg hd))
     . have hj:j<20:=by have:=(iO.1 hd).1;rwa [rp] at this
       rw[hraw q.1 q.2 hq' j hj] at hx;cases hx;exact hcs q.1 q.2 hq' j d hd
   . have hl1:es.length=l.length:=by rw[<-hes,eq]
     have hl2:(((((List.range l.length).zip l).map f).map fun p=>p.1.2).map bS).length=es.length:=by rw[eq,eq,eq,List.length_zip,afi,hl1,Nat.min_self]
     have hre:∀(i:Nat) (e':V),(((((List.range l.length).zip l).map f).map fun p=>p.1.2).map bS)[i]?=some e'->∃e,l[i]?=some e∧e'=bS (f (i,e)).1.2:=fun i e' hi=>by simp only[ac9,adn] at hi;obtain⟨_,⟨_,⟨q,hq,rfl⟩,rfl⟩,rfl⟩:=hi;rw[afn] at hq;have h1:=(iO.1 hq.1).1;rw[afi] at h1;rw[aeD h1] at hq;obtain⟨i',e⟩:=q;cases hq.1;exact⟨e,hq.2,rfl⟩
     have hsz20:∀i e,l[i]?=some e->sz=20:=fun i e h=>by rw[<-hsz i _ (hat i e h)];exact rp e
     have hrl:∀q:Nat×En,(bS (f q).1.2).cells.length=20:=fun q=>by simp[bS,V.cells,f]
     have:=Rd.sl (m:=m) (w:=w) blk off cap sz (((((List.range l.length).zip l).map f).map fun p=>p.1.2).map bS) none c hb (by rw[hl2];exact hcap) (fun i e' hi=>by
      obtain⟨e,he,rfl⟩:=hre i e' hi;rw[hrl,hsz20 i e he]) (fun k hk=>hcell k (by rwa [hl2] at hk)) (fun fr hf=>by rw[hl2];exact hm fr hf) (fun i e' hi j d hd=>by
      obtain⟨e,he,rfl⟩:=hre i e' hi;have hj:j<20:=by have:=(iO.1 hd).1;rwa [hrl] at this
      have hx:=hraw i e he j hj;have hd2:(bS (f (i,e)).1.2).cells=(gY (f (i,e)).1.2).map V.x:=by simp[bS,gY,V.cells]
      rw[hd2,ac9,hx] at hd;cases hd;exact .x _)
     rwa [hl2] at this
theorem HL{Z:List ER}(h:Rd m w v (.sl nl 20 ((Z.map fun p=>p.1.2).map bS) none))(hz:∀p∈Z,Both m w p):Rd m w v (.sl nl 20 ((Z.map fun p=>p.1.1).map cj) none):=by
 generalize hes:(Z.map fun p=>p.1.2).map bS=es at h;have hl:((Z.map fun p=>p.1.1).map cj).length=es.length:=by rw[<-hes];simp
 cases h with
 |nil sz tok=>rw[aem.1 hl];exact .nil _ none
 |emp a cap sz=>rw[aem.1 hl];exact .emp a cap _
 | sl blk off cap sz es tok c hb hcap hsz hcell hm hr=>
   have:=Rd.sl (m:=m) (w:=w) blk off cap 20 ((Z.map fun p=>p.1.1).map cj) none c hb (by rw[hl];exact hcap) (fun i e' hi=>by
    rw[ac9,adn] at hi;obtain⟨e,_,rfl⟩:=hi;exact rp e) (fun k hk=>hcell k (by rwa [hl] at hk)) (fun fr hf=>by rw[hl];exact hm fr hf) (fun i e' hi j d hd=>by
    simp only[ac9,adn] at hi;obtain⟨_,⟨p,hp,rfl⟩,rfl⟩:=hi;obtain⟨h1,h2⟩:=hz p (adg hp);have hj:j<20:=by have:=(iO.1 hd).1;rwa [rp] at this
    have hx:(gY p.1.2)[j]?=some ((gY p.1.2)[j]'(by simp[gY,h1.1];omega)):=io _;have hd2:(bS p.1.2).cells[j]?=some (.x ((gY p.1.2)[j]'(by simp[gY,h1.1];omega))):=by rw[show(bS p.1.2).cells=(gY p.1.2).map V.x by simp[bS,gY,V.cells],ac9,hx];rfl
    have:=hr i (bS p.1.2) (by rw[<-hes,ac9,ac9,hp];rfl) j _ hd2;rw[Rd.x_iff.1 this];exact h2 j _ d hx hd)
   rwa [hl] at this
theorem ME:cg 13 (FE cd oE):=by
 refine⟨fun a w=>call13 a w,fun m w vs us r hF hdat hr hj hg=>?_⟩;obtain⟨⟨nl,sz,l⟩,hus,hG⟩:=bh hF;subst hus;unfold oE at hG;split at hG
 case isFalse=>cases hG
 rename_i hok;cases hG;obtain⟨hsz,hl4,_⟩:=hok;simp only at hsz hl4;obtain⟨vl⟩:=vs;cases vl with
 |nil=>exact hr.elim
 | cons v0 vl=>
   cases vl with
   |cons _ _=>exact hr.2.elim
   | nil=>
     obtain⟨Z,hZ,hbo,hrd⟩:=Qo hr.1;simp only at hZ hrd;have hZl:Z.length=l.length:=by rw[<-hZ,eq]
     have hc:=CY (vs:= #[v0]) (l:=Z.map fun p=>p.1.2) (nl:=nl) (sz:=sz) ⟨fun hn=>hsz (by
      intro e;rw[e] at hZl;exact hn (by rw[aem.1 hZl];rfl)),by show(Z.map fun p=>p.1.2).length<=400;rw[eq];omega,fun e he=>by
      obtain⟨p,hp,rfl⟩:=ads.1 he;exact(hbo p hp).1⟩ ⟨hrd,trivial⟩ hj (fun g=> .undef _)
     refine hc.mono ?_;rintro e w' ⟨v,rfl,m',h1,h2⟩;have e1:(cq TR Z).map (fun p=>p.1.2)=cq kZ (Z.map fun p=>p.1.2):=tC (ka:=TR) (kb:=kZ) (f:=fun p:ER=>p.1.2) (fun p=>p.2) Z;have e2:(cq TR Z).map (fun p=>p.1.1)=aS l:=by rw[tC (ka:=TR) (kb:=fun e:En=>e.1) (f:=fun p:ER=>p.1.1) (fun _=>rfl) Z,hZ];exact Qi l
     rw[<-e1] at h1;have h3:=HL h1 (fun p hp=>(hbo p (tD TR hp)).mono h2.ext);have hem:((cq kZ (Z.map fun p=>p.1.2)).map bS).isEmpty=((aS l).map cj).isEmpty:=by rw[<-e1,<-e2];cases cq TR Z<;>rfl
     refine⟨v,m',rfl,?_,h2.below (fun _ _ h=>h),fun k hk=>(h2.same k hk (fun h=>h)).2⟩;show Rd m' w' v (.sl ((aS l).map cj).isEmpty 20 ((aS l).map cj) none);rw[<-hem,<-e2,<-e1];exact h3
theorem Qp:cg 6 (FE cd qM):=Lt ME
def lB(e:En):Prop:=((kI 101 e.2.2.1:Nat):Int)<=400∧(e.2.2.2.2.2.size:Int)<=400∧(e.1.1.size:Int)<=50
def Tz(p:ES):Prop:=(p.2.2≠[]->p.2.1=20)∧p.2.2.length<=281474976710656
open Classical in
noncomputable def MW(p:ES):Option V:=if Tz p then some (.bool (decide ((∀e∈p.2.2,lB e)∧(p.2.2.length:Int)<=24))) else none
theorem MF(e:En):∃N:U,cj e= .agg (.x (.string e.1.1):: .i e.1.2.1:: .i e.1.2.2:: .bool e.2.1::(N++[.i e.2.2.2.1,.i e.2.2.2.2.1,.x (.string e.2.2.2.2.2)]))∧N.length=13∧ar e.2.2.1= .agg N∧∀T,(N++T).take 13=N∧(N++T).drop 13=T:=
 ⟨iJ e.2.2.1.hd (mL e.2.2.1),rfl,rfl,bm _,fun _=>⟨rfl,rfl⟩⟩
open Classical in
theorem HM:cg 5 (FE cd MW):=by
 refine aE (E:=aI [(12,Sw)]) (k:=1) (aU _ ⟨OU,trivial⟩) A0a func5 rfl (fun a w=>call5 a w) ntmps5 A0a A0c A0c ?_;intro us r hF hdat;obtain⟨⟨nl,sz,l⟩,hus,hG⟩:=bh hF;subst hus;unfold MW at hG;split at hG
 case isFalse=>cases hG
 rename_i hok;cases hG;obtain⟨hsz,hlen⟩:=hok;simp only at hsz hlen;refine⟨rfl,?_⟩;simp only[cd];simp +decide only[go_sem,eq];refine aT (X:={i:Nat//i<=l.length∧∀e∈l.take i,lB e}) (fun i=>[(0,.sl nl sz (l.map cj) none),(3,.i i.1)]) (fun _=>[]) (fun i=>l.length-i.1) ⟨0,adN _,fun e he=>by simp at he⟩ A0y A0e (fun⟨i,hi0,hfi⟩=>?_);simp only at hi0 hfi⊢;by_cases hi:i<l.length
 . have c1:decide ((i:Int)<l.length)=true:=ac0 A0b;have c1':(i:Int)<l.length:=A0b
   have c2:(0:Int)<=(i:Int):=A0b
   have c4:=ax (i:=i) A0b;have q1:l[i]?=some l[i]:=io hi;have q2:(l.map cj)[(i:Int).toNat]?=some (cj l[i]):=by rw[tl,ac9,q1];rfl
   obtain rfl:=hsz (fun h=>by rw[h] at hi;simp at hi);have hmem:=adR hi;have hstep:lB l[i]->∀e∈l.take (i+1),lB e:=fun h e he=>by
    rw[aF q1,adv] at he;rcases he with he|he
    . exact hfi e he
    . rw[adj.1 he];exact h
   have hno: ¬lB l[i]->decide ((∀e∈l,lB e)∧(l.length:Int)<=24)=false:=fun h=>Io (fun h2=>h (h2.1 _ hmem))
   generalize l[i]=e at q2 hmem hstep hno;obtain⟨N,hN,lN,hnd,hNT⟩:=MF e;rw[hN] at q2;have hfw:=OT e.2.2.1;rw[hnd] at hfw;have t1:=fun T=>(hNT T).1
   have t2:=fun T=>(hNT T).2
   by_cases h1:((kI 101 e.2.2.1:Nat):Int)<=400
   case neg=>rw[Io h1] at hfw;have hn:=hno (fun h=>h1 h.1);rw[hn];simp +decide only[go_sem,eq,adm,adh,lN,t1,t2,c1,c1',c2,q2,hfw]
   rw[ac0 h1] at hfw;by_cases h2:(e.2.2.2.2.2.size:Int)<=400
   case neg=>have d2:decide ((400:Int)<(e.2.2.2.2.2.size:Int))=true:=ac0 A0b;have hn:=hno (fun h=>h2 h.2.1);rw[hn];simp +decide only[go_sem,eq,adm,adh,lN,t1,t2,c1,c1',c2,q2,hfw,d2]
   have d2:decide ((400:Int)<(e.2.2.2.2.2.size:Int))=false:=Io A0b;by_cases h3:(e.1.1.size:Int)<=50
   case neg=>have d3:decide ((50:Int)<(e.1.1.size:Int))=true:=ac0 A0b;have hn:=hno (fun h=>h3 h.2.2);rw[hn];simp +decide only[go_sem,eq,adm,adh,lN,t1,t2,c1,c1',c2,q2,hfw,d2,d3]
   have d3:decide ((50:Int)<(e.1.1.size:Int))=false:=Io A0b;simp +decide only[go_sem,eq,adm,adh,lN,t1,t2,c1,c1',c2,c4,q2,hfw,d2,d3];refine⟨⟨i+1,hi,hstep ⟨h1,h2,h3⟩⟩,?_,?_,?_⟩
   . simp +decide only[go_sem]
   . simp +decide only[go_sem]
   . simp only;omega
 . have c1:decide ((i:Int)<l.length)=false:=Io A0b;have hall:∀e∈l,lB e:=by rw[ady A0b] at hfi;exact hfi
   have e1:decide ((∀e∈l,lB e)∧(l.length:Int)<=24)=decide ((l.length:Int)<=24):=by rw[ae3,adS,adS];exact⟨fun h=>h.2,fun h=>⟨hall,h⟩⟩
   simp +decide only[go_sem,eq,c1,e1]
theorem zP(c:C3)(f:En->RC):∀L:List En,(L.zip (L.map f)).find? (fun q=>eE q.1.1 c)=(L.find? fun e=>eE e.1 c).map fun e=>(e,f e)
 |[]=>rfl
 | e::L=>by
   rw[adL,List.zip_cons_cons,agF,agF];cases h:eE e.1 c with
   |true=>rfl
   |false=>exact zP c f L
theorem MG(l:List En)(c:C3):∃nl z,yX (mb l) c= .sl nl z ((ft (aS l) c).map aa) none∧(ft (aS l) c≠[]->z=3):=by
 unfold yX ft;rw[show((mb l).1.2.2.zip (mb l).2.2.2)=(aS l).zip ((aS l).map (Td (aS l))) from rfl,zP];cases(aS l).find? (fun e=>eE e.1 c) with
 |none=>exact⟨true,0,rfl,fun h=>absurd rfl h⟩
 | some e=>
   refine⟨_,_,rfl,fun h=>?_⟩;show(if e.2.1=true then 3 else 0)=3;split
   . rfl
   . rename_i hf;refine absurd ?_ h;show bJ (aS l) e=[];unfold bJ;rw[adq hf]

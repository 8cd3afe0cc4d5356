/- Chapter 12: the reference's Last: its entries' cells as very values; a row written within. -/
import Derived.Test.YtalkmhjanlljhaaGreatMD
import Derived.Test.YtalkmhjanlljhaaGreatMH
import Derived.Test.YtalkmhjanlljhaaGreatMZ
import Derived.Test.YtalkmhjanlljhaaGreatMR
namespace Go.Proofs.YtalkmhjanlljhaaGreat
set_option linter.unusedSimpArgs false
set_option maxHeartbeats 64000000
set_option maxRecDepth 100000
open Go Go.RowKit
attribute [go_sem] Tryz.results3 Tryz.results29
def gv {α:Type} (key:α->C3) (out:List α) (e:α):List α:=
 out.takeWhile (fun x=>ac (key x) (key e))++e::(match out.dropWhile (fun x=>ac (key x) (key e)) with
  |x::r=>if key x=key e then r else x::r
  |[]=>[])
def bO {α:Type} (key:α->C3) (l:List α):List α:=l.foldl (gv key) []
variable {α:Type}
theorem FS {β:Type} {ka:α->C3} {kb:β->C3} {f:α->β} (hf:∀x,kb (f x)=ka x) (out:List α) (e:α):(gv ka out e).map f=gv kb (out.map f) (f e):=by
 have h1:(out.map f).takeWhile (fun x=>ac (kb x) (kb (f e)))=(out.takeWhile fun x=>ac (ka x) (ka e)).map f:=by rw[List.takeWhile_map];congr 1;congr 1;funext x;simp only[Function.comp,hf]
 have h2:(out.map f).dropWhile (fun x=>ac (kb x) (kb (f e)))=(out.dropWhile fun x=>ac (ka x) (ka e)).map f:=by rw[List.dropWhile_map];congr 1;congr 1;funext x;simp only[Function.comp,hf]
 unfold gv;rw[h1,h2,Vy,VC];congr 2;generalize out.dropWhile (fun x=>ac (ka x) (ka e))=r;cases r with
 |nil=>rfl
 |cons y r=>simp only[VC,hf];split<;>rfl
theorem qf {β:Type} {ka:α->C3} {kb:β->C3} {f:α->β} (hf:∀x,kb (f x)=ka x) (l:List α):(bO ka l).map f=bO kb (l.map f):=by
 have key:∀(l out:List α),(l.foldl (gv ka) out).map f=(l.map f).foldl (gv kb) (out.map f):=by
  intro l
  induction l with
  |nil=>exact fun _=>rfl
  |cons e l ih=>intro out;rw[Wc,ih,FS hf,VC,Wc]
 exact key l []
theorem Ly (out:List En) (e:En):gv (fun e:En=>e.1) out e=lG out e:=by
 unfold gv lG;simp only;congr 2;cases out.dropWhile (fun x=>ac x.1 e.1) with
 |nil=>rfl
 |cons x r=>rfl
theorem IT (l:List En):bO (fun e:En=>e.1) l=aE l:=by unfold bO aE;congr 1;funext out e;exact Ly out e
theorem yb (key:α->C3) (l:List α) (e:α):bO key (l++[e])=gv key (bO key l) e:=by unfold bO;rw[Xl];rfl
theorem FT (key:α->C3) (out:List α) (e:α):(gv key out e).length<=out.length+1:=by
 have h0:=WP List.length (V2 (p:=fun x=>ac (key x) (key e)) (l:=out));rw[U4] at h0;unfold gv;rw[U4,U3];generalize out.dropWhile (fun x=>ac (key x) (key e))=r at h0;cases r with
 |nil=>simp at h0⊢;omega
 | cons y r=>
   simp only[U3] at h0⊢;split
   . omega
   . rw[U3];omega
theorem FU (key:α->C3) {out:List α} {e x:α} (h:x∈gv key out e):x=e∨x∈out:=by
 have e0:=V2 (p:=fun x=>ac (key x) (key e)) (l:=out);unfold gv at h;rcases Vl.1 h with h|h
 . exact .inr (by rw[<-e0];exact VQ _ h)
 . rcases Vf.1 h with h|h
   . exact .inl h
   . right;rw[<-e0];refine V7 _ ?_;generalize out.dropWhile (fun x=>ac (key x) (key e))=r at h;cases r with
     |nil=>cases h
     | cons y r=>
       simp only at h;split at h
       . exact Vr _ h
       . exact h
theorem qg (key:α->C3) {l:List α}:∀{x:α},x∈bO key l->x∈l:=by
 have key':∀(l out:List α) (x:α),x∈l.foldl (gv key) out->x∈out∨x∈l:=by
  intro l
  induction l with
  |nil=>exact fun out x h=> .inl h
  | cons e l ih=>
    intro out x h;rcases ih _ x h with h|h
    . rcases FU key h with h|h
      . exact .inr (h▸Vv ..)
      . exact .inl h
    . exact .inr (Vr _ h)
 intro x h;exact(key' l [] x h).resolve_left (by simp)
theorem Cp (key:α->C3) (l:List α):(bO key l).length<=l.length:=by
 have key':∀(l out:List α),(l.foldl (gv key) out).length<=out.length+l.length:=by
  intro l
  induction l with
  |nil=>exact fun out=>Vb _
  |cons e l ih=>intro out;have h1:=ih (gv key out e);have h2:=FT key out e;rw[Wc,U3];omega
 have:=key' l [];simpa[bO] using this
abbrev RE:=C3×List Value
def jH (e:RE):C3:=e.1
def bG (e:RE):V:= .agg (.x (.string e.1.1):: .x (.int .i64 e.1.2.1):: .x (.int .i64 e.1.2.2)::e.2.map V.x)
def vd (e:RE):Prop:=e.2.length=17∧∀v∈e.2,(V.x v).cell=true
theorem mS (e:RE) (h:vd e):∃M:List V,bG e= .agg (.x (.string e.1.1):: .x (.int .i64 e.1.2.1):: .x (.int .i64 e.1.2.2)::M)∧M.length=17∧M.take 17=M:=by refine⟨_,rfl,by rw[eq];exact h.1,Vp (by rw[eq];exact Nat.le_of_eq h.1)⟩
variable {l:List RE}
theorem yd (h:∀e∈l,vd e):((l.map bG).all fun u=>u.cells.all V.cell)=true:=U8.2 fun u hu=>by
 obtain⟨e,he,rfl⟩:=U7.1 hu;refine U8.2 fun c hc=>?_
 simp only[bG,V.cells,Vf,U7] at hc;rcases hc with rfl|rfl|rfl|⟨v,hv,rfl⟩
 . rfl
 . rfl
 . rfl
 . exact(h e he).2 v hv
variable {E:Env}
theorem IU (hP:E.P=Tryz.prog) {a b:List RE} (h:a.length+b.length<=1000) (hb:∀e∈b,vd e) (st:St) (d tok sz:Nat) (nl:Bool) (t':Option Nat) (hs:sz=20∨b.map bG=[]):
 bi E st (some d) 52 (.sl false 20 (a.map bG) (some tok)) (.sl nl sz (b.map bG) t')=some ⟨aD (strip tok (strip d st.t)) d (.sl false 20 ((a++b).map bG) (some d)),aB E tok (aB E d st.b)⟩:=by
 have e1:bq E.P 52=some 20:=by rw[hP];exact wq
 obtain⟨by',e2,h2⟩:∃by',bV E.P 52=some by'∧by'<=1000:=⟨_,by rw[hP];exact Dd,by decide⟩;obtain⟨z,e3,h3⟩:∃z,ay E.P 52=some z∧z.length=20:=⟨_,by rw[hP];exact De,rfl⟩;unfold bi;simp only[e1,e2,e3];have hm:((a.map bG).length+(b.map bG).length)*by'<=1000*1000:=XP (by rw[eq,eq];omega) h2;rw[Va ⟨by decide,h3,trivial,hs,yd hb,by omega,by rw[eq,eq];omega⟩,Vy]
theorem FV (hP:E.P=Tryz.prog) {b:List RE} (h:b.length<=1000) (hb:∀e∈b,vd e) (st:St) (d n sz:Nat) (nl:Bool) (t':Option Nat) (hs:sz=20∨b.map bG=[]):
 bi E st (some d) 52 (.sl true n [] none) (.sl nl sz (b.map bG) t')=some ⟨aD (strip d st.t) d (.sl (b.map bG).isEmpty 20 (b.map bG) (some d)),aB E d st.b⟩:=by
 have e1:bq E.P 52=some 20:=by rw[hP];exact wq
 obtain⟨by',e2,h2⟩:∃by',bV E.P 52=some by'∧by'<=1000:=⟨_,by rw[hP];exact Dd,by decide⟩;obtain⟨z,e3,h3⟩:∃z,ay E.P 52=some z∧z.length=20:=⟨_,by rw[hP];exact De,rfl⟩;unfold bi;simp only[e1,e2,e3];have hm:(b.map bG).length*by'<=1000*1000:=XP (by rw[eq];omega) h2;rw[Va ⟨by decide,h3,hs,yd hb,by omega,by rw[eq];omega⟩];rfl
theorem FW (hP:E.P=Tryz.prog) {a:List RE} {e:RE} (h:a.length<=999) (hb:vd e) (st:St) (d tok:Nat) (nl:Bool) (t':Option Nat):
 bi E st (some d) 52 (.sl (a.map bG).isEmpty 20 (a.map bG) (some tok)) (.sl nl 20 [bG e] t')=some ⟨aD (strip tok (strip d st.t)) d (.sl false 20 ((a++[e]).map bG) (some d)),aB E tok (aB E d st.b)⟩:=by
 obtain⟨by',e2,h2⟩:∃by',bV E.P 52=some by'∧by'<=1000:=⟨_,by rw[hP];exact Dd,by decide⟩;obtain⟨z,e3,h3⟩:∃z,ay E.P 52=some z∧z.length=20:=⟨_,by rw[hP];exact De,rfl⟩;have hm:((a.map bG).length+1)*by'<=1000*1000:=XP (by rw[eq];omega) h2;have hone:(bG e).cells.all V.cell=true:=by have:=yd (l:=[e]) (fun x hx=>by rw[Vo.1 hx];exact hb);simpa using this
 rw[Vy];exact cL (E:=E) (n:=20) (by rw[hP];exact wq) e2 e3 (by decide) h3 hone (by omega) (by rw[eq];omega) st d tok nl t'
variable {i:Nat}
theorem FX:List.take ((i:Int).toNat-0) (l.map bG)=(l.take i).map bG:=by simp[List.map_take]
theorem FY:List.take ((((l.map bG).length:Nat):Int).toNat-(i:Int).toNat) (List.drop (i:Int).toNat (l.map bG))=(l.drop i).map bG:=by rw[U2,U2,List.map_drop,Vp (by simp)]
theorem zM {e:RE} (h:l[i]?=some e):(l.map bG)[((i:Nat):Int).toNat]?=some (bG e):=by rw[U2,U5,h];rfl
variable {c:C3} {k:Nat}
theorem zN (hk:k<=l.length) (h1:∀(j:Nat) (q:RE),j<k->l[j]?=some q->ac q.1 c=true) (h2:∀q,l[k]?=some q->ac q.1 c=false) (e:RE) (he:e.1=c):
 gv jH l e=l.take k++e::(match l.drop k with
  |x::r=>if x.1=c then r else x::r
  |[]=>[]):=by
 obtain⟨q1,q2⟩:=gI (fun q:RE=>ac q.1 c) l k hk h1 h2;unfold gv jH;rw[he,q1,q2];congr 2;cases l.drop k with
 |nil=>rfl
 |cons x r=>rfl
theorem IV (hk:k<=l.length) (h1:∀(j:Nat) (q:RE),j<k->l[j]?=some q->ac q.1 c=true) (h2:∀q,l[k]?=some q->ac q.1 c=false) (h3:∀q,l[k]?=some q->q.1≠c) (e:RE) (he:e.1=c):gv jH l e=(l.take k++[e])++l.drop k:=by
 rw[zN hk h1 h2 e he,WC,List.singleton_append];congr 2;cases hd:l.drop k with
 |nil=>rfl
 | cons x r=>
   have hx:l[k]?=some x:=by have:=WP List.head? hd;rw[List.head?_drop] at this;exact this
   simp only;rw[Vh (h3 x hx)]
theorem IW {q0:RE} (h1:∀(j:Nat) (q:RE),j<k->l[j]?=some q->ac q.1 c=true) (hq:l[k]?=some q0) (hc:q0.1=c) (e:RE) (he:e.1=c):gv jH l e=l.set k e:=by
 have hk:=(Io.1 hq).1;rw[zN (X7 hk) h1 (fun q h=>by rw[hq] at h;cases h;rw[hc];exact bH.irr _) e he,WZ hk];have hx:l[k]=q0:=by have:=io hk;rw[hq] at this;exact(W0 this).symm
 simp only[hx];rw[Va hc,List.set_eq_take_append_cons_drop,Va hk]
def fV (e:RE):List Value:= .string e.1.1:: .int .i64 e.1.2.1:: .int .i64 e.1.2.2::e.2
theorem ve:∀l:List Value,(l.map V.x).mapM V.one=some l
 |[]=>rfl
 |v::l=>by rw[VC,WX,ve l];rfl
theorem IX (e:RE):(bG e).val=some (.agg (fV e).toArray):=by show(((fV e).map V.x).mapM V.one).map (fun l=>Value.agg l.toArray)=_;rw[ve];rfl
theorem IY (l:List RE) (c:C3):∃k,k<=l.length∧(∀(j:Nat) (q:RE),j<k->l[j]?=some q->ac q.1 c=true)∧∀q,l[k]?=some q->ac q.1 c=false:=by
 induction l with
 |nil=>exact⟨0,Vb _,fun j q h=>by omega,fun q h=>by simp at h⟩
 | cons x l ih=>
   cases hx:ac x.1 c with
   |false=>exact⟨0,VJ _,fun j q h=>by omega,fun q h=>by simp at h;rw[<-h];exact hx⟩
   | true=>
     obtain⟨k,h1,h2,h3⟩:=ih;refine⟨k+1,by simpa using h1,fun j q hj hq=>?_,fun q hq=>h3 q (by simpa using hq)⟩;cases j with
     |zero=>simp at hq;rw[<-hq];exact hx
     |succ j=>exact h2 j q (by omega) (by simpa using hq)
abbrev RS:=Bool×Nat×List RE
def Ud (p:RS):Prop:=(p.2.2≠[]->p.2.1=20)∧p.2.2.length<=400∧∀e∈p.2.2,vd e
theorem ye:EnvOK (aP [(57,bd)] (fun _=>false) [] (fun _=>false) (fun i=>i==10)):=eH _ _ _ _ _ ⟨pz,trivial⟩ trivial
variable {m:Lim} {w:World} {nl:Bool} {sz:Nat}
theorem yf {vs:Array Value} (hok:Ud (nl,sz,l)) (hr:RdL m w vs.toList [.sl nl sz (l.map bG) none]) (hj:(aP [(57,bd)] (fun _=>false) [] (fun _=>false) (fun i=>i==10)).J w) (hg:∀g,Rd m w (.pointer (some ⟨g,0,none⟩)) ((aP [(57,bd)] (fun _=>false) [] (fun _=>false) (fun i=>i==10)).G g)):
 Calls Tryz.prog 29 vs w fun e w'=>∃v,e= .returned v∧∃m',Rd m' w' v (.sl ((bO jH l).map bG).isEmpty 20 ((bO jH l).map bG) none)∧Step (fun _=>False) m w m' w':=by
 have hE:EnvOK (aP [(57,bd)] (fun _=>false) [] (fun _=>false) (fun i=>i==10)):=ye;have hMB:∀s,(aP [(57,bd)] (fun _=>false) [] (fun _=>false) (fun i=>i==10)).MB s=false:=fun _=>rfl
 have hm:(aP [(57,bd)] (fun _=>false) [] (fun _=>false) (fun i=>i==10)).P.follows .mixedOrders=true:=by kernel_rfl
 obtain⟨hsz,hl4,hall⟩:=hok;simp only at hsz hl4 hall;refine jP (E:=(aP [(57,bd)] (fun _=>false) [] (fun _=>false) (fun i=>i==10))) (n:=70) (sz:=20) (k:=1) (Kn:=Kno.top) Tryz.func29 rfl Tryz.ntmps29 (by decide) (by decide) hr rfl rfl hj hg trivial (fun a0 hS=>?_)
 --slot 0 is kept in sight
 obtain⟨v0,hv0⟩:∃v0,a0.tmps.getD 0 Go.undef=v0:=⟨_,rfl⟩;have hrd0:Rd m w v0 (.sl nl sz (l.map bG) none):=by obtain⟨m1,O,gs,q1,_,_,_,q5,_⟩:=hS;obtain⟨b,β,hrel⟩:=q1.rel;have:=(hrel.tmps 0:Rs m1 w β _ (.sl nl sz (l.map bG) none)).rd rfl;rw[hv0] at this;have hx:Ext m1 w m w:=⟨Vb _,fun _ _ _ _ _ h=>h,fun blk hb fr hf=>⟨fr,by rw[(q5.same blk hb (fun h=>h)).2];exact hf,Vb _⟩,fun _ _ _ _ h=>h⟩;exact this.mono hx
 obtain⟨t0,ht0,h1⟩:=hS.keepS 0 v0 hv0;refine wpIn_seq (fR hE hm [(0,.sl nl sz (l.map bG) none)] [] (by kernel_rfl) (by kernel_rfl) h1 (by simp +decide (maxDischargeDepth:=200) only[go_sem,Nat.reduceBEq]<;>(repeat' first|rfl|constructor)) ?_);clear h1 hv0 hS a0;intro a0 w1 h1;refine wpIn_seq (fR hE hm [(0,.sl nl sz (l.map bG) none),(3,.sl true 0 [] none)] [] (by kernel_rfl) (by kernel_rfl) h1 (by simp +decide (maxDischargeDepth:=200) only[go_sem,Nat.reduceBEq]<;>(repeat' first|rfl|constructor)) ?_);clear h1 a0 w1;intro a0 w1 h1;refine wpIn_seq (wpIn_seq (fR hE hm [(0,.sl nl sz (l.map bG) none),(3,.sl true 0 [] none),(4,.x (.int .i64 0))] [] (by kernel_rfl) (by kernel_rfl) h1 (by simp +decide (maxDischargeDepth:=200) only[go_sem,Nat.reduceBEq]<;>(repeat' first|rfl|constructor)) ?_));clear h1 a0 w1;intro a0 w1 h1;replace h1:=(h1.nil 3 20 (some 68) (n0:=0) (k0:=none) (by simp only[go_sem,Nat.reduceEqDiff,Vc,Vi,bL,aq,A3])).le (st':=aq [(0,.sl nl sz (l.map bG) none),(3,.sl ((bO jH (l.take 0)).map bG).isEmpty 20 ((bO jH (l.take 0)).map bG) (some 68)),(4,.x (.int .i64 ((0:Nat):Int)))] []) (aK (by simp +decide (maxDischargeDepth:=200) only[go_sem,Nat.reduceBEq,VO]<;>(repeat' first|rfl|constructor)) (by simp +decide (maxDischargeDepth:=200) only[go_sem,Nat.reduceBEq]<;>(repeat' first|rfl|constructor)));refine wpIn_block (ce (X:={i:Nat//i<=l.length}) (fun i a' w'=>Hold (aP [(57,bd)] (fun _=>false) [] (fun _=>false) (fun i=>i==10)) 70 20 ⟨Kno.top,fun i=>i !=0,t0,m,w⟩ [] (aq [(0,.sl nl sz (l.map bG) none),(3,.sl ((bO jH (l.take i.1)).map bG).isEmpty 20 ((bO jH (l.take i.1)).map bG) (some 68)),(4,.x (.int .i64 ((i.1:Nat):Int)))] []) a' w') (fun i=>l.length-i.1) ⟨0,VJ _⟩ h1 ?_);clear h1 a0 w1;rintro⟨i,hi0⟩ a0 w1 h1;simp only at h1 hi0⊢;by_cases hi:i<l.length
 . have c1 :decide ((i:Int)<(l.length:Int))=true:=iO (by omega);have i0:(0:Int)<=(i:Int):=by omega
   have c4:=aF (i:=i) (by omega);have q1:l[i]?=some l[i]:=io hi;have q2:=zM q1;have hoke:=hall _ (V4 hi);obtain rfl:=hsz (fun h=>by rw[h] at hi;simp at hi);have e3:bO jH (l.take (i+1))=gv jH (bO jH (l.take i)) l[i]:=by rw[aS q1,yb]
   have hol:(bO jH (l.take i)).length<=400:=VA (Cp jH _) (by rw[Vj];omega);have hoo:∀e∈bO jH (l.take i),vd e:=fun e he=>hall e (Xg (qg jH he))
   generalize bO jH (l.take i)=out at h1 e3 hol hoo;generalize l[i]=en at q1 q2 e3 hoke;refine wpIn_seq (fR hE hm [(0,.sl nl 20 (l.map bG) none),(3,.sl ((out).map bG).isEmpty 20 ((out).map bG) (some 68)),(4,.x (.int .i64 (i:Int)))] [] (by kernel_rfl) (by kernel_rfl) h1 (by simp +decide (maxDischargeDepth:=200) only[go_sem,Nat.reduceBEq,eq,c1]<;>(repeat' first|rfl|constructor)) ?_);clear h1 a0 w1;intro a0 w1 h1;have hex:=IY out en.1;obtain⟨k,hk,hb,hs⟩:=hex;refine wpIn_seq (wpIn_block (wpIn_mono (Q:=fun e a' w'=>(e= .normal∨e= .exit 1)∧Hold (aP [(57,bd)] (fun _=>false) [] (fun _=>false) (fun i=>i==10)) 70 20 ⟨Kno.top,fun i=>i !=0,t0,m,w⟩ [] (aq [(0,.sl nl 20 (l.map bG) none),(3,.sl ((bO jH (l.take (i+1))).map bG).isEmpty 20 ((bO jH (l.take (i+1))).map bG) (some 68)),(4,.x (.int .i64 (i:Int)))] []) a' w') ?main ?tail))
   case tail=>
    rintro e a' w' ⟨he,h2⟩;rcases he with rfl|rfl<;>simp only[Exit.inBlock,Exit.then,Vi]
    . exact fR hE hm [(0,.sl nl 20 (l.map bG) none),(3,.sl ((bO jH (l.take (i+1))).map bG).isEmpty 20 ((bO jH (l.take (i+1))).map bG) (some 68)),(4,.x (.int .i64 ((i+1:Nat):Int)))] [] (by kernel_rfl) (by kernel_rfl) h2 (by simp +decide (maxDischargeDepth:=200) only[go_sem,Nat.reduceBEq,eq,c4]<;>(repeat' first|rfl|constructor)) (fun a3 w3 h3=>⟨⟨i+1,hi⟩,h3,by simp only;omega⟩)
    . exact fR hE hm [(0,.sl nl 20 (l.map bG) none),(3,.sl ((bO jH (l.take (i+1))).map bG).isEmpty 20 ((bO jH (l.take (i+1))).map bG) (some 68)),(4,.x (.int .i64 ((i+1:Nat):Int)))] [] (by kernel_rfl) (by kernel_rfl) h2 (by simp +decide (maxDischargeDepth:=200) only[go_sem,Nat.reduceBEq,eq,c4]<;>(repeat' first|rfl|constructor)) (fun a3 w3 h3=>⟨⟨i+1,hi⟩,h3,by simp only;omega⟩)
   case main=>
    refine wpIn_seq (fR hE hm [(0,.sl nl 20 (l.map bG) none),(3,.sl ((out).map bG).isEmpty 20 ((out).map bG) (some 68)),(4,.x (.int .i64 (i:Int))),(5,.x (.int .i64 0))] [] (by kernel_rfl) (by kernel_rfl) h1 (by simp +decide (maxDischargeDepth:=200) only[go_sem,Nat.reduceBEq]<;>(repeat' first|rfl|constructor)) ?_);clear h1 a0 w1;intro a0 w1 h1;obtain⟨N,hN,lN,tN⟩:=mS en hoke;rw[hN] at q2;refine wpIn_seq (fR hE hm [(0,.sl nl 20 (l.map bG) none),(3,.sl ((out).map bG).isEmpty 20 ((out).map bG) (some 68)),(4,.x (.int .i64 (i:Int))),(5,.x (.int .i64 (k:Int)))] [] (by kernel_rfl) (by kernel_rfl) h1 ?run ?cont)
    case run=>
     simp +decide (maxDischargeDepth:=200) only[go_sem,Nat.reduceBEq,eq];refine aI (X:={j:Nat//j<=k}) (fun j=>[(0,.sl nl 20 (l.map bG) none),(3,.sl ((out).map bG).isEmpty 20 ((out).map bG) (some 68)),(4,.x (.int .i64 (i:Int))),(5,.x (.int .i64 ((j.1:Nat):Int)))]) (fun _=>[]) (fun j=>k-j.1) ⟨0,VJ _⟩ (by simp +decide only[go_sem,VO]<;>(repeat' first|rfl|constructor)) (by simp +decide only[go_sem]<;>(repeat' first|rfl|constructor)) (fun⟨j,hj⟩=>?_);simp only at hj⊢;have j0:(0:Int)<=(j:Int):=by omega
     have j4:=aF (i:=j) (by omega);by_cases hjl:j<out.length
     . have d0:decide ((j:Int)<(out.length:Int))=true:=iO (by omega);have p1:out[j]?=some out[j]:=io hjl;have p2:=zM p1;obtain⟨M,hM,lM,tM⟩:=mS out[j] (hoo _ (V4 hjl));rw[hM] at p2;by_cases hjk:j<k
       . have hq:dG (out[j]).1.1 (out[j]).1.2.1 (out[j]).1.2.2 en.1.1 en.1.2.1 en.1.2.2=true:=hb j _ hjk p1;simp +decide (maxDischargeDepth:=200) only[go_sem,Nat.reduceBEq,eq,U3,lM,lN,d0,j0,j4,i0,p2,q2,bd,hq];refine⟨⟨j+1,hjk⟩,?_,?_,?_⟩
         . simp +decide (maxDischargeDepth:=200) only[go_sem,Nat.reduceBEq,eq]
         . simp +decide (maxDischargeDepth:=200) only[go_sem,Nat.reduceBEq,eq]
         . simp only;omega
       . obtain rfl:j=k:=by omega
         have hq:dG (out[j]).1.1 (out[j]).1.2.1 (out[j]).1.2.2 en.1.1 en.1.2.1 en.1.2.2=false:=hs _ p1;simp +decide (maxDischargeDepth:=200) only[go_sem,Nat.reduceBEq,eq,U3,lM,lN,d0,j0,j4,i0,p2,q2,bd,hq]
     . have d0:decide ((j:Int)<(out.length:Int))=false:=tl (by omega);obtain rfl:j=k:=by omega
       simp +decide (maxDischargeDepth:=200) only[go_sem,Nat.reduceBEq,eq,d0]
    case cont=>
     clear h1 a0 w1;intro a0 w1 h1;have k0:(0:Int)<=(k:Int):=by omega
     by_cases hf:∃q0,out[k]?=some q0∧q0.1=en.1
     . obtain⟨q0,p1,hq0⟩:=hf;have hkl:k<out.length:=(Io.1 p1).1;have d0:decide ((k:Int)<(out.length:Int))=true:=iO (by omega);have p2:=zM p1;obtain⟨M,hM,lM,tM⟩:=mS q0 (hoo _ (Vd p1));rw[hM] at p2;have hq:dD (q0.1.1,q0.1.2.1,q0.1.2.2) (en.1.1,en.1.2.1,en.1.2.2)=true:=iO hq0;refine wpIn_seq (wpIn_seq (fR hE hm [(0,.sl nl 20 (l.map bG) none),(3,.sl ((out).map bG).isEmpty 20 ((out).map bG) (some 68)),(4,.x (.int .i64 (i:Int))),(5,.x (.int .i64 (k:Int))),(47,.x (.bool true))] [] (by kernel_rfl) (by kernel_rfl) h1 (by simp +decide (maxDischargeDepth:=200) only[go_sem,Nat.reduceBEq,eq,U3,lM,lN,d0,k0,i0,p2,q2,HV,hq]<;>(repeat' first|rfl|constructor)) ?_));clear h1 a0 w1;intro a0 w1 h1;have hc:a0.eval (.tmp 47)= .bool true:=h1.val (by simp only[go_sem,Nat.reduceEqDiff,Vc,Vi,bL,aq]);refine wpIn_cond_true hc (wpIn_seq (wpIn_region ?_))
       have hem:(out.map bG).isEmpty=false:=by cases out with
        |nil=>simp at hkl
        |cons x r=>rfl
       rw[hem] at h1;refine Li hE 0 6 [(0,.sl nl 20 (l.map bG) none),(3,.sl false 20 (out.map bG) (some 68)),(4,.x (.int .i64 (i:Int))),(48,.sl false 20 (out.map bG) (some 68)),(49,.x (.int .i64 (k:Int))),(53,bG en)] [] [6,7] (by decide) (by kernel_rfl) (by kernel_rfl) h1 (by rw[hN];simp +decide (maxDischargeDepth:=200) only[go_sem,Nat.reduceBEq,eq,U3,lN,tN,k0,i0,q2]<;>(repeat' first|rfl|constructor)) ?_;clear h1 hc a0 w1;intro a0 w1 h1;have hrl:(bG en).cells=(fV en).map V.x:=by simp[bG,fV,V.cells]
       have hx53:a0.tmps.getD 53 Go.undef= .agg (fV en).toArray:=by obtain⟨m1,O,gs,z1,_⟩:=h1;obtain⟨b1,β,hrel⟩:=z1.rel;exact((hrel.tmps 53:Rs m1 w1 β _ (bG en)).rd rfl).val_is (IX en)
       obtain⟨g,cap,w2,hall3,⟨hz1,hz2,hz3⟩,hst,hfin⟩:=BW hMB (fun _=>rfl) hE (by decide) h1 rfl (d:=3) (tok:=68) (es:=out.map bG) (by simp only[go_sem,Nat.reduceEqDiff,Vc,Vi,bL,aq]) (t:=52) wq (by decide) (k:=k) (by rw[eq];exact hkl) (xs:=fV en) (by simp[fV,hoke.1]) (fun v hv=>by
        simp only[fV,Vf] at hv;rcases hv with rfl|rfl|rfl|hv
        . rfl
        . rfl
        . rfl
        . exact nf (m:=m) (w:=w) (.x v) (hoke.2 v hv)) (x:= .agg (fV en).toArray) rfl (fun u hu=>by
        obtain⟨e,_,rfl⟩:=U7.1 hu;exact⟨fV e,by simp[bG,fV,V.cells]⟩) (u:=bG en) hrl
       have h48:=hall3 48 (by simp only[go_sem,Nat.reduceEqDiff,Vc,Vi,bL,aq]);have h33:=hall3 3 (by simp only[go_sem,Nat.reduceEqDiff,Vc,Vi,bL,aq]);have h49:a0.tmps.getD 49 Go.undef= .int .i64 (k:Int):=h1.val (by simp only[go_sem,Nat.reduceEqDiff,Vc,Vi,bL,aq]);have h44:a0.tmps.getD 4 Go.undef= .int .i64 (i:Int):=h1.val (by simp only[go_sem,Nat.reduceEqDiff,Vc,Vi,bL,aq]);have h00:a0.tmps.getD 0 Go.undef=v0:=(h1.sight 0 rfl).trans ht0;have hput:∀(v:Value) (j:Nat),j≠54->(a0.put (some 54) v).tmps.getD j Go.undef=a0.tmps.getD j Go.undef:=fun v j hj=>by rw[show(a0.put (some 54) v).tmps=a0.tmps.setIfInBounds 54 v from rfl,bn _ _ _ _ (by rw[hz1];decide),Vh hj]
       refine Fk (v:= .pointer (some ⟨g,((k:Nat):Int).toNat*20,none⟩)) (w':=w1) rfl (by intro c e;cases e) rfl rfl (km (sz:=20) rfl Tryz.underlying22 wq h48 h49 k0 (by rw[eq];omega)) ?_;rw[U2];refine BV (w':=w2) rfl (by intro c e;cases e) rfl rfl ?_ ?_
       . have e1:(a0.put (some 54) (.pointer (some ⟨g,k*20,none⟩))).eval (.tmp 53)= .agg (fV en).toArray:=(hput _ 53 (by decide)).trans hx53;have e2:(a0.put (some 54) (.pointer (some ⟨g,k*20,none⟩))).eval (.tmp 54)= .pointer (some ⟨g,k*20,none⟩):=by show(a0.tmps.setIfInBounds 54 _).getD 54 Go.undef=_;rw[bn _ _ _ _ (by rw[hz1];decide),Va rfl]
         simp only[execOp,e1,e2,Sem.run_bind,hst,Result.andThen_ok,Sem.run_pure]
       . refine(show Code.wpIn _ _ _ (Code.exit 1) _ _ _ from wpIn_exit ⟨.inr rfl,?_⟩);have e5:bO jH (l.take (i+1))=out.set k en:=by rw[e3];exact IW hb p1 hq0 en rfl
         have e6:((out.set k en).map bG).isEmpty=false:=by
          cases hh:out.set k en with
          |nil=>have:=WP List.length hh;rw[WH] at this;rw[Wa.1 this] at hkl;simp at hkl
          |cons x r=>rfl
         rw[e5,e6,List.map_set];refine hfin _ _ 3 68 (by simp[Act.put,hz1]) hz2 (hz3.put (fun j hj=>by cases hj;rfl)) ((hput _ 3 (by decide)).trans h33) (fun _=>rfl) (by simp only[go_sem,Nat.reduceEqDiff,Vc,Vi,bL,aq]) (fun j hj=>?_);by_cases j0:j=0
         . subst j0;refine .inr (.inr ⟨?_,rfl⟩);rw[hput _ 0 (by decide),h00];exact hrd0
         . by_cases j4:j=4
           . subst j4;exact .inr (.inl ⟨_,rfl,(hput _ 4 (by decide)).trans h44⟩)
           . left;simp only[aq,bL,aH];rw[Vh j0,Vh hj,Vh j4]
     . have hne:∀q,out[k]?=some q->q.1≠en.1:=fun q h e=>hf ⟨q,h,e⟩
       have e5:bO jH (l.take (i+1))=(out.take k++[en])++out.drop k:=by rw[e3];exact IV hk hb hs hne en rfl
       refine wpIn_seq (fR hE hm [(0,.sl nl 20 (l.map bG) none),(3,.sl ((out).map bG).isEmpty 20 ((out).map bG) (some 68)),(4,.x (.int .i64 (i:Int))),(5,.x (.int .i64 (k:Int)))] [] (by kernel_rfl) (by kernel_rfl) h1 ?run8 ?cont8)
       case run8=>
        by_cases hkl:k<out.length
        . have d0:decide ((k:Int)<(out.length:Int))=true:=iO (by omega);have p1:out[k]?=some out[k]:=io hkl;have p2:=zM p1;obtain⟨M,hM,lM,tM⟩:=mS out[k] (hoo _ (V4 hkl));rw[hM] at p2;have hq:dD ((out[k]).1.1,(out[k]).1.2.1,(out[k]).1.2.2) (en.1.1,en.1.2.1,en.1.2.2)=false:=tl (hne _ p1);simp +decide (maxDischargeDepth:=200) only[go_sem,Nat.reduceBEq,eq,U3,lM,lN,d0,k0,i0,p2,q2,HV,hq]<;>(repeat' first|rfl|constructor)
        . have d0:decide ((k:Int)<(out.length:Int))=false:=tl (by omega);simp +decide (maxDischargeDepth:=200) only[go_sem,Nat.reduceBEq,eq,d0]<;>(repeat' first|rfl|constructor)
       case cont8=>
        clear h1 a0 w1;intro a0 w1 h1;replace h1:=(h1.bareS (d:=3) (by decide) (nl:=(out.map bG).isEmpty) (z:=20) (es:=out.map bG) (tok:=some 68) (by simp only[go_sem,Nat.reduceEqDiff,Vc,Vi,bL,aq])).le (st':=aq [(0,.sl nl 20 (l.map bG) none),(3,.sl (out.map bG).isEmpty 20 (out.map bG) none),(4,.x (.int .i64 (i:Int))),(5,.x (.int .i64 (k:Int)))] []) (aK (by simp +decide (maxDischargeDepth:=200) only[go_sem,Nat.reduceBEq]<;>(repeat' first|rfl|constructor)) (by simp +decide (maxDischargeDepth:=200) only[go_sem,Nat.reduceBEq]<;>(repeat' first|rfl|constructor)));have e6:(((out.take k++[en])++out.drop k).map bG).isEmpty=false:=by cases out.take k<;>rfl
        refine fR hE hm [(0,.sl nl 20 (l.map bG) none),(3,.sl false 20 (((out.take k++[en])++out.drop k).map bG) (some 68)),(4,.x (.int .i64 (i:Int)))] [] (by kernel_rfl) (by kernel_rfl) h1 ?run10 ?cont10
        case run10=>
         have hk1:(k:Int)<=(((out.map bG).length:Nat):Int):=by rw[eq];omega
         have g1:∀(st:St),bi (aP [(57,bd)] (fun _=>false) [] (fun _=>false) (fun i=>i==10)) st (some 58) 52 (.sl true 0 [] none) (.sl (out.map bG).isEmpty 20 ((out.take k).map bG) none)=_:=fun st=>FV (E:=(aP [(57,bd)] (fun _=>false) [] (fun _=>false) (fun i=>i==10))) rfl (b:=out.take k) (by rw[Vj];omega) (fun e he=>hoo e (Xg he)) st 58 0 20 _ none (.inl rfl)
         have g2:∀(st:St) (tok:Nat),bi (aP [(57,bd)] (fun _=>false) [] (fun _=>false) (fun i=>i==10)) st (some 64) 52 (.sl ((out.take k).map bG).isEmpty 20 ((out.take k).map bG) (some tok)) (.sl false 20 [bG en] none)=_:=fun st tok=>FW (E:=(aP [(57,bd)] (fun _=>false) [] (fun _=>false) (fun i=>i==10))) rfl (a:=out.take k) (e:=en) (by rw[Vj];omega) hoke st 64 tok false none
         have g3:∀(st:St) (tok:Nat),bi (aP [(57,bd)] (fun _=>false) [] (fun _=>false) (fun i=>i==10)) st (some 68) 52 (.sl false 20 ((out.take k++[en]).map bG) (some tok)) (.sl (out.map bG).isEmpty 20 ((out.drop k).map bG) none)=_:=fun st tok=>IU (E:=(aP [(57,bd)] (fun _=>false) [] (fun _=>false) (fun i=>i==10))) rfl (a:=out.take k++[en]) (b:=out.drop k) (by simp only[U4,Vj,Wh,U3,VB];omega) (fun e he=>hoo e (XC he)) st 68 tok 20 _ none (.inl rfl)
         rw[hN] at g2;simp +decide (maxDischargeDepth:=200) only[go_sem,Nat.reduceBEq,eq];generalize ((out.take k++[en])++out.drop k).map bG=w3 at g3⊢;generalize (out.take k++[en]).map bG=w2 at g2 g3⊢;have pl:List.take ((k:Int).toNat-0) (out.map bG)=(out.take k).map bG:=FX;have pr:List.take ((((out.map bG).length:Nat):Int).toNat-(k:Int).toNat) (List.drop (k:Int).toNat (out.map bG))=(out.drop k).map bG:=FY;generalize (out.take k).map bG=w1 at g1 g2 pl⊢;generalize (out.drop k).map bG=w4 at g3 pr⊢;generalize out.map bG=w0 at g1 g3 pl pr hk1⊢;generalize l.map bG=wl at q2⊢;refine iV [(0,0,0,.sl nl 20 wl none),(0,16384,3,.sl w0.isEmpty 20 (w0) none),(0,0,4,.x (.int .i64 (i:Int))),(0,0,5,.x (.int .i64 (k:Int))),(1,0,55,.sl w0.isEmpty 20 (w0) none),(2,0,56,.x (.int .i64 (k:Int))),(4,0,57,.sl w0.isEmpty 20 (w1) none),(8,512,58,.sl w1.isEmpty 20 w1 (some 58)),(16,0,59,.sl nl 20 wl none),(32,0,60,.x (.int .i64 (i:Int))),(64,0,61,.ip (.x (.string en.1.1):: .x (.int .i64 en.1.2.1):: .x (.int .i64 en.1.2.2)::N)),(128,0,62,.agg (.x (.string en.1.1):: .x (.int .i64 en.1.2.1):: .x (.int .i64 en.1.2.2)::N)),(256,0,63,.sl false 20 [.agg (.x (.string en.1.1):: .x (.int .i64 en.1.2.1):: .x (.int .i64 en.1.2.2)::N)] none),(512,8192,64,.sl false 20 (w2) (some 64)),(1024,0,65,.sl w0.isEmpty 20 (w0) none),(2048,0,66,.x (.int .i64 (k:Int))),(4096,0,67,.sl w0.isEmpty 20 (w4) none),(8192,16384,68,.sl false 20 w3 (some 68)),(16384,0,3,.sl false 20 w3 (some 68))] [] [(0,0,1),(0,1,2),(0,4,16),(0,5,32),(0,10,1024),(0,11,2048),(1,1,3),(1,4,17),(1,5,33),(1,10,1025),(1,11,2049),(2,0,3),(2,4,18),(2,5,34),(2,10,1026),(2,11,2050),(16,0,17),(16,1,18),(16,5,48),(16,10,1040),(16,11,2064),(32,0,33),(32,1,34),(32,4,48),(32,10,1056),(32,11,2080),(1024,0,1025),(1024,1,1026),(1024,4,1040),(1024,5,1056),(1024,11,3072),(2048,0,2049),(2048,1,2050),(2048,4,2064),(2048,5,2080),(2048,10,3072),(3,2,7),(3,4,19),(3,5,35),(3,10,1027),(3,11,2051),(17,1,19),(17,5,49),(17,10,1041),(17,11,2065),(33,1,35),(33,4,49),(33,10,1057),(33,11,2081),(1025,1,1027),(1025,4,1041),(1025,5,1057),(1025,11,3073),(2049,1,2051),(2049,4,2065),(2049,5,2081),(2049,10,3073),(18,0,19),(18,5,50),(18,10,1042),(18,11,2066),(34,0,35),(34,4,50),(34,10,1058),(34,11,2082),(1026,0,1027),(1026,4,1042),(1026,5,1058),(1026,11,3074),(2050,0,2051),(2050,4,2066),(2050,5,2082),(2050,10,3074),(48,0,49),(48,1,50),(48,6,112),(48,10,1072),(48,11,2096),(1040,0,1041),(1040,1,1042),(1040,5,1072),(1040,11,3088),(2064,0,2065),(2064,1,2066),(2064,5,2096),(2064,10,3088),(1056,0,1057),(1056,1,1058),(1056,4,1072),(1056,11,3104),(2080,0,2081),(2080,1,2082),(2080,4,2096),(2080,10,3104),(3072,0,3073),(3072,1,3074),(3072,4,3088),(3072,5,3104),(3072,12,7168),(7,3,15),(7,4,23),(7,5,39),(7,10,1031),(7,11,2055),(19,2,23),(19,5,51),(19,10,1043),(19,11,2067),(35,2,39),(35,4,51),(35,10,1059),(35,11,2083),(1027,2,1031),(1027,4,1043),(1027,5,1059),(1027,11,3075),(2051,2,2055),(2051,4,2067),(2051,5,2083),(2051,10,3075),(49,1,51),(49,6,113),(49,10,1073),(49,11,2097),(1041,1,1043),(1041,5,1073),(1041,11,3089),(2065,1,2067),(2065,5,2097),(2065,10,3089),(1057,1,1059),(1057,4,1073),(1057,11,3105),(2081,1,2083),(2081,4,2097),(2081,10,3105),(3073,1,3075),(3073,4,3089),(3073,5,3105),(3073,12,7169),(50,0,51),(50,6,114),(50,10,1074),(50,11,2098),(1042,0,1043),(1042,5,1074),(1042,11,3090),(2066,0,2067),(2066,5,2098),(2066,10,3090),(1058,0,1059),(1058,4,1074),(1058,11,3106),(2082,0,2083),(2082,4,2098),(2082,10,3106),(3074,0,3075),(3074,4,3090),(3074,5,3106),(3074,12,7170),(112,0,113),(112,1,114),(112,7,240),(112,10,1136),(112,11,2160),(1072,0,1073),(1072,1,1074),(1072,6,1136),(1072,11,3120),(2096,0,2097),(2096,1,2098),(2096,6,2160),(2096,10,3120),(3088,0,3089),(3088,1,3090),(3088,5,3120),(3088,12,7184),(3104,0,3105),(3104,1,3106),(3104,4,3120),(3104,12,7200),(7168,0,7169),(7168,1,7170),(7168,4,7184),(7168,5,7200),(15,4,31),(15,5,47),(15,10,1039),(15,11,2063),(23,3,31),(23,5,55),(23,10,1047),(23,11,2071),(39,3,47),(39,4,55),(39,10,1063),(39,11,2087),(1031,3,1039),(1031,4,1047),(1031,5,1063),(1031,11,3079),(2055,3,2063),(2055,4,2071),(2055,5,2087),(2055,10,3079),(51,2,55),(51,6,115),(51,10,1075),(51,11,2099),(1043,2,1047),(1043,5,1075),(1043,11,3091),(2067,2,2071),(2067,5,2099),(2067,10,3091),(1059,2,1063),(1059,4,1075),(1059,11,3107),(2083,2,2087),(2083,4,2099),(2083,10,3107),(3075,2,3079),(3075,4,3091),(3075,5,3107),(3075,12,7171),(113,1,115),(113,7,241),(113,10,1137),(113,11,2161),(1073,1,1075),(1073,6,1137),(1073,11,3121),(2097,1,2099),(2097,6,2161),(2097,10,3121),(3089,1,3091),(3089,5,3121),(3089,12,7185),(3105,1,3107),(3105,4,3121),(3105,12,7201),(7169,1,7171),(7169,4,7185),(7169,5,7201),(114,0,115),(114,7,242),(114,10,1138),(114,11,2162),(1074,0,1075),(1074,6,1138),(1074,11,3122),(2098,0,2099),(2098,6,2162),(2098,10,3122),(3090,0,3091),(3090,5,3122),(3090,12,7186),(3106,0,3107),(3106,4,3122),(3106,12,7202),(7170,0,7171),(7170,4,7186),(7170,5,7202),(240,0,241),(240,1,242),(240,8,496),(240,10,1264),(240,11,2288),(1136,0,1137),(1136,1,1138),(1136,7,1264),(1136,11,3184),(2160,0,2161),(2160,1,2162),(2160,7,2288),(2160,10,3184),(3120,0,3121),(3120,1,3122),(3120,6,3184),(3120,12,7216),(7184,0,7185),(7184,1,7186),(7184,5,7216),(7200,0,7201),(7200,1,7202),(7200,4,7216),(31,5,63),(31,10,1055),(31,11,2079),(47,4,63),(47,10,1071),(47,11,2095),(1039,4,1055),(1039,5,1071),(1039,11,3087),(2063,4,2079),(2063,5,2095),(2063,10,3087),(55,3,63),(55,6,119),(55,10,1079),(55,11,2103),(1047,3,1055),(1047,5,1079),(1047,11,3095),(2071,3,2079),(2071,5,2103),(2071,10,3095),(1063,3,1071),(1063,4,1079),(1063,11,3111),(2087,3,2095),(2087,4,2103),(2087,10,3111),(3079,3,3087),(3079,4,3095),(3079,5,3111),(3079,12,7175),(115,2,119),(115,7,243),(115,10,1139),(115,11,2163),(1075,2,1079),(1075,6,1139),(1075,11,3123),(2099,2,2103),(2099,6,2163),(2099,10,3123),(3091,2,3095),(3091,5,3123),(3091,12,7187),(3107,2,3111),(3107,4,3123),(3107,12,7203),(7171,2,7175),(7171,4,7187),(7171,5,7203),(241,1,243),(241,8,497),(241,10,1265),(241,11,2289),(1137,1,1139),(1137,7,1265),(1137,11,3185),(2161,1,2163),(2161,7,2289),(2161,10,3185),(3121,1,3123),(3121,6,3185),(3121,12,7217),(7185,1,7187),(7185,5,7217),(7201,1,7203),(7201,4,7217),(242,0,243),(242,8,498),(242,10,1266),(242,11,2290),(1138,0,1139),(1138,7,1266),(1138,11,3186),(2162,0,2163),(2162,7,2290),(2162,10,3186),(3122,0,3123),(3122,6,3186),(3122,12,7218),(7186,0,7187),(7186,5,7218),(7202,0,7203),(7202,4,7218),(496,0,497),(496,1,498),(496,10,1520),(496,11,2544),(1264,0,1265),(1264,1,1266),(1264,8,1520),(1264,11,3312),(2288,0,2289),(2288,1,2290),(2288,8,2544),(2288,10,3312),(3184,0,3185),(3184,1,3186),(3184,7,3312),(3184,12,7280),(7216,0,7217),(7216,1,7218),(7216,6,7280),(63,6,127),(63,10,1087),(63,11,2111),(1055,5,1087),(1055,11,3103),(2079,5,2111),(2079,10,3103),(1071,4,1087),(1071,11,3119),(2095,4,2111),(2095,10,3119),(3087,4,3103),(3087,5,3119),(3087,12,7183),(119,3,127),(119,7,247),(119,10,1143),(119,11,2167),(1079,3,1087),(1079,6,1143),(1079,11,3127),(2103,3,2111),(2103,6,2167),(2103,10,3127),(3095,3,3103),(3095,5,3127),(3095,12,7191),(3111,3,3119),(3111,4,3127),(3111,12,7207),(7175,3,7183),(7175,4,7191),(7175,5,7207),(243,2,247),(243,8,499),(243,10,1267),(243,11,2291),(1139,2,1143),(1139,7,1267),(1139,11,3187),(2163,2,2167),(2163,7,2291),(2163,10,3187),(3123,2,3127),(3123,6,3187),(3123,12,7219),(7187,2,7191),(7187,5,7219),(7203,2,7207),(7203,4,7219),(497,1,499),(497,10,1521),(497,11,2545),(1265,1,1267),(1265,8,1521),(1265,11,3313),(2289,1,2291),(2289,8,2545),(2289,10,3313),(3185,1,3187),(3185,7,3313),(3185,12,7281),(7217,1,7219),(7217,6,7281),(498,0,499),(498,10,1522),(498,11,2546),(1266,0,1267),(1266,8,1522),(1266,11,3314),(2290,0,2291),(2290,8,2546),(2290,10,3314),(3186,0,3187),(3186,7,3314),(3186,12,7282),(7218,0,7219),(7218,6,7282),(1520,0,1521),(1520,1,1522),(1520,11,3568),(2544,0,2545),(2544,1,2546),(2544,10,3568),(3312,0,3313),(3312,1,3314),(3312,8,3568),(3312,12,7408),(7280,0,7281),(7280,1,7282),(7280,7,7408),(127,7,255),(127,10,1151),(127,11,2175),(1087,6,1151),(1087,11,3135),(2111,6,2175),(2111,10,3135),(3103,5,3135),(3103,12,7199),(3119,4,3135),(3119,12,7215),(7183,4,7199),(7183,5,7215),(247,3,255),(247,8,503),(247,10,1271),(247,11,2295),(1143,3,1151),(1143,7,1271),(1143,11,3191),(2167,3,2175),(2167,7,2295),(2167,10,3191),(3127,3,3135),(3127,6,3191),(3127,12,7223),(7191,3,7199),(7191,5,7223),(7207,3,7215),(7207,4,7223),(499,2,503),(499,10,1523),(499,11,2547),(1267,2,1271),(1267,8,1523),(1267,11,3315),(2291,2,2295),(2291,8,2547),(2291,10,3315),(3187,2,3191),(3187,7,3315),(3187,12,7283),(7219,2,7223),(7219,6,7283),(1521,1,1523),(1521,11,3569),(2545,1,2547),(2545,10,3569),(3313,1,3315),(3313,8,3569),(3313,12,7409),(7281,1,7283),(7281,7,7409),(1522,0,1523),(1522,11,3570),(2546,0,2547),(2546,10,3570),(3314,0,3315),(3314,8,3570),(3314,12,7410),(7282,0,7283),(7282,7,7410),(3568,0,3569),(3568,1,3570),(3568,12,7664),(7408,0,7409),(7408,1,7410),(7408,8,7664),(255,8,511),(255,10,1279),(255,11,2303),(1151,7,1279),(1151,11,3199),(2175,7,2303),(2175,10,3199),(3135,6,3199),(3135,12,7231),(7199,5,7231),(7215,4,7231),(503,3,511),(503,10,1527),(503,11,2551),(1271,3,1279),(1271,8,1527),(1271,11,3319),(2295,3,2303),(2295,8,2551),(2295,10,3319),(3191,3,3199),(3191,7,3319),(3191,12,7287),(7223,3,7231),(7223,6,7287),(1523,2,1527),(1523,11,3571),(2547,2,2551),(2547,10,3571),(3315,2,3319),(3315,8,3571),(3315,12,7411),(7283,2,7287),(7283,7,7411),(3569,1,3571),(3569,12,7665),(7409,1,7411),(7409,8,7665),(3570,0,3571),(3570,12,7666),(7410,0,7411),(7410,8,7666),(7664,0,7665),(7664,1,7666),(511,9,1023),(511,10,1535),(511,11,2559),(1279,8,1535),(1279,11,3327),(2303,8,2559),(2303,10,3327),(3199,7,3327),(3199,12,7295),(7231,6,7295),(1527,3,1535),(1527,11,3575),(2551,3,2559),(2551,10,3575),(3319,3,3327),(3319,8,3575),(3319,12,7415),(7287,3,7295),(7287,7,7415),(3571,2,3575),(3571,12,7667),(7411,2,7415),(7411,8,7667),(7665,1,7667),(7666,0,7667),(1023,10,2047),(1023,11,3071),(1535,9,2047),(1535,11,3583),(2559,9,3071),(2559,10,3583),(3327,8,3583),(3327,12,7423),(7295,7,7423),(3575,3,3583),(3575,12,7671),(7415,3,7423),(7415,8,7671),(7667,2,7671),(2047,11,4095),(3071,10,4095),(3583,9,4095),(3583,12,7679),(7423,8,7679),(7671,3,7679),(4095,12,8191),(7679,9,8191),(8191,13,16383),(16383,14,32767)] 32767 (by kernel_rfl) (by kernel_rfl) ?_ ?_ ?_
         . simp +decide (maxDischargeDepth:=200) only[go_sem,Nat.reduceBEq,eq]
         . simp +decide (maxDischargeDepth:=200) (maxSteps:=100000000) only[go_sem,Nat.reduceBEq,U3,lN,tN,pl,pr,g1,g2,g3,i0,k0,hk1,q2]
         . simp +decide (maxDischargeDepth:=200) only[go_sem,Nat.reduceBEq,eq]<;>(repeat' first|rfl|constructor)
        case cont10=>clear h1 a0 w1;intro a0 w1 h1;refine⟨.inl rfl,?_⟩;rw[e5,e6];exact h1
 . have c1:decide ((i:Int)<(l.length:Int))=false:=tl (by omega);have e:l.take i=l:=Vp (by omega);rw[e] at h1;refine wpIn_seq (Lg hE hm 0 [(0,.sl nl sz (l.map bG) none),(3,.sl ((bO jH l).map bG).isEmpty 20 ((bO jH l).map bG) (some 68))] [] (by kernel_rfl) (by kernel_rfl) h1 (by simp +decide (maxDischargeDepth:=200) only[go_sem,Nat.reduceBEq,eq,c1]<;>(repeat' first|rfl|constructor)) ?_);clear h1 a0 w1;intro a0 w1 h1;simp only[Exit.inBlock,Exit.then,Vi];refine Lh hE hm [(2,.sl ((bO jH l).map bG).isEmpty 20 ((bO jH l).map bG) (some 68))] [] (by kernel_rfl) (by kernel_rfl) h1 (by simp +decide (maxDischargeDepth:=200) only[go_sem,Nat.reduceBEq]<;>(repeat' first|rfl|constructor)) ?_;clear h1 a0 w1;intro a0 w1 h1;refine⟨.inr rfl,_,_,_,_,h1,rfl,rfl,by simp +decide (maxDischargeDepth:=200) only[go_sem,Nat.reduceBEq,eq]<;>rfl,fun v m' gs k1 _ _ k4 _ _=>⟨m',k1,k4⟩⟩
variable {v:Value}
theorem Lz {u:V} (h:Rd m w v u) (hu:u.cell=true):(V.x v).cell=true:=by
 cases h with
 |undef v=>simp[V.cell] at hu
 |x v=>exact hu
 |agg cs Cs hl h=>simp[V.cell] at hu
 |tup cs Cs hl h=>simp[V.cell] at hu
 |nil sz tok=>rfl
 |emp a cap sz=>rfl
 |dyn t v=>rfl
 |sl blk off cap sz es tok c hb hcap hsz hc hm hr=>rfl
 |ip blk off cs c hb hc hm hr=>rfl
 |fm blk ks vs ents clock hb hh hm hk hv hkey hbn hd hr=>rfl
abbrev ER:={p:En×RE//p.2.1=p.1.1}
def LK (p:ER):C3:=p.1.1.1
def Both (m:Lim) (w:World) (p:ER):Prop:=vd p.1.2∧∀(j:Nat) (x:Value) (d:V),(fV p.1.2)[j]?=some x->(bK p.1.1).cells[j]?=some d->Rd m w x d
theorem Both.mono {m':Lim} {w':World} (he:Ext m w m' w') {p:ER} (h:Both m w p):Both m' w' p:=⟨h.1,fun j x d h1 h2=>(h.2 j x d h1 h2).mono he⟩
theorem oJ (e:En):(bK e).cells.length=20:=rfl
theorem LA (e:En):(bK e).cells.all V.cell=true:=by obtain⟨c,b,n,v⟩:=e;cases n<;>rfl
theorem IZ {l:List En} (h:Rd m w v (.sl nl sz (l.map bK) none)):∃Z:List ER,Z.map (fun p=>p.1.1)=l∧(∀p∈Z,Both m w p)∧Rd m w v (.sl nl sz ((Z.map fun p=>p.1.2).map bG) none):=by
 generalize hes:l.map bK=es at h;cases h with
 | nil sz tok=>
   have hl:l=[]:=by
    cases l with
    |nil=>rfl
    |cons a l=>cases hes
   exact⟨[],hl.symm,fun _ h=>(by cases h),.nil sz none⟩
 | emp a cap sz=>
   have hl:l=[]:=by
    cases l with
    |nil=>rfl
    |cons a l=>cases hes
   exact⟨[],hl.symm,fun _ h=>(by cases h),.emp a cap sz⟩
 | sl blk off cap sz es tok c hb hcap hsz hcell hm hr=>
   let f:Nat×En->ER:=fun q=>⟨(q.2,(q.2.1,(List.range 17).map fun j=>c (q.1*sz+(3+j)))),rfl⟩
   have hat:∀i e,l[i]?=some e->es[i]?=some (bK e):=fun i e h=>by rw[<-hes,U5,h];rfl
   have hcs:∀i e,l[i]?=some e->∀(j:Nat) (d:V),(bK e).cells[j]?=some d->Rd m w (c (i*sz+j)) d:=fun i e h j d hd=>hr i _ (hat i e h) j d hd
   have hraw:∀i e,l[i]?=some e->∀j,j<20->(fV (f (i,e)).1.2)[j]?=some (c (i*sz+j)):=by
    intro i e h j hj;have h0:=Rd.x_iff.1 (hcs i e h 0 (.x (.string e.1.1)) rfl);have h1:=Rd.x_iff.1 (hcs i e h 1 (.x (.int .i64 e.1.2.1)) rfl);have h2:=Rd.x_iff.1 (hcs i e h 2 (.x (.int .i64 e.1.2.2)) rfl)
    match j,hj with
    |0,_=>show some (Value.string e.1.1)=_;rw[h0]
    |1,_=>show some (Value.int .i64 e.1.2.1)=_;rw[h1]
    |2,_=>show some (Value.int .i64 e.1.2.2)=_;rw[h2]
    |j+3,hj=>show((List.range 17).map fun j=>c (i*sz+(3+j)))[j]?=_;rw[U5,Wd (by omega),VT,Nat.add_comm 3 j]
   have hlz:((List.range l.length).zip l).map (fun q=>q.2)=l:=XT (by simp);have hmem:∀q∈(List.range l.length).zip l,l[q.1]?=some q.2:=fun q hq=>by obtain⟨t,ht⟩:=VU hq;rw[WI] at ht;have h1:=(Io.1 ht.1).1;rw[XN] at h1;rw[Wd h1] at ht;rw[<-W0 ht.1];exact ht.2
   refine⟨((List.range l.length).zip l).map f,by rw[Wk];exact hlz,fun p hp=>?_,?_⟩
   . obtain⟨q,hq,rfl⟩:=U7.1 hp;have hq':=hmem q hq;refine⟨⟨by simp[f],fun v hv=>?_⟩,fun j x d hx hd=>?_⟩
     . obtain⟨j,hj,rfl⟩:=U7.1 hv;have hj:=VM.1 hj;have hd:(bK q.2).cells[3+j]?=some ((bK q.2).cells[3+j]'(by rw[oJ];omega)):=io _;exact Lz (hcs q.1 q.2 hq' (3+j) _ hd) (U8.1 (LA q.2) _ (Vd hd))
     . have hj:j<20:=by have:=(Io.1 hd).1;rwa [oJ] at this
       rw[hraw q.1 q.2 hq' j hj] at hx;cases hx;exact hcs q.1 q.2 hq' j d hd
   . have hl1:es.length=l.length:=by rw[<-hes,eq]
     have hl2:(((((List.range l.length).zip l).map f).map fun p=>p.1.2).map bG).length=es.length:=by rw[eq,eq,eq,List.length_zip,XN,hl1,Nat.min_self]
     have hre:∀(i:Nat) (e':V),(((((List.range l.length).zip l).map f).map fun p=>p.1.2).map bG)[i]?=some e'->∃e,l[i]?=some e∧e'=bG (f (i,e)).1.2:=fun i e' hi=>by simp only[U5,U9] at hi;obtain⟨_,⟨_,⟨q,hq,rfl⟩,rfl⟩,rfl⟩:=hi;rw[WI] at hq;have h1:=(Io.1 hq.1).1;rw[XN] at h1;rw[Wd h1] at hq;obtain⟨i',e⟩:=q;cases hq.1;exact⟨e,hq.2,rfl⟩
     have hsz20:∀i e,l[i]?=some e->sz=20:=fun i e h=>by rw[<-hsz i _ (hat i e h)];exact oJ e
     have hrl:∀q:Nat×En,(bG (f q).1.2).cells.length=20:=fun q=>by simp[bG,V.cells,f]
     have:=Rd.sl (m:=m) (w:=w) blk off cap sz (((((List.range l.length).zip l).map f).map fun p=>p.1.2).map bG) none c hb (by rw[hl2];exact hcap) (fun i e' hi=>by
      obtain⟨e,he,rfl⟩:=hre i e' hi;rw[hrl,hsz20 i e he]) (fun k hk=>hcell k (by rwa [hl2] at hk)) (fun fr hf=>by rw[hl2];exact hm fr hf) (fun i e' hi j d hd=>by
      obtain⟨e,he,rfl⟩:=hre i e' hi;have hj:j<20:=by have:=(Io.1 hd).1;rwa [hrl] at this
      have hx:=hraw i e he j hj;have hd2:(bG (f (i,e)).1.2).cells=(fV (f (i,e)).1.2).map V.x:=by simp[bG,fV,V.cells]
      rw[hd2,U5,hx] at hd;cases hd;exact .x _)
     rwa [hl2] at this
theorem Cq {Z:List ER} (h:Rd m w v (.sl nl 20 ((Z.map fun p=>p.1.2).map bG) none)) (hz:∀p∈Z,Both m w p):Rd m w v (.sl nl 20 ((Z.map fun p=>p.1.1).map bK) none):=by
 generalize hes:(Z.map fun p=>p.1.2).map bG=es at h;have hl:((Z.map fun p=>p.1.1).map bK).length=es.length:=by rw[<-hes];simp
 cases h with
 |nil sz tok=>rw[Wa.1 hl];exact .nil _ none
 |emp a cap sz=>rw[Wa.1 hl];exact .emp a cap _
 | sl blk off cap sz es tok c hb hcap hsz hcell hm hr=>
   have:=Rd.sl (m:=m) (w:=w) blk off cap 20 ((Z.map fun p=>p.1.1).map bK) none c hb (by rw[hl];exact hcap) (fun i e' hi=>by
    rw[U5,U9] at hi;obtain⟨e,_,rfl⟩:=hi;exact oJ e) (fun k hk=>hcell k (by rwa [hl] at hk)) (fun fr hf=>by rw[hl];exact hm fr hf) (fun i e' hi j d hd=>by
    simp only[U5,U9] at hi;obtain⟨_,⟨p,hp,rfl⟩,rfl⟩:=hi;obtain⟨h1,h2⟩:=hz p (Vd hp);have hj:j<20:=by have:=(Io.1 hd).1;rwa [oJ] at this
    have hx:(fV p.1.2)[j]?=some ((fV p.1.2)[j]'(by simp[fV,h1.1];omega)):=io _;have hd2:(bG p.1.2).cells[j]?=some (.x ((fV p.1.2)[j]'(by simp[fV,h1.1];omega))):=by rw[show(bG p.1.2).cells=(fV p.1.2).map V.x by simp[bG,fV,V.cells],U5,hx];rfl
    have:=hr i (bG p.1.2) (by rw[<-hes,U5,U5,hp];rfl) j _ hd2;rw[Rd.x_iff.1 this];exact h2 j _ d hx hd)
   rwa [hl] at this
theorem FZ:bM 29 (FE cf mn):=by
 refine⟨fun a w=>Tryz.call29 a w,fun m w vs us r hF hdat hr hj hg=>?_⟩;obtain⟨⟨nl,sz,l⟩,hus,hG⟩:=aZ hF;clear hF;subst hus;unfold mn at hG;split at hG
 case isFalse=>cases hG
 rename_i hok;cases hG;clear hdat;obtain⟨hsz,hl4,_⟩:=hok;simp only at hsz hl4;obtain⟨vl⟩:=vs;cases vl with
 |nil=>exact hr.elim
 | cons v0 vl=>
   cases vl with
   |cons _ _=>exact hr.2.elim
   | nil=>
     obtain⟨Z,hZ,hbo,hrd⟩:=IZ hr.1;simp only at hZ hrd;have hZl:Z.length=l.length:=by rw[<-hZ,eq]
     have hc:=yf (vs:= #[v0]) (l:=Z.map fun p=>p.1.2) (nl:=nl) (sz:=sz) ⟨fun hn=>hsz (by
      intro e;rw[e] at hZl;exact hn (by rw[Wa.1 hZl];rfl)),by show(Z.map fun p=>p.1.2).length<=400;rw[eq];omega,fun e he=>by
      obtain⟨p,hp,rfl⟩:=U7.1 he;exact(hbo p hp).1⟩ ⟨hrd,trivial⟩ hj (fun g=> .undef _)
     refine hc.mono ?_;rintro e w' ⟨v,rfl,m',h1,h2⟩;have e1:(bO LK Z).map (fun p=>p.1.2)=bO jH (Z.map fun p=>p.1.2):=qf (ka:=LK) (kb:=jH) (f:=fun p:ER=>p.1.2) (fun p=>p.2) Z;have e2:(bO LK Z).map (fun p=>p.1.1)=aE l:=by rw[qf (ka:=LK) (kb:=fun e:En=>e.1) (f:=fun p:ER=>p.1.1) (fun _=>rfl) Z,hZ];exact IT l
     rw[<-e1] at h1;have h3:=Cq h1 (fun p hp=>(hbo p (qg LK hp)).mono h2.ext);have hem:((bO jH (Z.map fun p=>p.1.2)).map bG).isEmpty=((aE l).map bK).isEmpty:=by rw[<-e1,<-e2];cases bO LK Z<;>rfl
     refine⟨v,m',rfl,?_,h2.below (fun _ _ h=>h),fun k hk=>(h2.same k hk (fun h=>h)).2⟩;show Rd m' w' v (.sl ((aE l).map bK).isEmpty 20 ((aE l).map bK) none);rw[<-hem,<-e2,<-e1];exact h3
theorem I0:bM 10 (FE cf tY):=EP FZ
open Classical in
noncomputable def LB (p:DP):Option (V×List (List V)):=if xd p then some (.sl ((ar p.1.2.2).map aa).isEmpty 3 ((ar p.1.2.2).map aa) (some 0),[]) else none
theorem vf:yN 13 (FE ml LB):=by
 refine sK (E:=fo [] (fun _=>false) []) (k:=1) (qG _ _ _ trivial trivial) (fun _ _=>rfl) (by kernel_rfl) Tryz.func13 rfl (fun a w=>Tryz.call13 a w) Tryz.ntmps13 (by kernel_rfl) (by decide) (by decide) ?_;intro us r outs hF;obtain⟨⟨⟨nl,sz,L⟩,nr,zr,R⟩,hus,hG⟩:=aZ hF;clear hF;subst hus;have hF:=hG;clear hG;unfold LB at hF;split at hF
 case isFalse=>cases hF
 rename_i hok;cases hF;refine⟨rfl,_,Le.refl _,?_⟩;have hok0:=hok;obtain⟨hsz,hzr,hm,hl4,hs,hr⟩:=hok;simp only at hsz hzr hm hl4 hs hr;simp only[ml,tV,KP];simp +decide (maxDischargeDepth:=200) only[go_sem,eq];refine iQ 3 3 99 (by simp only[go_sem];rfl) ?_;refine aI (X:={p:Nat×Nat//p.1<=L.length}) (fun p=>[(0,.ip [.sl nl sz (L.map bK) none,.sl nr zr (R.map tU) none]),(3,.sl ((ar (L.take p.1.1)).map aa).isEmpty 3 ((ar (L.take p.1.1)).map aa) (some p.1.2)),(4,.x (.int .i64 ((p.1.1:Nat):Int)))]) (fun _=>[]) (fun p=>L.length-p.1.1) ⟨(0,99),VJ _⟩ (by simp +decide only[go_sem,VW,VO]<;>(repeat' first|rfl|constructor)) (by simp +decide only[go_sem]<;>(repeat' first|rfl|constructor)) (fun⟨⟨i,tk⟩,hi0⟩=>?_);simp only at hi0⊢;by_cases hi:i<L.length
 . have c1:decide ((i:Int)<(L.length:Int))=true:=iO (by omega);have c2:(0:Int)<=(i:Int):=by omega
   have c4:=aF (i:=i) (by omega);obtain⟨e,r,q1,q2,q3,q4,q5,q6,q7⟩:=EM hok0 hi;simp only at q1 q2 q3 q4 q5;obtain rfl:=hsz (fun h=>by rw[h] at hi;simp at hi);have e3:(ar (L.take (i+1))).map aa=(ar (L.take i)).map aa++[aa e.1]:=by unfold ar;rw[aS q1,Vy,Vy];rfl
   have hal:((ar (L.take i)).map aa).length<=400:=by unfold ar;rw[eq,eq,Vj];omega
   generalize (ar (L.take i)).map aa=al at e3 hal⊢;obtain⟨N,hN,lN⟩:=mG e;obtain⟨⟨cs,cc,cr⟩,ef,nd,vv⟩:=e;simp only at hN;rw[hN] at q4;simp only[bg] at e3;have g1:=cL (E:=fo [] (fun _=>false) []) (el:=24) (n:=3) kL kM kN (by decide) rfl (es:=al) (v:= .agg [.x (.string cs),.x (.int .i64 cc),.x (.int .i64 cr)]) rfl (by omega) (by omega);simp +decide (maxDischargeDepth:=200) only[go_sem,eq,U3,lN,c1,c2,c4,q4,g1];refine⟨⟨(i+1,24),hi⟩,?_,?_,?_⟩
   . simp +decide (maxDischargeDepth:=200) only[go_sem,e3]
   . simp +decide (maxDischargeDepth:=200) only[go_sem]
   . simp only;omega
 . have c1:decide ((i:Int)<(L.length:Int))=false:=tl (by omega);have e:L.take i=L:=Vp (by omega);rw[e];simp +decide (maxDischargeDepth:=200) only[go_sem,eq,c1]
theorem oW {el n by':Nat} {z:List V} (h1:bq E.P el=some n) (hby:bV E.P el=some by') (hz:ay E.P el=some z) (h4:n≠0) (h5:z.length=n)
 {es':List V} {m:Nat} (hm:es'≠[]->m=n) (hc:(es'.all fun u=>u.cells.all V.cell)=true) (hb:es'.length*by'<=140737488355328) (hl:es'.length<=9223372036854775807) (st:St) (d n0:Nat) (nl:Bool) (t':Option Nat):
 bi E st (some d) el (.sl true n0 [] none) (.sl nl m es' t')=some ⟨aD (strip d st.t) d (.sl es'.isEmpty n es' (some d)),aB E d st.b⟩:=by
 unfold bi;simp only[h1,hby,hz];rw[Va ⟨h4,h5,by
  by_cases h:es'=[]
  . exact .inr h
  . exact .inl (hm h),hc,hb,hl⟩]
 rfl
theorem Cr (l:List (Nat×(List V->Option V))) (M:Nat->Bool) (lp:List (Nat×(List V->Option (V×List (List V))))) (any:Nat->Bool) (k:Nat) (b:Nat->Option (List V)):aB (aP l M lp (fun _=>false) any) k b=b:=rfl
attribute [go_sem] Cr
theorem F0 {ops:List Oper} {st:St} {K:St->Prop} (ents:List (Nat×Nat×Nat×V)) (bs:List (Nat×List V)) (ps:List (Nat×Nat×Nat)) (full:Nat) (hf:2^ops.length-1=full) (h:iA ops ps=true) (h0:gY st (ii ents 0)∧gE st bs) (ht:ta E ops ents bs ps)
 (hk:K (aq (ii ents full) bs)):An E ops st K:=qM ents bs ps h h0 ht (hf▸hk)
theorem vg (c:C3) (f:En->RC):∀L:List En,(L.zip (L.map f)).find? (fun q=>dD q.1.1 c)=(L.find? fun e=>dD e.1 c).map fun e=>(e,f e)
 |[]=>rfl
 | e::L=>by
   rw[VC,List.zip_cons_cons,X4,X4];cases h:dD e.1 c with
   |true=>rfl
   |false=>exact vg c f L
theorem F1 (l:List En) (c:C3):∃nl z,tW (i7 l) c= .sl nl z ((eD (aE l) c).map aa) none∧(eD (aE l) c≠[]->z=3):=by
 unfold tW eD;rw[show((i7 l).1.2.2.zip (i7 l).2.2.2)=(aE l).zip ((aE l).map (KY (aE l))) from rfl,vg];cases(aE l).find? (fun e=>dD e.1 c) with
 |none=>exact⟨true,0,rfl,fun h=>absurd rfl h⟩
 | some e=>
   refine⟨_,_,rfl,fun h=>?_⟩;show(if e.2.1=true then 3 else 0)=3;split
   . rfl
   . rename_i hf;refine absurd ?_ h;show bw (aE l) e=[];unfold bw;rw[Vh hf]
variable {r:List C3}
theorem lP {l:List En} (h:c∉ar (aE l)->r=[]):∃nl z,jh l c r= .sl nl z (r.map aa) none∧(r≠[]->z=3):=by
 unfold jh;by_cases hc:gN c (ar (aE l))=true
 . rw[Va hc];exact⟨_,_,rfl,fun _=>rfl⟩
 . rw[Vh hc];have hr:=h (fun hm=>hc (iu.2 hm));subst hr;exact⟨_,_,rfl,fun h=>absurd rfl h⟩
variable {L:List En}
theorem oK (h:c∉ar L):readersD L c=[]:=by
 cases hr:readersD L c with
 |nil=>rfl
 |cons x r=>obtain⟨e,_,_,he⟩:=iX.1 (show x∈readersD L c by rw[hr];exact Vv ..);exact absurd (pH he) h
theorem F2 (h:c∉ar L):dq L c=[]:=by
 cases hr:dq L c with
 |nil=>rfl
 | cons x r=>
   have hx:Hang L c x:=lH.1 (show x∈dq L c by rw[hr];exact Vv ..);have key:∀{x:C3},Hang L c x->False:=fun hx=>by
    induction hx with
    |one h1=>rw[oK h] at h1;cases h1
    |next _ _ ih=>exact ih
   exact(key hx).elim
theorem mT {a b:Bool} {z z':Nat} (h:r.length<=1000000) (hz:r≠[]->z=3) (hz':r≠[]->z'=3):iU [.sl a z (r.map aa) none,.sl b z' (r.map aa) none]=some (.x (.bool true)):=by unfold iU;simp only[eR];rw[Va ⟨h,Classical.or_iff_not_imp_left.2 hz,Classical.or_iff_not_imp_left.2 hz'⟩];simp
def zO (p:ES×C3):List V:=[.sl p.1.1 p.1.2.1 (p.1.2.2.map bK) none,aa p.2]
theorem Ct (p q:ES×C3) (e:zO p=zO q):p=q:=by obtain⟨h1,h2⟩:=VZ e;exact Prod.ext (gK _ _ (by unfold cf;rw[h1])) (bZ _ _ (VZ h2).1)
open Classical in
noncomputable def Ue (p:ES×C3):Option V:=if QK p.1 then some (.x (.bool true)) else none
theorem Cu (l:List En):((l.map bK).all fun u=>u.cells.all V.cell)=true:=U8.2 fun u hu=>by obtain⟨e,_,rfl⟩:=U7.1 hu;obtain⟨M,hM,_,_,h4⟩:=ot e;rw[hM];simp only[V.cells,VY,V.cell,Wo];exact h4
open Classical in
theorem oX:bM 3 (FE zO Ue):=by
 refine av (E:=(aP [(7,gX),(8,(FE cf Lx)),(9,(FE cf FN)),(10,(FE cf tY)),(12,(FE iC Fz)),(11,iU),(14,(FE dZ Lo)),(15,(FE dt KT)),(16,(FE dZ Lp)),(17,(FE dt F5)),(18,(FE dZ rp)),(19,(FE dt KS))] (fun _=>false) [(13,(FE ml LB))] (fun _=>false) (fun i=>i==8))) (k:=2) (eH _ _ _ _ _ ⟨vc,Co,uS,I0,ow,BC,xK,xg,ri,kX,xU,xf,trivial⟩ ⟨vf,trivial⟩) (by kernel_rfl) Tryz.func3 rfl (fun a w=>Tryz.call3 a w) Tryz.ntmps3 (by kernel_rfl) (by decide) (by decide) ?_;intro us r hF hdat;obtain⟨⟨⟨nl,sz,l⟩,ws,wc,wr⟩,hus,hG⟩:=aZ hF;clear hF;subst hus;unfold Ue at hG;split at hG
 case isFalse=>cases hG
 rename_i hok;cases hG;have hok0:=hok;obtain⟨hsz,hlen⟩:=hok;simp only at hsz hlen;clear hdat;refine⟨rfl,?_⟩;have hcx:aa (ws,wc,wr)= .agg [.x (.string ws),.x (.int .i64 wc),.x (.int .i64 wr)]:=rfl;simp only[zO,hcx];have e1:gX []=some (.x (.bool true)):=rfl;have hfw:FE cf Lx [.sl nl sz (l.map bK) none]=some (.x (.bool (decide ((∀e∈l,jS e)∧(l.length:Int)<=24)))):=(bC gK Lx (nl,sz,l)).trans (Va hok0);by_cases hfine:(∀e∈l,jS e)∧(l.length:Int)<=24
 case neg=>rw[tl hfine] at hfw;simp +decide (maxDischargeDepth:=200) only[go_sem,Nat.reduceBEq,eq,e1,hfw]
 rw[iO hfine] at hfw;obtain⟨hf1,hf2⟩:=hfine;have hl4:l.length<=400:=by omega
 have hcnt:∀e∈l,jF e.2.2.1<=400:=fun e he=>HO (by have:=(hf1 e he).1;omega)
 have hs8:∀e∈l,e.1.1.size<=281474976710656:=fun e he=>by have:=(hf1 e he).2.2;omega
 have hP:=rt hl4 hcnt;have hes:EN (nl,sz,l):=⟨hsz,hl4,hcnt⟩;have hD:=Ie hes;have n1:FE cf FN [.sl (l.map bK).isEmpty 20 (l.map bK) none]=some (jR (it l)):=x9 ⟨⟨fun _=>rfl,hl4,hcnt⟩,hs8⟩;have n2:FE cf tY [.sl nl sz (l.map bK) none]=some (tV (i7 l)):=(bC gK tY (nl,sz,l)).trans (Va hes);have k0:FE iC Fz [jR (it l)]=some (.sl false 3 ((ar (aE l)).map aa) none):=by rw[<-gW];exact oI hP
 have k1:FE ml LB [tV (i7 l)]=some (.sl ((ar (aE l)).map aa).isEmpty 3 ((ar (aE l)).map aa) (some 0),[]):=(bC BK LB (i7 l)).trans (Va hD);have hLl:(aE l).length<=400:=by have:=oe l;omega
 have hcl:(ar (aE l)).length<=400:=by unfold ar;rw[eq];exact hLl
 have s0:iU [.sl false 3 ((ar (aE l)).map aa) none,.sl ((ar (aE l)).map aa).isEmpty 3 ((ar (aE l)).map aa) none]=some (.x (.bool true)):=mT (by omega) (fun _=>rfl) (fun _=>rfl);have hr1:∀c:C3,FE dZ Lo [jR (it l),aa c]=some (jh l c (eD (aE l) c)):=fun c=>by rw[<-Cl];exact(bC lL Lo (it l,c)).trans (Va hP)
 have hr2:∀c:C3,FE dZ Lp [jR (it l),aa c]=some (jh l c (readersD (aE l) c)):=fun c=>by rw[<-va];exact(bC lL Lp (it l,c)).trans (Va hP)
 have hr3:∀c:C3,FE dZ rp [jR (it l),aa c]=some (jh l c (dq (aE l) c)):=fun c=>(bC lL rp (it l,c)).trans (Cm hl4 hcnt c)
 have hq1:∀c:C3,FE dt KT [tV (i7 l),aa c]=some (tW (i7 l) c):=fun c=>(bC jy KT (i7 l,c)).trans (Va hD)
 have hq2:∀c:C3,FE dt F5 [tV (i7 l),aa c]=some (xe (readersD (aE l) c)):=fun c=>(bC jy F5 (i7 l,c)).trans (Va hD)
 have hq3:∀c:C3,FE dt KS [tV (i7 l),aa c]=some (xe (dq (aE l) c)):=fun c=>(bC jy KS (i7 l,c)).trans (Va hD)
 obtain⟨A,hA⟩:∃A,jR (it l)= .ip A:=⟨_,rfl⟩;obtain⟨D,hDD⟩:∃D,tV (i7 l)= .ip D:=⟨_,rfl⟩;rw[hA] at n1 k0;rw[hDD] at n2 k1;simp only[hA] at hr1 hr2 hr3;simp only[hDD] at hq1 hq2 hq3;clear hA hDD hP hD;have gg:=oW (E:=(aP [(7,gX),(8,(FE cf Lx)),(9,(FE cf FN)),(10,(FE cf tY)),(12,(FE iC Fz)),(11,iU),(14,(FE dZ Lo)),(15,(FE dt KT)),(16,(FE dZ Lp)),(17,(FE dt F5)),(18,(FE dZ rp)),(19,(FE dt KS))] (fun _=>false) [(13,(FE ml LB))] (fun _=>false) (fun i=>i==8))) (el:=52) (n:=20) wq Dd De (by decide) rfl (es':=l.map bK) (m:=sz) (fun h=>hsz (by simpa using h)) (Cu l) (by rw[eq];omega) (by rw[eq];omega);generalize hCC:ar (aE l)=C at k0 k1 s0 hcl;simp +decide (maxDischargeDepth:=200) only[go_sem,Nat.reduceBEq,eq,e1,hfw,gg,n1,n2,k0,k1,s0];have g8:=cL (E:=(aP [(7,gX),(8,(FE cf Lx)),(9,(FE cf FN)),(10,(FE cf tY)),(12,(FE iC Fz)),(11,iU),(14,(FE dZ Lo)),(15,(FE dt KT)),(16,(FE dZ Lp)),(17,(FE dt F5)),(18,(FE dZ rp)),(19,(FE dt KS))] (fun _=>false) [(13,(FE ml LB))] (fun _=>false) (fun i=>i==8))) (el:=24) (n:=3) kL kM kN (by decide) rfl (es:=C.map aa) (v:= .agg [.x (.string ws),.x (.int .i64 wc),.x (.int .i64 wr)]) rfl (by rw[eq];omega) (by rw[eq];omega);refine F0 [(0,0,3,.ptr 3 0),(0,0,6,.ip A),(0,0,7,.ip D),(1,0,34,.ip D),(2,16,35,.sl (C.map aa).isEmpty 3 (C.map aa) (some 35)),(4,0,36,.agg [.x (.string ws),.x (.int .i64 wc),.x (.int .i64 wr)]),(8,0,37,.sl false 3 [.agg [.x (.string ws),.x (.int .i64 wc),.x (.int .i64 wr)]] none),(16,0,38,(.sl false 3 (C.map aa++[.agg [.x (.string ws),.x (.int .i64 wc),.x (.int .i64 wr)]]) (some 38))),(32,0,8,(.sl false 3 (C.map aa++[.agg [.x (.string ws),.x (.int .i64 wc),.x (.int .i64 wr)]]) (some 38)))] [(3,[.x (.string ws),.x (.int .i64 wc),.x (.int .i64 wr)])] [(0,0,1),(0,2,4),(1,1,3),(1,2,5),(4,0,5),(4,3,12),(3,2,7),(5,1,7),(5,3,13),(12,0,13),(7,3,15),(13,1,15),(15,4,31),(31,5,63)] 63 (by kernel_rfl) (by kernel_rfl) ?_ ?_ ?_
 . simp +decide (maxDischargeDepth:=200) only[go_sem,Nat.reduceBEq]
 . simp +decide (maxDischargeDepth:=200) only[go_sem,Nat.reduceBEq,k1,g8]
 obtain⟨AL,hAL⟩:∃AL,AL=C++[(ws,wc,wr)]:=⟨_,rfl⟩;have hALm:C.map aa++[.agg [.x (.string ws),.x (.int .i64 wc),.x (.int .i64 wr)]]=AL.map aa:=by rw[hAL,Vy];rfl
 have hALl:AL.length<=401:=by rw[hAL,U4];simp;omega
 rw[hALm];clear hALm hAL g8 gg n1 n2 k0 k1 s0 hfw;simp +decide (maxDischargeDepth:=200) only[go_sem,Nat.reduceBEq];refine aI (X:={i:Nat//i<=AL.length}) (fun i=>[(6,.ip A),(7,.ip D),(8,.sl false 3 (AL.map aa) (some 38)),(9,.x (.int .i64 ((i.1:Nat):Int)))]) (fun _=>[]) (fun i=>AL.length-i.1) ⟨0,VJ _⟩ (by simp +decide only[go_sem,VO]<;>(repeat' first|rfl|constructor)) (by simp +decide only[go_sem]<;>(repeat' first|rfl|constructor)) (fun⟨i,hi0⟩=>?_);simp only at hi0⊢;by_cases hi:i<AL.length
 . have c1:decide ((i:Int)<(AL.length:Int))=true:=iO (by omega);have c1':(i:Int)<(AL.length:Int):=by omega
   have c2:(0:Int)<=(i:Int):=by omega
   have c4:=aF (i:=i) (by omega);have q1:AL[i]?=some AL[i]:=io hi;have q2:(AL.map aa)[((i:Nat):Int).toNat]?=some (aa AL[i]):=by rw[U2,U5,q1];rfl
   generalize AL[i]=c at q2;have r1:=hr1 c;have r2:=hr2 c;have r3:=hr3 c;have p1:=hq1 c;have p2:=hq2 c;have p3:=hq3 c;obtain⟨b1,z1,f1,g1⟩:=lP (l:=l) (c:=c) (r:=eD (aE l) c) pK;obtain⟨b2,z2,f2,g2⟩:=lP (l:=l) (c:=c) (r:=readersD (aE l) c) oK;obtain⟨b3,z3,f3,g3⟩:=lP (l:=l) (c:=c) (r:=dq (aE l) c) F2;obtain⟨b4,z4,f4,g4⟩:=F1 l c;rw[f1] at r1;rw[f2] at r2;rw[f3] at r3;rw[f4] at p1;have s1:=mT (a:=b1) (b:=b4) (by have:=x8 l c;omega) g1 g4;have s2:=mT (a:=b2) (b:=((readersD (aE l) c).map aa).isEmpty) (z':=3) (by have:=vb l c;omega) g2 (fun _=>rfl);have s3:=mT (a:=b3) (b:=((dq (aE l) c).map aa).isEmpty) (z':=3) (by have:=Cn l c;omega) g3 (fun _=>rfl);simp only[xe] at p2 p3;obtain⟨xs,xc,xr⟩:=c;simp only[bg] at q2 r1 r2 r3 p1 p2 p3;generalize (eD (aE l) (xs,xc,xr)).map aa=R1 at r1 p1 s1;generalize (readersD (aE l) (xs,xc,xr)).map aa=R2 at r2 p2 s2;generalize (dq (aE l) (xs,xc,xr)).map aa=R3 at r3 p3 s3;simp +decide (maxDischargeDepth:=200) only[go_sem,Nat.reduceBEq,eq,c1,c1',c2,c4,q2,r1,r2,r3,p1,p2,p3,s1,s2,s3];refine⟨⟨i+1,hi⟩,?_,?_,?_⟩
   . simp +decide (maxDischargeDepth:=200) only[go_sem,Nat.reduceBEq]
   . simp +decide (maxDischargeDepth:=200) only[go_sem,Nat.reduceBEq]
   . simp only;omega
 . have c1:decide ((i:Int)<(AL.length:Int))=false:=tl (by omega);simp +decide (maxDischargeDepth:=200) only[go_sem,Nat.reduceBEq,eq,c1]
end Go.Proofs.YtalkmhjanlljhaaGreat

/- MR -/
import Derived.Test.YtiepfeebmnfbdaaGreatML
import Derived.Test.YtiepfeebmnfbdaaGreatMT
namespace Go.Proofs.YtiepfeebmnfbdaaGreat
open Tryz
set_option linter.unusedSimpArgs false
set_option maxHeartbeats 8000000
set_option maxRecDepth 100000
open Go Go.RowKit
attribute [go_sem] results9 results14 results25
theorem Xw{P:Prop}(h:P:=by simp only[uP77,uQ77,List.map_cons,List.map_nil,List.cons_append,List.nil_append,Nat.reducePow,Nat.reduceOr];simp +decide only[go_sem,oS,oT,g1,g2,g3,i0,i1]):P:=h
theorem Xv{P:Prop}(h:P:=by have c1:decide ((i:Int)<l.length)=false:=Io A0b;have e:l.take i=l:=ady A0b;simp +decide only[go_sem,eq,c1,e]):P:=h
theorem Xu{P:Prop}(h:P:=by simp +decide only[go_sem]):P:=h
theorem Xt{P:Prop}(h:P:=by simp +decide only[go_sem,Nat.reduceBEq]):P:=h
theorem Xs{P:Prop}(h:P:=by simp +decide only[go_sem,d8,d6]):P:=h
theorem Xr{P:Prop}(h:P:=by simp +decide only[go_sem,e]):P:=h
theorem Xq{P:Prop}(h:P:=by subst hji;rw[hb] at hp;cases hp;exact hq):P:=h
variable{E:Env}{st:St}
theorem kf{ops:List Oper}{K:St->Prop}(ents:List (Nat×Nat×Nat×V))(bs:List (Nat×U))(ps:List (Nat×Nat×Nat))(full:Nat)(hf:2^ops.length-1=full)(h:j3 ops ps=true)(h0:gw st (j6 ents 0)∧gL st bs)(ht:Bc E ops ents bs ps)
 (hk:K (aq (j6 ents full) bs)):Iw E ops st K:=DF ents bs ps h h0 ht (hf▸hk)
theorem Gm(l:List (Nat×(U->Option V)))(M:Nat->Bool)(lp:List (Nat×(U->Option (V×List U))))(any:Nat->Bool)(k:Nat)(b:Nat->Option U):aG (aY l M lp (fun _=>false) any) k b=b:=rfl
attribute [go_sem] Gm
theorem Gn{a:Code}{K:Out->St->Prop}(i n:Nat){es:U}{n0:Nat}{k0:Option Nat}(h:st.t i= .sl true n0 es k0)(he:es=[])
 (hr:mD (run E a) ⟨upd st.t i (.sl true n es none),st.b⟩ K):mD (run E a) st K:=by
 subst he;obtain⟨X,I,μ,x0,h0,hx⟩:=hr;refine⟨X,I,μ,x0,⟨fun j=>?_,h0.b⟩,hx⟩;have:=h0.t j;simp only[aJ] at this;split at this
 . rename_i e;subst e;rw[h];rcases this with e|e|⟨_,_,_,_,e1,e2⟩
   . exact .inl e
   . exact .inr (.inr ⟨_,_,_,_,e,rfl⟩)
   . exact .inr (.inr ⟨_,_,_,_,e1,rfl⟩)
 . exact this
def bT:U->Option V
 | [.sl _ sz es none,.agg [.x (.string s),.x (.int .i64 c),.x (.int .i64 r)]]=>match cellsOf es with
   |some l=>if l.length<=1000000∧(sz=3∨l=[]) then some (.bool (l.any fun p=>eE p (s,c,r))) else none
   |none=>none
 |_=>none
variable{l:List C3}
abbrev A3(s c r):=([.x (.string s),.i c,.i r]:List V)
theorem mN{nl:Bool}{sz:Nat}(s:ByteArray)(c r:Int)(h:l.length<=1000000)(hs:sz=3∨l=[]):bT [.sl nl sz (l.map aa) none,.agg (A3 s c r)]=some (.bool (l.any fun p=>eE p (s,c,r))):=by unfold bT;simp only[iu];exact adl ⟨h,hs⟩
theorem mO:cg 9 bT:=by
 refine aE (E:=aY [] (fun _=>false) [] (fun _=>false) (fun _=>false)) (k:=2) (ge _ _ _ _ _ trivial trivial) A0a func9 rfl (fun a w=>call9 a w) ntmps9 A0a A0c A0c ?_;intro us r hF hdat;unfold bT at hF;split at hF
 case h_2=>cases hF
 rename_i nl sz es s c r;split at hF
 case h_2=>cases hF
 rename_i l hl;split at hF
 case isFalse=>cases hF
 rename_i hle;obtain⟨hle,hs3⟩:=hle;cases hF;refine⟨rfl,?_⟩;obtain rfl:=lX hl;have hsz:(((l.map aa).length:Nat):Int)=(l.length:Int):=by rw[eq]
 simp +decide only[go_sem];refine aT (X:={i:Nat//i<=l.length∧∀(j:Nat) (p:C3),j<i->l[j]?=some p->eE p (s,c,r)=false}) (fun i=>[(0,.sl nl sz (l.map aa) none),(3,.ptr 3 0),(4,.bool false),(5,.i i.1)]) (fun _=>[(3,(A3 s c r))]) (fun i=>l.length-i.1) ⟨0,A0b,fun j k hj=>by omega⟩ A1i A02 (fun⟨i,hi,hz⟩=>?_);by_cases hil:i<l.length
 . obtain rfl:sz=3:=hs3.resolve_right (by rintro rfl;simp at hil);obtain⟨⟨s1,c1,r1⟩,hb⟩:=uu hil;have d0:decide ((i:Int)<l.length)=true:=ac0 A0b;have k2:(0:Int)<=(i:Int):=A0b
   have k4:=ax (i:=i) A0b;have k5:=cY hb;cases hq:eE (s1,c1,r1) (s,c,r)
   . simp +decide only[go_sem,hsz,d0,k2,k4,k5,bw,Sy,hq];refine⟨⟨i+1,A0b,fun j p hj hp=>?_⟩,?_,?_,by simp only;omega⟩
     . by_cases hji:j=i
       . exact Xq
       . exact hz j p A0b hp
     . exact Xu
     . exact Xu
   . have e:(l.any fun p=>eE p (s,c,r))=true:=aeJ.2 ⟨_,adg hb,hq⟩;simp +decide only[go_sem,hsz,d0,k2,k4,k5,bw,Sy,hq,e]
 . have d0:decide ((i:Int)<l.length)=false:=Io A0b;have e:(l.any fun p=>eE p (s,c,r))=false:=by rw[List.any_eq_false];intro p hp;obtain⟨j,hj⟩:=aen hp;simp[hz j p (by have:=(iO.1 hj).1;omega) hj]
   simp +decide only[go_sem,hsz,d0,e]
def ae(p q:C3):Bool:=eF p.1 p.2.1 p.2.2 q.1 q.2.1 q.2.2
def jr(l:List C3)(p:C3):Bool:=l.any fun q=>eE q p
def aM(l:List C3)(p:C3):List C3:=if jr l p=true then l else l.takeWhile (fun q=>ae q p)++p::l.dropWhile (fun q=>ae q p)
theorem iZ{α:Type}(f:α->Bool):∀(l:List α) (i:Nat),i<=l.length->(∀(j:Nat) (q:α),j<i->l[j]?=some q->f q=true)->(∀q,l[i]?=some q->f q=false)->l.takeWhile f=l.take i∧l.dropWhile f=l.drop i
 |[],i,_,_,_=>by simp
 |q::l,0,_,_,h=>by have:=h q rfl;simp[List.takeWhile,List.dropWhile,this]
 |q::l,i+1,hi,h1,h2=>by have hq:=h1 0 q A0b rfl;obtain⟨e1,e2⟩:=iZ f l i A0m (fun j q hj hq=>h1 (j+1) q A0b A1w) (fun q hq=>h2 q A1w);simp[List.takeWhile,List.dropWhile,hq,e1,e2]
def lx:U->Option V
 | [.sl nl sz es none,.agg [.x (.string s),.x (.int .i64 c),.x (.int .i64 r)]]=>match cellsOf es with
   |some l=>if l.length<=900000∧(sz=3∨nl=true∧l=[]) then some (if jr l (s,c,r)=true then .sl nl sz es none else .sl false 3 ((aM l (s,c,r)).map aa) none) else none
   |none=>none
 |_=>none
theorem oS{i:Nat}:List.take ((i:Int).toNat-0) (l.map aa)=(l.take i).map aa:=by simp[List.map_take]
theorem oT{i:Nat}:List.take ((((l.map aa).length:Nat):Int).toNat-(i:Int).toNat) (List.drop (i:Int).toNat (l.map aa))=(l.drop i).map aa:=by rw[tl,tl,List.map_drop,ady A0k]
theorem mP(hP:E.P=prog){a b:List C3}(h:a.length+b.length<=1000000)(st:St)(d tok sz:Nat)(nl:Bool)(t':Option Nat)(hs:sz=3∨b.map aa=[]):
 bt E st (some d) 33 (.sl false 3 (a.map aa) (some tok)) (.sl nl sz (b.map aa) t')=some ⟨upd (strip tok (strip d st.t)) d (.sl false 3 ((a++b).map aa) (some d)),aG E tok (aG E d st.b)⟩:=by
 have e1:bo E.P 33=some 3:=by rw[hP];exact mH
 have e2:bY E.P 33=some 32:=by rw[hP];exact mI
 have e3:=mJ;rw[<-hP] at e3;unfold bt;simp only[e1,e2,e3];rw[adl ⟨A0c,rfl,trivial,hs,(adr.2 fun u hu=>by obtain⟨p,_,rfl⟩:=ads.1 hu;rfl),by rw[eq,eq];omega,by rw[eq,eq];omega⟩,adK]
theorem kJ(hP:E.P=prog){b:List C3}(h:b.length<=1000000)(st:St)(d n sz:Nat)(nl:Bool)(t':Option Nat)(hs:sz=3∨b.map aa=[]):
 bt E st (some d) 33 (.sl true n [] none) (.sl nl sz (b.map aa) t')=some ⟨upd (strip d st.t) d (.sl (b.map aa).isEmpty 3 (b.map aa) (some d)),aG E d st.b⟩:=by
 have e1:bo E.P 33=some 3:=by rw[hP];exact mH
 have e2:bY E.P 33=some 32:=by rw[hP];exact mI
 have e3:=mJ;rw[<-hP] at e3;unfold bt;simp only[e1,e2,e3];rw[adl ⟨A0c,rfl,hs,(adr.2 fun u hu=>by obtain⟨p,_,rfl⟩:=ads.1 hu;rfl),A0w,A0w⟩];rfl
theorem kK(hP:E.P=prog){a:List C3}(h:a.length<=1000000)(s:ByteArray)(c r:Int)(st:St)(d tok:Nat)(nl:Bool)(t':Option Nat):
 bt E st (some d) 33 (.sl (a.map aa).isEmpty 3 (a.map aa) (some tok)) (.sl nl 3 [.agg (A3 s c r)] t')=some ⟨upd (strip tok (strip d st.t)) d (.sl false 3 ((a++[(s,c,r)]).map aa) (some d)),aG E tok (aG E d st.b)⟩:=by
 rw[adK];exact db (E:=E) (n:=3) (by rw[hP];exact mH) (by rw[hP];exact mI) (by rw[hP];exact mJ) A0c rfl rfl A0w A0w st d tok nl t'
def uQ77:List (Nat×List Nat)->List (Nat×Nat×Nat)
 |[]=>[]
 |p::r=>(p.2.map fun i=>(p.1,i,p.1|||2^i))++uQ77 r
abbrev uP77:=(uQ77 [(0,[0,1,4,7,8]),(1,[1,4,7,8]),(2,[0,4,7,8]),(16,[0,1,5,7,8]),(128,[0,1,4,8]),(256,[0,1,4,7]),(3,[2,4,7,8]),(17,[1,5,7,8]),(129,[1,4,8]),(257,[1,4,7]),(18,[0,5,7,8]),(130,[0,4,8]),(258,[0,4,7]),(48,[0,1,7,8]),(144,[0,1,5,8]),(272,[0,1,5,7]),(384,[0,1,4,9]),(7,[3,4,7,8]),(19,[2,5,7,8]),(131,[2,4,8]),(259,[2,4,7]),(49,[1,7,8]),(145,[1,5,8]),(273,[1,5,7]),(385,[1,4,9]),(50,[0,7,8]),(146,[0,5,8]),(274,[0,5,7]),(386,[0,4,9]),(176,[0,1,8]),(304,[0,1,7]),(400,[0,1,5,9]),(896,[0,1,4]),(15,[4,7,8]),(23,[3,5,7,8]),(135,[3,4,8]),(263,[3,4,7]),(51,[2,7,8]),(147,[2,5,8]),(275,[2,5,7]),(387,[2,4,9]),(177,[1,8]),(305,[1,7]),(401,[1,5,9]),(897,[1,4]),(178,[0,8]),(306,[0,7]),(402,[0,5,9]),(898,[0,4]),(432,[0,1,9]),(912,[0,1,5]),(31,[5,7,8]),(143,[4,8]),(271,[4,7]),(55,[3,7,8]),(151,[3,5,8]),(279,[3,5,7]),(391,[3,4,9]),(179,[2,8]),(307,[2,7]),(403,[2,5,9]),(899,[2,4]),(433,[1,9]),(913,[1,5]),(434,[0,9]),(914,[0,5]),(944,[0,1]),(63,[6,7,8]),(159,[5,8]),(287,[5,7]),(399,[4,9]),(183,[3,8]),(311,[3,7]),(407,[3,5,9]),(903,[3,4]),(435,[2,9]),(915,[2,5]),(945,[1]),(946,[0]),(127,[7,8]),(191,[6,8]),(319,[6,7]),(415,[5,9]),(911,[4]),(439,[3,9]),(919,[3,5]),(947,[2]),(255,[8]),(383,[7]),(447,[6,9]),(927,[5]),(951,[3]),(511,[9]),(959,[6]),(1023,[10]),(2047,[11])]:List (Nat×Nat×Nat))
theorem xr :cg 25 lx:=by
 refine aE (E:=aY [(9,bT),(27,bp)] (fun _=>false) [] (fun _=>false) (fun i=>i==6)) (k:=2) (ge _ _ _ _ _ ⟨mO,sO,trivial⟩ trivial) A0a func25 rfl (fun a w=>call25 a w) ntmps25 A0a A0c A0c ?_;intro us r hF hdat;unfold lx at hF;split at hF
 case h_2=>cases hF
 rename_i nl sz es s c r;split at hF
 case h_2=>cases hF
 rename_i l hl;split at hF
 case isFalse=>cases hF
 rename_i hle;obtain⟨hle,hs3⟩:=hle;cases hF;refine⟨rfl,?_⟩;obtain rfl:=lX hl;have hsz:(((l.map aa).length:Nat):Int)=(l.length:Int):=by rw[eq]
 have hh:=mN (nl:=nl) (sz:=sz) (l:=l) s c r A0b (hs3.imp id And.right);by_cases hin:jr l (s,c,r)=true
 . rw[adl hin];have hin':(l.any fun p=>eE p (s,c,r))=true:=hin;rw[hin'] at hh;simp +decide only[go_sem,Nat.reduceBEq,hh]
 . rw [adq hin];have e:aM l (s,c,r)=l.takeWhile (fun q=>ae q (s,c,r))++(s,c,r)::l.dropWhile (fun q=>ae q (s,c,r)):=adq hin;have hin':(l.any fun p=>eE p (s,c,r))=false:=by revert hin;unfold jr;cases(l.any fun p=>eE p (s,c,r))<;>simp
   rw[hin'] at hh;rcases hs3 with rfl|⟨rfl,hl0⟩
   . simp +decide only[go_sem,Nat.reduceBEq,hh];refine aT (X:={i:Nat//i<=l.length∧∀(j:Nat) (p:C3),j<i->l[j]?=some p->ae p (s,c,r)=true}) (fun i=>[(0,.sl nl 3 (l.map aa) none),(3,.ptr 3 0),(4,.sl true 0 [] none),(5,.i i.1)]) (fun _=>[(3,(A3 s c r))]) (fun i=>l.length-i.1) ⟨0,A0b,fun j k hj=>by omega⟩ A1l A1r (fun⟨i,hi,hz⟩=>?_);by_cases hil:i<l.length
     . obtain⟨⟨s1,c1,r1⟩,hb⟩:=uu hil;have d0:decide ((i:Int)<l.length)=true:=ac0 A0b;have k2:(0:Int)<=(i:Int):=A0b
       have k4:=ax (i:=i) A0b;have k5:=cY hb;cases hq:eF s1 c1 r1 s c r
       . obtain⟨e1,e2⟩:=iZ (fun q=>ae q (s,c,r)) l i hi hz (fun q hq'=>by rw[hb] at hq';cases hq';exact hq);have ef:aM l (s,c,r)=(l.take i++[(s,c,r)])++l.drop i:=by rw[e,e1,e2];simp
         rw[ef];simp +decide only[go_sem,Nat.reduceBEq,hsz,d0,k2,k4,k5,bw,bp,hq];have g1:∀(st:St),bt (aY [(9,bT),(27,bp)] (fun _=>false) [] (fun _=>false) (fun i=>i==6)) st (some 27) 33 (.sl true 0 [] none) (.sl nl 3 ((l.take i).map aa) none)=_:=fun st=>kJ (E:=aY [(9,bT),(27,bp)] (fun _=>false) [] (fun _=>false) (fun i=>i==6)) rfl (b:=l.take i) A0K st 27 0 3 nl none (.inl rfl)
         have g2:∀(st:St) (tok:Nat),bt (aY [(9,bT),(27,bp)] (fun _=>false) [] (fun _=>false) (fun i=>i==6)) st (some 30) 33 (.sl ((l.take i).map aa).isEmpty 3 ((l.take i).map aa) (some tok)) (.sl false 3 [.agg [.x (.string s),.i c,.i r]] none)=_:=fun st tok=>kK (E:=aY [(9,bT),(27,bp)] (fun _=>false) [] (fun _=>false) (fun i=>i==6)) rfl (a:=l.take i) A0K s c r st 30 tok false none
         have g3:∀(st:St) (tok:Nat),bt (aY [(9,bT),(27,bp)] (fun _=>false) [] (fun _=>false) (fun i=>i==6)) st (some 34) 33 (.sl false 3 ((l.take i++[(s,c,r)]).map aa) (some tok)) (.sl nl 3 ((l.drop i).map aa) none)=_:=fun st tok=>mP (E:=aY [(9,bT),(27,bp)] (fun _=>false) [] (fun _=>false) (fun i=>i==6)) rfl (a:=l.take i++[(s,c,r)]) (b:=l.drop i) A0N st 34 tok 3 nl none (.inl rfl)
         have i0:(0:Int)<=(i:Int):=A0b
         have i1:(i:Int)<=(((l.map aa).length:Nat):Int):=A0w
         refine kf [(0,0,0,.sl nl 3 (l.map aa) none),(0,0,3,.ptr 3 0),(0,2048,4,.sl true 0 [] none),(0,0,5,.i i),(1,0,24,.sl nl 3 (l.map aa) none),(2,0,25,.i i),(4,0,26,.sl nl 3 ((l.take i).map aa) none),(8,64,27,.sl ((l.take i).map aa).isEmpty 3 ((l.take i).map aa) (some 27)),(16,0,28,.agg (A3 s c r)),(32,0,29,.sl false 3 [.agg (A3 s c r)] none),(64,1024,30,.sl false 3 ((l.take i++[(s,c,r)]).map aa) (some 30)),(128,0,31,.sl nl 3 (l.map aa) none),(256,0,32,.i i),(512,0,33,.sl nl 3 ((l.drop i).map aa) none),(1024,2048,34,.sl false 3 (((l.take i++[(s,c,r)])++l.drop i).map aa) (some 34)),(2048,0,4,.sl false 3 (((l.take i++[(s,c,r)])++l.drop i).map aa) (some 34))] [(3,(A3 s c r))] uP77 4095 A0a A0a ?_ ?_ ?_
         . exact Xu
         . exact Xw
         . exact Xt
       . simp +decide only[go_sem,Nat.reduceBEq,hsz,d0,k2,k4,k5,bw,bp,hq];refine⟨⟨i+1,A0b,fun j p hj hp=>?_⟩,?_,?_,by simp only;omega⟩
         . by_cases hji:j=i
           . exact Xq
           . exact hz j p A0b hp
         . exact Xu
         . exact Xu
     . have d0:decide ((i:Int)<l.length)=false:=Io A0b;obtain⟨e1,e2⟩:=iZ (fun q=>ae q (s,c,r)) l i hi hz (fun q hq'=>by rw[adM A0b] at hq';cases hq');have ef:aM l (s,c,r)=(l.take i++[(s,c,r)])++l.drop i:=by rw[e,e1,e2];simp
       rw[ef];simp +decide only[go_sem,Nat.reduceBEq,hsz,d0];have g1:∀(st:St),bt (aY [(9,bT),(27,bp)] (fun _=>false) [] (fun _=>false) (fun i=>i==6)) st (some 27) 33 (.sl true 0 [] none) (.sl nl 3 ((l.take i).map aa) none)=_:=fun st=>kJ (E:=aY [(9,bT),(27,bp)] (fun _=>false) [] (fun _=>false) (fun i=>i==6)) rfl (b:=l.take i) A0K st 27 0 3 nl none (.inl rfl)
       have g2:∀(st:St) (tok:Nat),bt (aY [(9,bT),(27,bp)] (fun _=>false) [] (fun _=>false) (fun i=>i==6)) st (some 30) 33 (.sl ((l.take i).map aa).isEmpty 3 ((l.take i).map aa) (some tok)) (.sl false 3 [.agg [.x (.string s),.i c,.i r]] none)=_:=fun st tok=>kK (E:=aY [(9,bT),(27,bp)] (fun _=>false) [] (fun _=>false) (fun i=>i==6)) rfl (a:=l.take i) A0K s c r st 30 tok false none
       have g3:∀(st:St) (tok:Nat),bt (aY [(9,bT),(27,bp)] (fun _=>false) [] (fun _=>false) (fun i=>i==6)) st (some 34) 33 (.sl false 3 ((l.take i++[(s,c,r)]).map aa) (some tok)) (.sl nl 3 ((l.drop i).map aa) none)=_:=fun st tok=>mP (E:=aY [(9,bT),(27,bp)] (fun _=>false) [] (fun _=>false) (fun i=>i==6)) rfl (a:=l.take i++[(s,c,r)]) (b:=l.drop i) A0N st 34 tok 3 nl none (.inl rfl)
       have i0:(0:Int)<=(i:Int):=A0b
       have i1:(i:Int)<=(((l.map aa).length:Nat):Int):=A0w
       refine kf [(0,0,0,.sl nl 3 (l.map aa) none),(0,0,3,.ptr 3 0),(0,2048,4,.sl true 0 [] none),(0,0,5,.i i),(1,0,24,.sl nl 3 (l.map aa) none),(2,0,25,.i i),(4,0,26,.sl nl 3 ((l.take i).map aa) none),(8,64,27,.sl ((l.take i).map aa).isEmpty 3 ((l.take i).map aa) (some 27)),(16,0,28,.agg (A3 s c r)),(32,0,29,.sl false 3 [.agg (A3 s c r)] none),(64,1024,30,.sl false 3 ((l.take i++[(s,c,r)]).map aa) (some 30)),(128,0,31,.sl nl 3 (l.map aa) none),(256,0,32,.i i),(512,0,33,.sl nl 3 ((l.drop i).map aa) none),(1024,2048,34,.sl false 3 (((l.take i++[(s,c,r)])++l.drop i).map aa) (some 34)),(2048,0,4,.sl false 3 (((l.take i++[(s,c,r)])++l.drop i).map aa) (some 34))] [(3,(A3 s c r))] uP77 4095 A0a A0a ?_ ?_ ?_
       . exact Xu
       . exact Xw
       . exact Xt
   . simp +decide only[go_sem,Nat.reduceBEq,hh];refine Gn 0 3 (es:=l.map aa) (n0:=sz) (k0:=none) rfl (by rw[hl0];rfl) ?_;refine aT (X:={i:Nat//i<=l.length∧∀(j:Nat) (p:C3),j<i->l[j]?=some p->ae p (s,c,r)=true}) (fun i=>[(0,.sl true 3 (l.map aa) none),(3,.ptr 3 0),(4,.sl true 0 [] none),(5,.i i.1)]) (fun _=>[(3,(A3 s c r))]) (fun i=>l.length-i.1) ⟨0,A0b,fun j k hj=>by omega⟩ A1l A1r (fun⟨i,hi,hz⟩=>?_);by_cases hil:i<l.length
     . obtain⟨⟨s1,c1,r1⟩,hb⟩:=uu hil;have d0:decide ((i:Int)<l.length)=true:=ac0 A0b;have k2:(0:Int)<=(i:Int):=A0b
       have k4:=ax (i:=i) A0b;have k5:=cY hb;cases hq:eF s1 c1 r1 s c r
       . obtain⟨e1,e2⟩:=iZ (fun q=>ae q (s,c,r)) l i hi hz (fun q hq'=>by rw[hb] at hq';cases hq';exact hq);have ef:aM l (s,c,r)=(l.take i++[(s,c,r)])++l.drop i:=by rw[e,e1,e2];simp
         rw[ef];simp +decide only[go_sem,Nat.reduceBEq,hsz,d0,k2,k4,k5,bw,bp,hq];have g1:∀(st:St),bt (aY [(9,bT),(27,bp)] (fun _=>false) [] (fun _=>false) (fun i=>i==6)) st (some 27) 33 (.sl true 0 [] none) (.sl true 3 ((l.take i).map aa) none)=_:=fun st=>kJ (E:=aY [(9,bT),(27,bp)] (fun _=>false) [] (fun _=>false) (fun i=>i==6)) rfl (b:=l.take i) A0K st 27 0 3 true none (.inl rfl)
         have g2:∀(st:St) (tok:Nat),bt (aY [(9,bT),(27,bp)] (fun _=>false) [] (fun _=>false) (fun i=>i==6)) st (some 30) 33 (.sl ((l.take i).map aa).isEmpty 3 ((l.take i).map aa) (some tok)) (.sl false 3 [.agg [.x (.string s),.i c,.i r]] none)=_:=fun st tok=>kK (E:=aY [(9,bT),(27,bp)] (fun _=>false) [] (fun _=>false) (fun i=>i==6)) rfl (a:=l.take i) A0K s c r st 30 tok false none
         have g3:∀(st:St) (tok:Nat),bt (aY [(9,bT),(27,bp)] (fun _=>false) [] (fun _=>false) (fun i=>i==6)) st (some 34) 33 (.sl false 3 ((l.take i++[(s,c,r)]).map aa) (some tok)) (.sl true 3 ((l.drop i).map aa) none)=_:=fun st tok=>mP (E:=aY [(9,bT),(27,bp)] (fun _=>false) [] (fun _=>false) (fun i=>i==6)) rfl (a:=l.take i++[(s,c,r)]) (b:=l.drop i) A0N st 34 tok 3 true none (.inl rfl)
         have i0:(0:Int)<=(i:Int):=A0b
         have i1:(i:Int)<=(((l.map aa).length:Nat):Int):=A0w
         refine kf [(0,0,0,.sl true 3 (l.map aa) none),(0,0,3,.ptr 3 0),(0,2048,4,.sl true 0 [] none),(0,0,5,.i i),(1,0,24,.sl true 3 (l.map aa) none),(2,0,25,.i i),(4,0,26,.sl true 3 ((l.take i).map aa) none),(8,64,27,.sl ((l.take i).map aa).isEmpty 3 ((l.take i).map aa) (some 27)),(16,0,28,.agg (A3 s c r)),(32,0,29,.sl false 3 [.agg (A3 s c r)] none),(64,1024,30,.sl false 3 ((l.take i++[(s,c,r)]).map aa) (some 30)),(128,0,31,.sl true 3 (l.map aa) none),(256,0,32,.i i),(512,0,33,.sl true 3 ((l.drop i).map aa) none),(1024,2048,34,.sl false 3 (((l.take i++[(s,c,r)])++l.drop i).map aa) (some 34)),(2048,0,4,.sl false 3 (((l.take i++[(s,c,r)])++l.drop i).map aa) (some 34))] [(3,(A3 s c r))] uP77 4095 A0a A0a ?_ ?_ ?_
         . exact Xu
         . exact Xw
         . exact Xt
       . simp +decide only[go_sem,Nat.reduceBEq,hsz,d0,k2,k4,k5,bw,bp,hq];refine⟨⟨i+1,A0b,fun j p hj hp=>?_⟩,?_,?_,by simp only;omega⟩
         . by_cases hji:j=i
           . exact Xq
           . exact hz j p A0b hp
         . exact Xu
         . exact Xu
     . have d0:decide ((i:Int)<l.length)=false:=Io A0b;obtain⟨e1,e2⟩:=iZ (fun q=>ae q (s,c,r)) l i hi hz (fun q hq'=>by rw[adM A0b] at hq';cases hq');have ef:aM l (s,c,r)=(l.take i++[(s,c,r)])++l.drop i:=by rw[e,e1,e2];simp
       rw[ef];simp +decide only[go_sem,Nat.reduceBEq,hsz,d0];have g1:∀(st:St),bt (aY [(9,bT),(27,bp)] (fun _=>false) [] (fun _=>false) (fun i=>i==6)) st (some 27) 33 (.sl true 0 [] none) (.sl true 3 ((l.take i).map aa) none)=_:=fun st=>kJ (E:=aY [(9,bT),(27,bp)] (fun _=>false) [] (fun _=>false) (fun i=>i==6)) rfl (b:=l.take i) A0K st 27 0 3 true none (.inl rfl)
       have g2:∀(st:St) (tok:Nat),bt (aY [(9,bT),(27,bp)] (fun _=>false) [] (fun _=>false) (fun i=>i==6)) st (some 30) 33 (.sl ((l.take i).map aa).isEmpty 3 ((l.take i).map aa) (some tok)) (.sl false 3 [.agg [.x (.string s),.i c,.i r]] none)=_:=fun st tok=>kK (E:=aY [(9,bT),(27,bp)] (fun _=>false) [] (fun _=>false) (fun i=>i==6)) rfl (a:=l.take i) A0K s c r st 30 tok false none
       have g3:∀(st:St) (tok:Nat),bt (aY [(9,bT),(27,bp)] (fun _=>false) [] (fun _=>false) (fun i=>i==6)) st (some 34) 33 (.sl false 3 ((l.take i++[(s,c,r)]).map aa) (some tok)) (.sl true 3 ((l.drop i).map aa) none)=_:=fun st tok=>mP (E:=aY [(9,bT),(27,bp)] (fun _=>false) [] (fun _=>false) (fun i=>i==6)) rfl (a:=l.take i++[(s,c,r)]) (b:=l.drop i) A0N st 34 tok 3 true none (.inl rfl)
       have i0:(0:Int)<=(i:Int):=A0b
       have i1:(i:Int)<=(((l.map aa).length:Nat):Int):=A0w
       refine kf [(0,0,0,.sl true 3 (l.map aa) none),(0,0,3,.ptr 3 0),(0,2048,4,.sl true 0 [] none),(0,0,5,.i i),(1,0,24,.sl true 3 (l.map aa) none),(2,0,25,.i i),(4,0,26,.sl true 3 ((l.take i).map aa) none),(8,64,27,.sl ((l.take i).map aa).isEmpty 3 ((l.take i).map aa) (some 27)),(16,0,28,.agg (A3 s c r)),(32,0,29,.sl false 3 [.agg (A3 s c r)] none),(64,1024,30,.sl false 3 ((l.take i++[(s,c,r)]).map aa) (some 30)),(128,0,31,.sl true 3 (l.map aa) none),(256,0,32,.i i),(512,0,33,.sl true 3 ((l.drop i).map aa) none),(1024,2048,34,.sl false 3 (((l.take i++[(s,c,r)])++l.drop i).map aa) (some 34)),(2048,0,4,.sl false 3 (((l.take i++[(s,c,r)])++l.drop i).map aa) (some 34))] [(3,(A3 s c r))] uP77 4095 A0a A0a ?_ ?_ ?_
       . exact Xu
       . exact Xw
       . exact Xt
def kL(l:List C3):Nat:=if l.isEmpty then 0 else 3
def gM(h:Hd):List C3:=(dT h.cs h.cc h.cr h.ts h.tc h.tr).getD []
def eG(h:Hd):List C3:=bif decide (h.k=2)&&bM h.cs h.cc h.cr then aM [] (h.cs,h.cc,h.cr) else bif decide (h.k=3) then (gM h).foldl aM [] else []
mutual
def aD:Nd->List C3
 | .leaf h=>eG h
 | .mk h l=>aV (eG h) l
def aV:List C3->List Nd->List C3
 |acc,[]=>acc
 |acc,n::l=>aV ((aD n).foldl aM acc) l
end
theorem Gp(a:Nd):aD a=aV (eG a.hd) a.ks:=by cases a<;>simp only[aD,aV,Nd.hd,Nd.ks]
theorem fJ(acc:List C3)(l:List Nd)(n:Nd):aV acc (l++[n])=(aD n).foldl aM (aV acc l):=by
 induction l generalizing acc with
 |nil=>rfl
 |cons x l ih=>simp only[aee,aV,ih]
theorem sR(l:List C3)(p:C3):(aM l p).length<=l.length+1:=by
 unfold aM;split
 . omega
 . have:(l.takeWhile (fun q=>ae q p)).length+(l.dropWhile (fun q=>ae q p)).length=l.length:=by rw[<-adh,aeu]
   simp only[adh,adm];omega
theorem eZ(c:List C3):∀acc:List C3,(c.foldl aM acc).length<=acc.length+c.length:=by
 induction c with
 |nil=>intro acc;simp
 |cons p c ih=>intro acc;have:=ih (aM acc p);have:=sR acc p;simp only[aeh,adm];omega
theorem sS(h:Hd):(gM h).length<=400:=by
 unfold gM dT;split
 . rename_i hh;obtain⟨hok,h4⟩:=hh;obtain⟨_,_,_,hc,hr⟩:=jB.1 hok;rw[aeI,dD];have e1:h.tc-h.cc+1=(((h.tc-h.cc+1).toNat:Nat):Int):=A0b
   have e2:h.tr-h.cr+1=(((h.tr-h.cr+1).toNat:Nat):Int):=A0b
   unfold cE at h4;rw[e1,e2] at h4;have:(((h.tr-h.cr+1).toNat*(h.tc-h.cc+1).toNat:Nat):Int)<=400:=by push_cast;rw[Int.mul_comm];exact h4
   omega
 . simp
theorem qe(h:Hd):(eG h).length<=400:=by
 unfold eG;cases decide (h.k=2)&&bM h.cs h.cc h.cr with
 |true=>have:=sR [] (h.cs,h.cc,h.cr);simp only[agH];simp at this;omega
 | false=>
   cases decide (h.k=3) with
   |true=>have:=eZ (gM h) [];have:=sS h;simp only[agH,agh];simp at*;omega
   |false=>simp
mutual
theorem fl:∀a:Nd,(aD a).length<=400*lw a
 | .leaf h=>by have:=qe h;simp only[aD,lw];omega
 | .mk h l=>by have:=lZ (eG h) l;have:=qe h;simp only[aD,lw];omega
theorem lZ:∀(acc:List C3) (l:List Nd),(aV acc l).length<=acc.length+400*cntL l
 |acc,[]=>by simp[aV]
 |acc,n::l=>by have:=lZ ((aD n).foldl aM acc) l;have:=eZ (aD n) acc;have:=fl n;simp only[aV,cntL];omega
end
theorem gN(L:List C3)(p:C3)(h:L.length<=900000):lx [.sl (L).isEmpty (kL (L)) ((L).map aa) none,.agg [.x (.string p.1),.i p.2.1,.i p.2.2]]=some (.sl (aM L p).isEmpty (kL (aM L p)) ((aM L p).map aa) none):=by
 obtain⟨s,c,r⟩:=p;unfold lx;simp only[iu];rw[adl ⟨h,by cases L with|nil=>exact .inr ⟨rfl,rfl⟩|cons q L=>exact .inl rfl⟩];by_cases hin:jr L (s,c,r)=true
 . have e:aM L (s,c,r)=L:=adl hin;rw[adl hin,e]
 . have e:aM L (s,c,r)=L.takeWhile (fun q=>ae q (s,c,r))++(s,c,r)::L.dropWhile (fun q=>ae q (s,c,r)):=adq hin;have e2:(aM L (s,c,r)).isEmpty=false:=by rw[e];cases L.takeWhile (fun q=>ae q (s,c,r))<;>rfl
   rw[adq hin];simp only[kL,e2,adI,adw]
theorem Bu(l:List Nd)(i:Nat):cntL (l.take i)<=cntL l:=by
 have key:∀(a b:List Nd),cntL (a++b)=cntL a+cntL b:=by
  intro a b
  induction a with
  |nil=>simp[cntL]
  |cons x a ih=>simp only[aee,cntL,ih,afR]
 have:=key (l.take i) (l.drop i);rw[afq] at this;omega
def fa(nd:Nd):Option V:=if lw nd<=400 then some (.sl (aD nd).isEmpty (kL (aD nd)) ((aD nd).map aa) none) else none
theorem nH{nd:Nd}(h:lw nd<=400):fa nd=some (.sl (aD nd).isEmpty (kL (aD nd)) ((aD nd).map aa) none):=adl h
variable{p:C3}
theorem qf{i:Nat}(h:l[i]?=some p):kL l=3:=by
 cases l with
 |nil=>simp at h
 |cons q l=>rfl
theorem gA{c:List C3}{i:Nat}(h:c[i]?=some p)(acc:List C3):(c.take (i+1)).foldl aM acc=aM ((c.take i).foldl aM acc) p:=by
 have:c.take (i+1)=c.take i++[p]:=by rw[af5,h];rfl
 rw[this,aeT];rfl
theorem Gq : cg 14 (FE dS fa):=by
 refine DG lw (fun a w=>call14 a w) (fun n ih=>?_);refine aE (E:=aI [(14,(FE dS fun a=>if lw a<n then fa a else none)),(25,lx),(29,dU),(28,cB)]) (k:=1) (aU _ ⟨ih,xr,Bt,pV,trivial⟩) A0a func14 rfl (fun a w=>call14 a w) ntmps14 A0a A0c A0c ?_;intro us r hF hdat;obtain⟨nd,hus,hG⟩:=bh hF;subst hus;obtain⟨hlt,hF⟩:=bK hG;unfold fa at hF;obtain⟨h400,hF⟩:=bK hF;cases hF;simp only[dS];obtain⟨k,op,nm,vk,vn,vs,cs,cc,cr,ts,tc,tr,l,nl,sz,hh,hl,hf,hs⟩:=cJ nd;have hrec:∀(i:Nat) (c:Nd),l[i]?=some c->(FE dS fun a=>if lw a<n then fa a else none) [ar c]=some (.sl (aD c).isEmpty (kL (aD c)) ((aD c).map aa) none)∧(aD c).length<=160000:=fun i c hc=>by have h1:=OO (nd:=nd) (c:=c) (i:=i) (by rw[hl];exact hc);have:=fl c;exact⟨(ca ke _ c).trans ((adl A0b).trans (nH A0b)),A0b⟩
 have hlen:l.length<400:=by have:=J4 nd;rw[hl] at this;omega
 have hcl:cntL l<=400:=by have:=nE nd;rw[hl] at this;omega
 have hbl:=qe nd.hd;have hrl:∀i,(aV (eG nd.hd) (l.take i)).length<=170000:=fun i=>by have:=lZ (eG nd.hd) (l.take i);have:=Bu l i;omega
 rw[hf,Gp,hl];refine⟨rfl,?_⟩;rw[hh] at hbl hrl⊢;by_cases h2:k=2
 . subst h2;cases hr:bM cs cc cr
   . have eb:eG ⟨2,op,nm,vk,vn,vs,cs,cc,cr,ts,tc,tr⟩=[]:=by simp[eG,hr]
     rw[eb] at hrl⊢;simp +decide only[go_sem,cB,hr];refine aT (X:={i:Nat//i<=l.length}) (fun i=>[(1,.ptr 1 0),(2,.sl true 0 [] none),(3,.sl (aV ([]) (l.take i.1)).isEmpty (kL (aV ([]) (l.take i.1))) ((aV ([]) (l.take i.1)).map aa) none),(6,.i i.1)]) (fun _=>[(1,[.i 2,.x (.string op),.x (.string nm),.i vk,.i vn,.x (.string vs),.x (.string cs),.i cc,.i cr,.x (.string ts),.i tc,.i tr,.sl nl sz (l.map ar) none])]) (fun i=>l.length-i.1) ⟨0,A0b⟩ A0C A0e (fun⟨i,hi0⟩=>?_);by_cases hi:i<l.length
     . obtain⟨c,hc1,hc2⟩:=lW hi;obtain rfl:=kH hs hi;obtain⟨hcc,hcl2⟩:=hrec i c hc1;obtain⟨k',op',nm',vk',vn',vs',cs',cc',cr',ts',tc',tr',l',nl',sz',hh',hl',hf',hs'⟩:=cJ c;rw[hf'] at hc2 hcc;have c1:decide ((i:Int)<l.length)=true:=ac0 A0b;have c2:(0:Int)<=(i:Int):=A0b
       have c4:=ax (i:=i) A0b;have ht:=aF hc1;have e:aV ([]) (l.take (i+1))=(aD c).foldl aM (aV ([]) (l.take i)):=by rw[ht,fJ]
       have hal:=hrl i;generalize aV ([]) (l.take i)=acc at hal e;generalize aD c=q at hcl2 hcc e;simp +decide only[go_sem,eq,c1,c2,c4,hc2,hcc];refine aT (X:={j:Nat//j<=q.length}) (fun j=>[(1,.ptr 1 0),(2,.sl true 0 [] none),(3,.sl ((q.take j.1).foldl aM acc).isEmpty (kL ((q.take j.1).foldl aM acc)) (((q.take j.1).foldl aM acc).map aa) none),(6,.i i),(7,.sl (q).isEmpty (kL (q)) ((q).map aa) none),(8,.i j.1)]) (fun _=>[(1,[.i 2,.x (.string op),.x (.string nm),.i vk,.i vn,.x (.string vs),.x (.string cs),.i cc,.i cr,.x (.string ts),.i tc,.i tr,.sl nl 13 (l.map ar) none])]) (fun j=>q.length-j.1) ⟨0,A0b⟩ A0v A0e (fun⟨j,hj0⟩=>?_);by_cases hj:j<q.length
       . obtain⟨p,hp⟩:=uu hj;have d1:decide ((j:Int)<q.length)=true:=ac0 A0b;have d2:(0:Int)<=(j:Int):=A0b
         have d4:=ax (i:=j) A0b;have d5:=cY hp;have d6:=qf hp;have hfl:=eZ (q.take j) acc;have d7:=gN ((q.take j).foldl aM acc) p A1b;have d8:=gA hp acc;simp +decide only[go_sem,eq,d1,d2,d4,d5,d6,d7,bw];refine⟨⟨j+1,A0b⟩,?_,?_,?_⟩
         . exact Xs
         . exact Xu
         . simp only;omega
       . have d1:decide ((j:Int)<q.length)=false:=Io A0b;have d9:q.take j=q:=ady A0b;simp +decide only[go_sem,eq,d1,d9,c4];refine⟨⟨i+1,A0b⟩,?_,?_,?_⟩
         . exact Xr
         . exact Xu
         . simp only;omega
     . exact Xv
   . have eb:eG ⟨2,op,nm,vk,vn,vs,cs,cc,cr,ts,tc,tr⟩=aM [] (cs,cc,cr):=by simp[eG,hr]
     have q0:lx [.sl true 0 [] none,.agg [.x (.string cs),.i cc,.i cr]]=some (.sl (aM [] (cs,cc,cr)).isEmpty (kL (aM [] (cs,cc,cr))) ((aM [] (cs,cc,cr)).map aa) none):=gN [] (cs,cc,cr) A0k;rw[eb] at hrl⊢;generalize aM [] (cs,cc,cr)=base at hrl q0⊢;simp +decide only[go_sem,cB,hr,q0];refine aT (X:={i:Nat//i<=l.length}) (fun i=>[(1,.ptr 1 0),(2,.sl true 0 [] none),(3,.sl (aV (base) (l.take i.1)).isEmpty (kL (aV (base) (l.take i.1))) ((aV (base) (l.take i.1)).map aa) none),(6,.i i.1)]) (fun _=>[(1,[.i 2,.x (.string op),.x (.string nm),.i vk,.i vn,.x (.string vs),.x (.string cs),.i cc,.i cr,.x (.string ts),.i tc,.i tr,.sl nl sz (l.map ar) none])]) (fun i=>l.length-i.1) ⟨0,A0b⟩ A0C A0e (fun⟨i,hi0⟩=>?_);by_cases hi:i<l.length
     . obtain⟨c,hc1,hc2⟩:=lW hi;obtain rfl:=kH hs hi;obtain⟨hcc,hcl2⟩:=hrec i c hc1;obtain⟨k',op',nm',vk',vn',vs',cs',cc',cr',ts',tc',tr',l',nl',sz',hh',hl',hf',hs'⟩:=cJ c;rw[hf'] at hc2 hcc;have c1:decide ((i:Int)<l.length)=true:=ac0 A0b;have c2:(0:Int)<=(i:Int):=A0b
       have c4:=ax (i:=i) A0b;have ht:=aF hc1;have e:aV (base) (l.take (i+1))=(aD c).foldl aM (aV (base) (l.take i)):=by rw[ht,fJ]
       have hal:=hrl i;generalize aV (base) (l.take i)=acc at hal e;generalize aD c=q at hcl2 hcc e;simp +decide only[go_sem,eq,c1,c2,c4,hc2,hcc];refine aT (X:={j:Nat//j<=q.length}) (fun j=>[(1,.ptr 1 0),(2,.sl true 0 [] none),(3,.sl ((q.take j.1).foldl aM acc).isEmpty (kL ((q.take j.1).foldl aM acc)) (((q.take j.1).foldl aM acc).map aa) none),(6,.i i),(7,.sl (q).isEmpty (kL (q)) ((q).map aa) none),(8,.i j.1)]) (fun _=>[(1,[.i 2,.x (.string op),.x (.string nm),.i vk,.i vn,.x (.string vs),.x (.string cs),.i cc,.i cr,.x (.string ts),.i tc,.i tr,.sl nl 13 (l.map ar) none])]) (fun j=>q.length-j.1) ⟨0,A0b⟩ A0v A0e (fun⟨j,hj0⟩=>?_);by_cases hj:j<q.length
       . obtain⟨p,hp⟩:=uu hj;have d1:decide ((j:Int)<q.length)=true:=ac0 A0b;have d2:(0:Int)<=(j:Int):=A0b
         have d4:=ax (i:=j) A0b;have d5:=cY hp;have d6:=qf hp;have hfl:=eZ (q.take j) acc;have d7:=gN ((q.take j).foldl aM acc) p A1b;have d8:=gA hp acc;simp +decide only[go_sem,eq,d1,d2,d4,d5,d6,d7,bw];refine⟨⟨j+1,A0b⟩,?_,?_,?_⟩
         . exact Xs
         . exact Xu
         . simp only;omega
       . have d1:decide ((j:Int)<q.length)=false:=Io A0b;have d9:q.take j=q:=ady A0b;simp +decide only[go_sem,eq,d1,d9,c4];refine⟨⟨i+1,A0b⟩,?_,?_,?_⟩
         . exact Xr
         . exact Xu
         . simp only;omega
     . exact Xv
 . have k2 : decide (k=2)=false:=Io h2;by_cases h3:k=3
   . subst h3;have eb:eG ⟨3,op,nm,vk,vn,vs,cs,cc,cr,ts,tc,tr⟩=(gM ⟨3,op,nm,vk,vn,vs,cs,cc,cr,ts,tc,tr⟩).foldl aM []:=by simp[eG]
     have hrg:=sS ⟨3,op,nm,vk,vn,vs,cs,cc,cr,ts,tc,tr⟩;have hrg2:=eZ (gM ⟨3,op,nm,vk,vn,vs,cs,cc,cr,ts,tc,tr⟩) [];cases hA:dT cs cc cr ts tc tr with
     | none=>
       have er:gM ⟨3,op,nm,vk,vn,vs,cs,cc,cr,ts,tc,tr⟩=[]:=by unfold gM;rw[hA];rfl
       rw[er] at eb;have eb:eG ⟨3,op,nm,vk,vn,vs,cs,cc,cr,ts,tc,tr⟩=[]:=eb;have hC:dU [.agg [.x (.string cs),.i cc,.i cr,.x (.string ts),.i tc,.i tr]]=some (.sl true 0 [] none):=by unfold dU;simp only[hA]
       rw[eb] at hrl⊢;simp +decide only[go_sem,hC];refine aT (X:=Unit) (fun _=>[(1,.ptr 1 0),(2,.sl true 0 [] none),(3,.sl true 0 [] none),(4,.sl true 0 [] none),(5,.i 0)]) (fun _=>[(1,[.i 3,.x (.string op),.x (.string nm),.i vk,.i vn,.x (.string vs),.x (.string cs),.i cc,.i cr,.x (.string ts),.i tc,.i tr,.sl nl sz (l.map ar) none])]) (fun _=>0) () A0e A0e (fun _=>?_);simp +decide only[go_sem];refine aT (X:={i:Nat//i<=l.length}) (fun i=>[(1,.ptr 1 0),(2,.sl true 0 [] none),(3,.sl (aV ([]) (l.take i.1)).isEmpty (kL (aV ([]) (l.take i.1))) ((aV ([]) (l.take i.1)).map aa) none),(6,.i i.1)]) (fun _=>[(1,[.i 3,.x (.string op),.x (.string nm),.i vk,.i vn,.x (.string vs),.x (.string cs),.i cc,.i cr,.x (.string ts),.i tc,.i tr,.sl nl sz (l.map ar) none])]) (fun i=>l.length-i.1) ⟨0,A0b⟩ A0C A0e (fun⟨i,hi0⟩=>?_);by_cases hi:i<l.length
       . obtain⟨c,hc1,hc2⟩:=lW hi;obtain rfl:=kH hs hi;obtain⟨hcc,hcl2⟩:=hrec i c hc1;obtain⟨k',op',nm',vk',vn',vs',cs',cc',cr',ts',tc',tr',l',nl',sz',hh',hl',hf',hs'⟩:=cJ c;rw[hf'] at hc2 hcc;have c1:decide ((i:Int)<l.length)=true:=ac0 A0b;have c2:(0:Int)<=(i:Int):=A0b
         have c4:=ax (i:=i) A0b;have ht:=aF hc1;have e:aV ([]) (l.take (i+1))=(aD c).foldl aM (aV ([]) (l.take i)):=by rw[ht,fJ]
         have hal:=hrl i;generalize aV ([]) (l.take i)=acc at hal e;generalize aD c=q at hcl2 hcc e;simp +decide only[go_sem,eq,c1,c2,c4,hc2,hcc];refine aT (X:={j:Nat//j<=q.length}) (fun j=>[(1,.ptr 1 0),(2,.sl true 0 [] none),(3,.sl ((q.take j.1).foldl aM acc).isEmpty (kL ((q.take j.1).foldl aM acc)) (((q.take j.1).foldl aM acc).map aa) none),(6,.i i),(7,.sl (q).isEmpty (kL (q)) ((q).map aa) none),(8,.i j.1)]) (fun _=>[(1,[.i 3,.x (.string op),.x (.string nm),.i vk,.i vn,.x (.string vs),.x (.string cs),.i cc,.i cr,.x (.string ts),.i tc,.i tr,.sl nl 13 (l.map ar) none])]) (fun j=>q.length-j.1) ⟨0,A0b⟩ A0v A0e (fun⟨j,hj0⟩=>?_);by_cases hj:j<q.length
         . obtain⟨p,hp⟩:=uu hj;have d1:decide ((j:Int)<q.length)=true:=ac0 A0b;have d2:(0:Int)<=(j:Int):=A0b
           have d4:=ax (i:=j) A0b;have d5:=cY hp;have d6:=qf hp;have hfl:=eZ (q.take j) acc;have d7:=gN ((q.take j).foldl aM acc) p A1b;have d8:=gA hp acc;simp +decide only[go_sem,eq,d1,d2,d4,d5,d6,d7,bw];refine⟨⟨j+1,A0b⟩,?_,?_,?_⟩
           . exact Xs
           . exact Xu
           . simp only;omega
         . have d1:decide ((j:Int)<q.length)=false:=Io A0b;have d9:q.take j=q:=ady A0b;simp +decide only[go_sem,eq,d1,d9,c4];refine⟨⟨i+1,A0b⟩,?_,?_,?_⟩
           . exact Xr
           . exact Xu
           . simp only;omega
       . exact Xv
     | some q0=>
       have er:gM ⟨3,op,nm,vk,vn,vs,cs,cc,cr,ts,tc,tr⟩=q0:=by unfold gM;rw[hA];rfl
       rw[er] at eb hrg hrg2;have hC:dU [.agg [.x (.string cs),.i cc,.i cr,.x (.string ts),.i tc,.i tr]]=some (.l 3 (q0.map aa)):=by unfold dU;simp only[hA]
       rw[eb] at hrl⊢;simp +decide only[go_sem,hC];refine aT (X:={j:Nat//j<=q0.length}) (fun j=>[(1,.ptr 1 0),(2,.sl true 0 [] none),(3,.sl ((q0.take j.1).foldl aM []).isEmpty (kL ((q0.take j.1).foldl aM [])) (((q0.take j.1).foldl aM []).map aa) none),(4,.l 3 (q0.map aa)),(5,.i j.1)]) (fun _=>[(1,[.i 3,.x (.string op),.x (.string nm),.i vk,.i vn,.x (.string vs),.x (.string cs),.i cc,.i cr,.x (.string ts),.i tc,.i tr,.sl nl sz (l.map ar) none])]) (fun j=>q0.length-j.1) ⟨0,A0b⟩ A0v A0e (fun⟨j,hj0⟩=>?_);by_cases hj:j<q0.length
       . obtain⟨p,hp⟩:=uu hj;have d1:decide ((j:Int)<q0.length)=true:=ac0 A0b;have d2:(0:Int)<=(j:Int):=A0b
         have d4:=ax (i:=j) A0b;have d5:=cY hp;have hfl:=eZ (q0.take j) [];have d7:=gN ((q0.take j).foldl aM []) p (by rw[adz] at hfl;simp only[adT] at hfl;omega);have d8:=gA hp [];simp +decide only[go_sem,eq,d1,d2,d4,d5,d7,bw];refine⟨⟨j+1,A0b⟩,?_,?_,?_⟩
         . simp +decide only[go_sem,d8]
         . exact Xu
         . simp only;omega
       . have d1:decide ((j:Int)<q0.length)=false:=Io A0b;have d9:q0.take j=q0:=ady A0b;simp +decide only[go_sem,eq,d1,d9];generalize q0.foldl aM []=base at hrl hrg2⊢;refine aT (X:={i:Nat//i<=l.length}) (fun i=>[(1,.ptr 1 0),(2,.sl true 0 [] none),(3,.sl (aV (base) (l.take i.1)).isEmpty (kL (aV (base) (l.take i.1))) ((aV (base) (l.take i.1)).map aa) none),(6,.i i.1)]) (fun _=>[(1,[.i 3,.x (.string op),.x (.string nm),.i vk,.i vn,.x (.string vs),.x (.string cs),.i cc,.i cr,.x (.string ts),.i tc,.i tr,.sl nl sz (l.map ar) none])]) (fun i=>l.length-i.1) ⟨0,A0b⟩ A0C A0e (fun⟨i,hi0⟩=>?_);by_cases hi:i<l.length
         . obtain⟨c,hc1,hc2⟩:=lW hi;obtain rfl:=kH hs hi;obtain⟨hcc,hcl2⟩:=hrec i c hc1;obtain⟨k',op',nm',vk',vn',vs',cs',cc',cr',ts',tc',tr',l',nl',sz',hh',hl',hf',hs'⟩:=cJ c;rw[hf'] at hc2 hcc;have c1:decide ((i:Int)<l.length)=true:=ac0 A0b;have c2:(0:Int)<=(i:Int):=A0b
           have c4:=ax (i:=i) A0b;have ht:=aF hc1;have e:aV (base) (l.take (i+1))=(aD c).foldl aM (aV (base) (l.take i)):=by rw[ht,fJ]
           have hal:=hrl i;generalize aV (base) (l.take i)=acc at hal e;generalize aD c=q at hcl2 hcc e;simp +decide only[go_sem,eq,c1,c2,c4,hc2,hcc];refine aT (X:={j:Nat//j<=q.length}) (fun j=>[(1,.ptr 1 0),(2,.sl true 0 [] none),(3,.sl ((q.take j.1).foldl aM acc).isEmpty (kL ((q.take j.1).foldl aM acc)) (((q.take j.1).foldl aM acc).map aa) none),(6,.i i),(7,.sl (q).isEmpty (kL (q)) ((q).map aa) none),(8,.i j.1)]) (fun _=>[(1,[.i 3,.x (.string op),.x (.string nm),.i vk,.i vn,.x (.string vs),.x (.string cs),.i cc,.i cr,.x (.string ts),.i tc,.i tr,.sl nl 13 (l.map ar) none])]) (fun j=>q.length-j.1) ⟨0,A0b⟩ A0v A0e (fun⟨j,hj0⟩=>?_);by_cases hj:j<q.length
           . obtain⟨p,hp⟩:=uu hj;have d1:decide ((j:Int)<q.length)=true:=ac0 A0b;have d2:(0:Int)<=(j:Int):=A0b
             have d4:=ax (i:=j) A0b;have d5:=cY hp;have d6:=qf hp;have hfl:=eZ (q.take j) acc;have d7:=gN ((q.take j).foldl aM acc) p A1b;have d8:=gA hp acc;simp +decide only[go_sem,eq,d1,d2,d4,d5,d6,d7,bw];refine⟨⟨j+1,A0b⟩,?_,?_,?_⟩
             . exact Xs
             . exact Xu
             . simp only;omega
           . have d1:decide ((j:Int)<q.length)=false:=Io A0b;have d9:q.take j=q:=ady A0b;simp +decide only[go_sem,eq,d1,d9,c4];refine⟨⟨i+1,A0b⟩,?_,?_,?_⟩
             . exact Xr
             . exact Xu
             . simp only;omega
         . exact Xv
   . have k3:decide (k=3)=false:=Io h3;have eb:eG ⟨k,op,nm,vk,vn,vs,cs,cc,cr,ts,tc,tr⟩=[]:=by simp[eG,h2,h3]
     rw[eb] at hrl⊢;simp +decide only[go_sem,k2,k3];refine aT (X:={i:Nat//i<=l.length}) (fun i=>[(1,.ptr 1 0),(2,.sl true 0 [] none),(3,.sl (aV ([]) (l.take i.1)).isEmpty (kL (aV ([]) (l.take i.1))) ((aV ([]) (l.take i.1)).map aa) none),(6,.i i.1)]) (fun _=>[(1,[.i k,.x (.string op),.x (.string nm),.i vk,.i vn,.x (.string vs),.x (.string cs),.i cc,.i cr,.x (.string ts),.i tc,.i tr,.sl nl sz (l.map ar) none])]) (fun i=>l.length-i.1) ⟨0,A0b⟩ A0C A0e (fun⟨i,hi0⟩=>?_);by_cases hi:i<l.length
     . obtain⟨c,hc1,hc2⟩:=lW hi;obtain rfl:=kH hs hi;obtain⟨hcc,hcl2⟩:=hrec i c hc1;obtain⟨k',op',nm',vk',vn',vs',cs',cc',cr',ts',tc',tr',l',nl',sz',hh',hl',hf',hs'⟩:=cJ c;rw[hf'] at hc2 hcc;have c1:decide ((i:Int)<l.length)=true:=ac0 A0b;have c2:(0:Int)<=(i:Int):=A0b
       have c4:=ax (i:=i) A0b;have ht:=aF hc1;have e:aV ([]) (l.take (i+1))=(aD c).foldl aM (aV ([]) (l.take i)):=by rw[ht,fJ]
       have hal:=hrl i;generalize aV ([]) (l.take i)=acc at hal e;generalize aD c=q at hcl2 hcc e;simp +decide only[go_sem,eq,c1,c2,c4,hc2,hcc];refine aT (X:={j:Nat//j<=q.length}) (fun j=>[(1,.ptr 1 0),(2,.sl true 0 [] none),(3,.sl ((q.take j.1).foldl aM acc).isEmpty (kL ((q.take j.1).foldl aM acc)) (((q.take j.1).foldl aM acc).map aa) none),(6,.i i),(7,.sl (q).isEmpty (kL (q)) ((q).map aa) none),(8,.i j.1)]) (fun _=>[(1,[.i k,.x (.string op),.x (.string nm),.i vk,.i vn,.x (.string vs),.x (.string cs),.i cc,.i cr,.x (.string ts),.i tc,.i tr,.sl nl 13 (l.map ar) none])]) (fun j=>q.length-j.1) ⟨0,A0b⟩ A0v A0e (fun⟨j,hj0⟩=>?_);by_cases hj:j<q.length
       . obtain⟨p,hp⟩:=uu hj;have d1:decide ((j:Int)<q.length)=true:=ac0 A0b;have d2:(0:Int)<=(j:Int):=A0b
         have d4:=ax (i:=j) A0b;have d5:=cY hp;have d6:=qf hp;have hfl:=eZ (q.take j) acc;have d7:=gN ((q.take j).foldl aM acc) p A1b;have d8:=gA hp acc;simp +decide only[go_sem,eq,d1,d2,d4,d5,d6,d7,bw];refine⟨⟨j+1,A0b⟩,?_,?_,?_⟩
         . exact Xs
         . exact Xu
         . simp only;omega
       . have d1:decide ((j:Int)<q.length)=false:=Io A0b;have d9:q.take j=q:=ady A0b;simp +decide only[go_sem,eq,d1,d9,c4];refine⟨⟨i+1,A0b⟩,?_,?_,?_⟩
         . exact Xr
         . exact Xu
         . simp only;omega
     . exact Xv

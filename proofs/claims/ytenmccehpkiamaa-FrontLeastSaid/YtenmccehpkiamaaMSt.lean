/- cmp.Compare and cmp.Or of ints. -/
import Derived.Test.YtenmccehpkiamaaMPO
import Derived.Lib.Small
namespace Go.Proofs.Ytenmccehpkiamaa
set_option linter.unusedSimpArgs false
set_option maxHeartbeats 2000000
set_option maxRecDepth 100000
open Go Go.RowKit
attribute [go_sem] Try.results20 Try.results23 Try.results30 Try.results31 Try.results51
def lL:List V->Option V
 |[.x (.int .i64 _)]=>some (.x (.bool false))
 |_=>none
theorem yp:gD 51 lL:=by
 refine bW (E:=bp []) (k:=1) (cZ _ trivial) (by kernel_rfl) Try.func51 rfl (fun a w=>Try.call51 a w) Try.ntmps51 (by kernel_rfl) (by decide) (by decide) ?_;intro us r hF hdat;unfold lL at hF;split at hF
 case h_2=>cases hF
 rename_i s;cases hF;refine⟨rfl,?_⟩;have d0:decide (s=s)=true:=LP rfl;simp +decide (maxDischargeDepth:=200) only[go_sem,d0]
def ta:List V->Option V
 |[.x (.int .i64 a),.x (.int .i64 b)]=>some (.x (.int .i64 (Lib.compareInt a b)))
 |_=>none
theorem yq:gD 31 ta:=by
 refine bW (E:=bp [(51,lL)]) (k:=2) (cZ _ ⟨yp,trivial⟩) (by kernel_rfl) Try.func31 rfl (fun a w=>Try.call31 a w) Try.ntmps31 (by kernel_rfl) (by decide) (by decide) ?_;intro us r hF hdat;unfold ta at hF;split at hF
 case h_2=>cases hF
 rename_i a b;cases hF;refine⟨rfl,?_⟩;by_cases h:a<b
 . have d0:=LP h;have e:Lib.compareInt a b= -1:=L0 h;simp +decide (maxDischargeDepth:=200) only[go_sem,lL,d0,e]
 . have d0:=LO h;by_cases h':b<a
   . have d1:=LP h';have e:Lib.compareInt a b=1:=by unfold Lib.compareInt;rw[L1 h];split<;>first|rfl|omega
     simp +decide (maxDischargeDepth:=200) only[go_sem,lL,d0,d1,e]
   . have d1:=LO h';have e:Lib.compareInt a b=0:=by unfold Lib.compareInt;rw[L1 h];split<;>first|rfl|omega
     simp +decide (maxDischargeDepth:=200) only[go_sem,lL,d0,d1,e]
def j9:List V->Option (List Int)
 |[]=>some []
 | .x (.int .i64 n)::l=>match j9 l with
   |some r=>some (n::r)
   |none=>none
 |_=>none
def tb (n:Int):V:= .x (.int .i64 n)
theorem lM:∀{es:List V} {l:List Int},j9 es=some l->es=l.map tb
 |[],l,h=>by cases h;rfl
 | e ::es,l,h=>by
   unfold j9 at h;split at h
   . cases ‹e::es=[]›
   . rename_i n l' he;cases he;split at h
     . rename_i r hr;cases h;rw[lM hr];rfl
     . cases h
   . cases h
def CO:List Int->Int
 |[]=>0
 |n::l=>if n=0 then CO l else n
theorem yr:∀{l:List Int} {i:Nat} {n:Int},(∀(j:Nat) (k:Int),j<i->l[j]?=some k->k=0)->l[i]?=some n-> ¬n=0->CO l=n
 |[],i,n,_,h,_=>by simp at h
 |a::l,0,n,_,h,hn=>by simp at h;subst h;simp[CO,hn]
 |a::l,i+1,n,h0,h,hn=>by have ha:a=0:=h0 0 a (by omega) rfl;simp only[CO,ha,MH];exact yr (i:=i) (fun j k hj hk=>h0 (j+1) k (by omega) (by simpa using hk)) (by simpa using h) hn
theorem oz:∀{l:List Int},(∀(j:Nat) (k:Int),l[j]?=some k->k=0)->CO l=0
 |[],_=>rfl
 |a::l,h=>by have ha:a=0:=h 0 a rfl;simp only[CO,ha,MH];exact oz (fun j k hk=>h (j+1) k (by simpa using hk))
def Gw:List V->Option V
 | [.sl _ 1 es none]=>match j9 es with
   |some l=>if l.length<=1000000 then some (.x (.int .i64 (CO l))) else none
   |none=>none
 |_=>none
theorem D9:gD 30 Gw:=by
 refine bW (E:=bp []) (k:=1) (cZ _ trivial) (by kernel_rfl) Try.func30 rfl (fun a w=>Try.call30 a w) Try.ntmps30 (by kernel_rfl) (by decide) (by decide) ?_;intro us r hF hdat;unfold Gw at hF;split at hF
 case h_2=>cases hF
 rename_i nl es;split at hF
 case h_2=>cases hF
 rename_i l hl;split at hF
 case isFalse=>cases hF
 rename_i hle;cases hF;refine⟨rfl,?_⟩;obtain rfl:=lM hl;clear hl;have hsz:(((l.map tb).length:Nat):Int)=(l.length:Int):=by rw[eq]
 simp +decide (maxDischargeDepth:=200) only[go_sem];refine ee (X:={i:Nat//i<=l.length∧∀(j:Nat) (k:Int),j<i->l[j]?=some k->k=0}) (fun i=>[(3,.x (.int .i64 0)),(6,.sl nl 1 (l.map tb) none),(7,.x (.int .i64 (l.length:Int))),(8,.x (.int .i64 i.1))]) (fun _=>[]) (fun i=>l.length-i.1) ⟨0,by omega,fun j k hj=>by omega⟩ (by simp +decide only[go_sem,hsz];rfl) trivial (fun⟨i,hi,hz⟩=>?_);by_cases hil:i<l.length
 . have hb:l[i]?=some l[i]:=Io hil;generalize l[i]=n at hb;have d0:decide ((i:Int)<(l.length:Int))=true:=LP (by omega);have c2:(0:Int)<=(i:Int):=by omega
   have c4:=be (i:=i) (by omega);have c5:(l.map tb)[((i:Int)).toNat]?=some (.x (.int .i64 n)):=by rw[io,LS,hb];rfl
   by_cases hn:n=0
   . have d1:=LP hn;simp +decide (maxDischargeDepth:=200) only[go_sem,d0,c2,c4,c5,d1];refine⟨⟨i+1,by omega,fun j k hj hk=>?_⟩,?_,trivial,by simp only;omega⟩
     . by_cases hji:j=i
       . subst hji;rw[hb] at hk;cases hk;exact hn
       . exact hz j k (by omega) hk
     . simp +decide only[go_sem]
   . have d1:=LO hn;have e:=yr hz hb hn;simp +decide (maxDischargeDepth:=200) only[go_sem,d0,c2,c4,c5,d1,e]
 . have d0:decide ((i:Int)<(l.length:Int))=false:=LO (by omega);have e:=oz (l:=l) (fun j k hk=>hz j k (by have:=(LN.1 hk).1;omega) hk);simp +decide (maxDischargeDepth:=200) only[go_sem,d0,e]
def da (a b c a' b' c':Int):Bool:=if a=a' then (if b=b' then decide (c<c') else decide (b<b')) else decide (a<a')
def ef (a b c a' b' c':Int):Bool:=decide (a<=a')&&(decide (b<=b')&&decide (c<=c'))
theorem yu (a b c a' b' c':Int):decide (CO [Lib.compareInt a a',Lib.compareInt b b',Lib.compareInt c c']<0)=da a b c a' b' c':=by
 have h:∀x y:Int,(Lib.compareInt x y= -1∧x<y)∨(Lib.compareInt x y=1∧y<x)∨(Lib.compareInt x y=0∧x=y):=fun x y=>by
  unfold Lib.compareInt;by_cases h1:x<y
  . exact .inl ⟨L0 h1,h1⟩
  . by_cases h2:x>y
    . exact .inr (.inl ⟨(L1 h1).trans (L0 h2),h2⟩)
    . exact .inr (.inr ⟨(L1 h1).trans (L1 h2),by omega⟩)
 unfold da;rcases h a a' with⟨e1,h1⟩|⟨e1,h1⟩|⟨e1,h1⟩
 . rw[e1,L1 (by omega),LP h1];rfl
 . rw[e1,L1 (by omega),show decide (a<a')=false from LO (by omega)];rfl
 . rw[e1,L0 h1];rcases h b b' with⟨e2,h2⟩|⟨e2,h2⟩|⟨e2,h2⟩
   . rw[e2,L1 (by omega),LP h2];rfl
   . rw[e2,L1 (by omega),show decide (b<b')=false from LO (by omega)];rfl
   . rw[e2,L0 h2];rcases h c c' with⟨e3,h3⟩|⟨e3,h3⟩|⟨e3,h3⟩
     . rw[e3,LP h3];rfl
     . rw[e3,show decide (c<c')=false from LO (by omega)];rfl
     . rw[e3,show decide (c<c')=false from LO (by omega)];rfl
def aw:List V->Option V
 |[.agg [.x (.int .i64 a),.x (.int .i64 b),.x (.int .i64 c)],.agg [.x (.int .i64 a'),.x (.int .i64 b'),.x (.int .i64 c')]]=>some (.x (.bool (da a b c a' b' c')))
 |_=>none
def aq:List V->Option V
 |[.agg [.x (.int .i64 a),.x (.int .i64 b),.x (.int .i64 c)],.agg [.x (.int .i64 a'),.x (.int .i64 b'),.x (.int .i64 c')]]=>some (.x (.bool (ef a b c a' b' c')))
 |_=>none
theorem uU:gD 23 aw:=by
 refine bW (E:=bp [(31,ta),(30,Gw)]) (k:=2) (cZ _ ⟨yq,D9,trivial⟩) (by kernel_rfl) Try.func23 rfl (fun a w=>Try.call23 a w) Try.ntmps23 (by kernel_rfl) (by decide) (by decide) ?_;intro us r hF hdat;unfold aw at hF;split at hF
 case h_2=>cases hF
 rename_i a b c a' b' c';cases hF;refine⟨rfl,?_⟩;have e:=yu a b c a' b' c';simp +decide (maxDischargeDepth:=200) only[go_sem,ta,Gw,j9,e]
theorem de:gD 20 aq:=by
 refine bW (E:=bp []) (k:=2) (cZ _ trivial) (by kernel_rfl) Try.func20 rfl (fun a w=>Try.call20 a w) Try.ntmps20 (by kernel_rfl) (by decide) (by decide) ?_;intro us r hF hdat;unfold aq at hF;split at hF
 case h_2=>cases hF
 rename_i a b c a' b' c';cases hF;refine⟨rfl,?_⟩;by_cases h0:a<=a'
 . have d0:=LP h0;by_cases h1:b<=b'
   . have d1:=LP h1;by_cases h2:c<=c'
     . have d2:=LP h2;simp +decide (maxDischargeDepth:=200) only[go_sem,ef,d0,d1,d2]
     . have d2:=LO h2;simp +decide (maxDischargeDepth:=200) only[go_sem,ef,d0,d1,d2]
   . have d1:=LO h1;simp +decide (maxDischargeDepth:=200) only[go_sem,ef,d0,d1]
 . have d0:=LO h0;simp +decide (maxDischargeDepth:=200) only[go_sem,ef,d0]
theorem uV (a b c:Int):da a b c a b c=false:=by simp[da]
variable {a b c a' b' c':Int}
theorem eI:da a b c a' b' c'=true↔a<a'∨(a=a'∧(b<b'∨(b=b'∧c<c'))):=by
 unfold da;by_cases h:a=a'
 . rw[L0 h];by_cases h2:b=b'
   . rw[L0 h2,Mi];omega
   . rw[L1 h2,Mi];omega
 . rw[L1 h,Mi];omega
theorem oA:da a b c a' b' c'=false↔ ¬(a<a'∨(a=a'∧(b<b'∨(b=b'∧c<c')))):=by rw[<-eI,Bool.not_eq_true]
theorem f5:ef a b c a' b' c'=true↔a<=a'∧b<=b'∧c<=c':=by simp[ef]
def Gx (a b c a' b' c':Int):Bool:=decide (a=a')&&(decide (b=b')&&decide (c=c'))
theorem BS:Gx a b c a' b' c'=true↔a=a'∧b=b'∧c=c':=by simp[Gx]
theorem ba (a b c a' b' c':Int):(decide (a=a')&&(decide (b=b')&&decide (c=c')))=Gx a b c a' b' c':=rfl
abbrev BR:=Bool×Nat×List Bool
def KF (q:BR):Prop:=q.2.2≠[]->q.2.1=1
noncomputable instance (q:BR):Decidable (KF q):=Classical.propDecidable _
end Go.Proofs.Ytenmccehpkiamaa

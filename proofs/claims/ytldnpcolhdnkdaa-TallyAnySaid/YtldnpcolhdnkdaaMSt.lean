/- cmp.Compare and cmp.Or of ints. -/
import Derived.Test.YtldnpcolhdnkdaaMPO
import Derived.Lib.Small
namespace Go.Proofs.Ytldnpcolhdnkdaa
set_option linter.unusedSimpArgs false
set_option maxHeartbeats 2000000
set_option maxRecDepth 100000
open Go Go.RowKit
attribute [go_sem] Try.results16 Try.results22 Try.results28 Try.results29 Try.results52
def nL:List V->Option V
 |[.x (.int .i64 _)]=>some (.x (.bool false))
 |_=>none
theorem Be:ij 52 nL:=by
 refine cn (E:=bf []) (k:=1) (di _ trivial) (by kernel_rfl) Try.func52 rfl (fun a w=>Try.call52 a w) Try.ntmps52 (by kernel_rfl) (by decide) (by decide) ?_;intro us r hF hdat;unfold nL at hF;split at hF
 case h_2=>cases hF
 rename_i s;cases hF;refine⟨rfl,?_⟩;have d0:decide (s=s)=true:=PD rfl;simp +decide (maxDischargeDepth:=200) only[go_sem,d0]
def vR:List V->Option V
 |[.x (.int .i64 a),.x (.int .i64 b)]=>some (.x (.int .i64 (Lib.compareInt a b)))
 |_=>none
theorem Bf:ij 29 vR:=by
 refine cn (E:=bf [(52,nL)]) (k:=2) (di _ ⟨Be,trivial⟩) (by kernel_rfl) Try.func29 rfl (fun a w=>Try.call29 a w) Try.ntmps29 (by kernel_rfl) (by decide) (by decide) ?_;intro us r hF hdat;unfold vR at hF;split at hF
 case h_2=>cases hF
 rename_i a b;cases hF;refine⟨rfl,?_⟩;by_cases h:a<b
 . have d0:=PD h;have e:Lib.compareInt a b= -1:=PO h;simp +decide (maxDischargeDepth:=200) only[go_sem,nL,d0,e]
 . have d0:=PC h;by_cases h':b<a
   . have d1:=PD h';have e:Lib.compareInt a b=1:=by unfold Lib.compareInt;rw[PS h];split<;>first|rfl|omega
     simp +decide (maxDischargeDepth:=200) only[go_sem,nL,d0,d1,e]
   . have d1:=PC h';have e:Lib.compareInt a b=0:=by unfold Lib.compareInt;rw[PS h];split<;>first|rfl|omega
     simp +decide (maxDischargeDepth:=200) only[go_sem,nL,d0,d1,e]
def lT:List V->Option (List Int)
 |[]=>some []
 | .x (.int .i64 n)::l=>match lT l with
   |some r=>some (n::r)
   |none=>none
 |_=>none
def vS (n:Int):V:= .x (.int .i64 n)
theorem nM:∀{es:List V} {l:List Int},lT es=some l->es=l.map vS
 |[],l,h=>by cases h;rfl
 | e ::es,l,h=>by
   unfold lT at h;split at h
   . cases ‹e::es=[]›
   . rename_i n l' he;cases he;split at h
     . rename_i r hr;cases h;rw[nM hr];rfl
     . cases h
   . cases h
def Gf:List Int->Int
 |[]=>0
 |n::l=>if n=0 then Gf l else n
theorem Bg:∀{l:List Int} {i:Nat} {n:Int},(∀(j:Nat) (k:Int),j<i->l[j]?=some k->k=0)->l[i]?=some n-> ¬n=0->Gf l=n
 |[],i,n,_,h,_=>by simp at h
 |a::l,0,n,_,h,hn=>by simp at h;subst h;simp[Gf,hn]
 |a::l,i+1,n,h0,h,hn=>by have ha:a=0:=h0 0 a (by omega) rfl;simp only[Gf,ha,Qt];exact Bg (i:=i) (fun j k hj hk=>h0 (j+1) k (by omega) (by simpa using hk)) (by simpa using h) hn
theorem qG:∀{l:List Int},(∀(j:Nat) (k:Int),l[j]?=some k->k=0)->Gf l=0
 |[],_=>rfl
 |a::l,h=>by have ha:a=0:=h 0 a rfl;simp only[Gf,ha,Qt];exact qG (fun j k hk=>h (j+1) k (by simpa using hk))
def KH:List V->Option V
 | [.sl _ 1 es none]=>match lT es with
   |some l=>if l.length<=1000000 then some (.x (.int .i64 (Gf l))) else none
   |none=>none
 |_=>none
theorem HF:ij 28 KH:=by
 refine cn (E:=bf []) (k:=1) (di _ trivial) (by kernel_rfl) Try.func28 rfl (fun a w=>Try.call28 a w) Try.ntmps28 (by kernel_rfl) (by decide) (by decide) ?_;intro us r hF hdat;unfold KH at hF;split at hF
 case h_2=>cases hF
 rename_i nl es;split at hF
 case h_2=>cases hF
 rename_i l hl;split at hF
 case isFalse=>cases hF
 rename_i hle;cases hF;refine⟨rfl,?_⟩;obtain rfl:=nM hl;clear hl;have hsz:(((l.map vS).length:Nat):Int)=(l.length:Int):=by rw[eq]
 simp +decide (maxDischargeDepth:=200) only[go_sem];refine cw (X:={i:Nat//i<=l.length∧∀(j:Nat) (k:Int),j<i->l[j]?=some k->k=0}) (fun i=>[(3,.x (.int .i64 0)),(6,.sl nl 1 (l.map vS) none),(7,.x (.int .i64 (l.length:Int))),(8,.x (.int .i64 i.1))]) (fun _=>[]) (fun i=>l.length-i.1) ⟨0,by omega,fun j k hj=>by omega⟩ (by simp +decide only[go_sem,hsz];rfl) trivial (fun⟨i,hi,hz⟩=>?_);by_cases hil:i<l.length
 . have hb:l[i]?=some l[i]:=Io hil;generalize l[i]=n at hb;have d0:decide ((i:Int)<(l.length:Int))=true:=PD (by omega);have c2:(0:Int)<=(i:Int):=by omega
   have c4:=bh (i:=i) (by omega);have c5:(l.map vS)[((i:Int)).toNat]?=some (.x (.int .i64 n)):=by rw[io,PF,hb];rfl
   by_cases hn:n=0
   . have d1:=PD hn;simp +decide (maxDischargeDepth:=200) only[go_sem,d0,c2,c4,c5,d1];refine⟨⟨i+1,by omega,fun j k hj hk=>?_⟩,?_,trivial,by simp only;omega⟩
     . by_cases hji:j=i
       . subst hji;rw[hb] at hk;cases hk;exact hn
       . exact hz j k (by omega) hk
     . simp +decide only[go_sem]
   . have d1:=PC hn;have e:=Bg hz hb hn;simp +decide (maxDischargeDepth:=200) only[go_sem,d0,c2,c4,c5,d1,e]
 . have d0:decide ((i:Int)<(l.length:Int))=false:=PC (by omega);have e:=qG (l:=l) (fun j k hk=>hz j k (by have:=(PE.1 hk).1;omega) hk);simp +decide (maxDischargeDepth:=200) only[go_sem,d0,e]
def dm (a b c a' b' c':Int):Bool:=if a=a' then (if b=b' then decide (c<c') else decide (b<b')) else decide (a<a')
def iz (a b c a' b' c':Int):Bool:=decide (a<=a')&&(decide (b<=b')&&decide (c<=c'))
theorem Bh (a b c a' b' c':Int):decide (Gf [Lib.compareInt a a',Lib.compareInt b b',Lib.compareInt c c']<0)=dm a b c a' b' c':=by
 have h:∀x y:Int,(Lib.compareInt x y= -1∧x<y)∨(Lib.compareInt x y=1∧y<x)∨(Lib.compareInt x y=0∧x=y):=fun x y=>by
  unfold Lib.compareInt;by_cases h1:x<y
  . exact .inl ⟨PO h1,h1⟩
  . by_cases h2:x>y
    . exact .inr (.inl ⟨(PS h1).trans (PO h2),h2⟩)
    . exact .inr (.inr ⟨(PS h1).trans (PS h2),by omega⟩)
 unfold dm;rcases h a a' with⟨e1,h1⟩|⟨e1,h1⟩|⟨e1,h1⟩
 . rw[e1,PS (by omega),PD h1];rfl
 . rw[e1,PS (by omega),show decide (a<a')=false from PC (by omega)];rfl
 . rw[e1,PO h1];rcases h b b' with⟨e2,h2⟩|⟨e2,h2⟩|⟨e2,h2⟩
   . rw[e2,PS (by omega),PD h2];rfl
   . rw[e2,PS (by omega),show decide (b<b')=false from PC (by omega)];rfl
   . rw[e2,PO h2];rcases h c c' with⟨e3,h3⟩|⟨e3,h3⟩|⟨e3,h3⟩
     . rw[e3,PD h3];rfl
     . rw[e3,show decide (c<c')=false from PC (by omega)];rfl
     . rw[e3,show decide (c<c')=false from PC (by omega)];rfl
def bm:List V->Option V
 |[.agg [.x (.int .i64 a),.x (.int .i64 b),.x (.int .i64 c)],.agg [.x (.int .i64 a'),.x (.int .i64 b'),.x (.int .i64 c')]]=>some (.x (.bool (dm a b c a' b' c')))
 |_=>none
def df:List V->Option V
 |[.agg [.x (.int .i64 a),.x (.int .i64 b),.x (.int .i64 c)],.agg [.x (.int .i64 a'),.x (.int .i64 b'),.x (.int .i64 c')]]=>some (.x (.bool (iz a b c a' b' c')))
 |_=>none
theorem nN:ij 16 bm:=by
 refine cn (E:=bf [(29,vR),(28,KH)]) (k:=2) (di _ ⟨Bf,HF,trivial⟩) (by kernel_rfl) Try.func16 rfl (fun a w=>Try.call16 a w) Try.ntmps16 (by kernel_rfl) (by decide) (by decide) ?_;intro us r hF hdat;unfold bm at hF;split at hF
 case h_2=>cases hF
 rename_i a b c a' b' c';cases hF;refine⟨rfl,?_⟩;have e:=Bh a b c a' b' c';simp +decide (maxDischargeDepth:=200) only[go_sem,vR,KH,lT,e]
theorem dH:ij 22 df:=by
 refine cn (E:=bf []) (k:=2) (di _ trivial) (by kernel_rfl) Try.func22 rfl (fun a w=>Try.call22 a w) Try.ntmps22 (by kernel_rfl) (by decide) (by decide) ?_;intro us r hF hdat;unfold df at hF;split at hF
 case h_2=>cases hF
 rename_i a b c a' b' c';cases hF;refine⟨rfl,?_⟩;by_cases h0:a<=a'
 . have d0:=PD h0;by_cases h1:b<=b'
   . have d1:=PD h1;by_cases h2:c<=c'
     . have d2:=PD h2;simp +decide (maxDischargeDepth:=200) only[go_sem,iz,d0,d1,d2]
     . have d2:=PC h2;simp +decide (maxDischargeDepth:=200) only[go_sem,iz,d0,d1,d2]
   . have d1:=PC h1;simp +decide (maxDischargeDepth:=200) only[go_sem,iz,d0,d1]
 . have d0:=PC h0;simp +decide (maxDischargeDepth:=200) only[go_sem,iz,d0]
theorem xT (a b c:Int):dm a b c a b c=false:=by simp[dm]
variable {a b c a' b' c':Int}
theorem fD:dm a b c a' b' c'=true↔a<a'∨(a=a'∧(b<b'∨(b=b'∧c<c'))):=by
 unfold dm;by_cases h:a=a'
 . rw[PO h];by_cases h2:b=b'
   . rw[PO h2,Qa];omega
   . rw[PS h2,Qa];omega
 . rw[PS h,Qa];omega
theorem qH:dm a b c a' b' c'=false↔ ¬(a<a'∨(a=a'∧(b<b'∨(b=b'∧c<c')))):=by rw[<-fD,Bool.not_eq_true]
theorem jS:iz a b c a' b' c'=true↔a<=a'∧b<=b'∧c<=c':=by simp[iz]
def KI (a b c a' b' c':Int):Bool:=decide (a=a')&&(decide (b=b')&&decide (c=c'))
theorem E3:KI a b c a' b' c'=true↔a=a'∧b=b'∧c=c':=by simp[KI]
theorem ca (a b c a' b' c':Int):(decide (a=a')&&(decide (b=b')&&decide (c=c')))=KI a b c a' b' c':=rfl
abbrev BR:=Bool×Nat×List Bool
def Ov (q:BR):Prop:=q.2.2≠[]->q.2.1=1
noncomputable instance (q:BR):Decidable (Ov q):=Classical.propDecidable _
end Go.Proofs.Ytldnpcolhdnkdaa

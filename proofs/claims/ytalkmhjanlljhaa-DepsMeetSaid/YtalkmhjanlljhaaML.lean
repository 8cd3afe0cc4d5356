/- strconv.Itoa, as a function of plain data. -/
import Derived.Test.YtalkmhjanlljhaaMPO
import Derived.Test.YtalkmhjanlljhaaShelf
import Derived.Test.YtalkmhjanlljhaaBase
import Derived.Lib.ItoaLen
import Derived.Deep.RegionHeld3
import Derived.Test.YtalkmhjanlljhaaMAd
import Derived.Lib.Small
namespace Go.Proofs.Ytalkmhjanlljhaa
set_option linter.unusedSimpArgs false
set_option maxHeartbeats 4000000
set_option maxRecDepth 100000
open Go Go.RowKit
attribute [go_sem] Try.results37 Try.results38 Try.results40 Try.results59 Try.results60 Try.results93
def Nw (s:ByteArray) (c r:Int) (s':ByteArray) (c' r':Int) (s0:ByteArray) (c0 r0:Int):Bool:=ju s c r s' c' r'&&(decide (s0=s)&&(decide (c<=c0)&&(decide (c0<=c')&&(decide (r<=r0)&&decide (r0<=r')))))
def gM (s:ByteArray) (c r:Int) (s':ByteArray) (c' r':Int):Bool:=if s=s' then (if r=r' then decide (c<c') else decide (r<r')) else Op.bytesLess s.toList s'.toList
def nI:List V->Option V
 |[.agg [.x (.string s),.x (.int .i64 c),.x (.int .i64 r)],.agg [.x (.string s'),.x (.int .i64 c'),.x (.int .i64 r')]]=>some (.x (.bool (gM s c r s' c' r')))
 |_=>none
def yY:List V->Option V
 |[.x (.string _)]=>some (.x (.bool false))
 |_=>none
theorem Fk:cm 93 yY:=by
 refine aE (E:=ar []) (k:=1) (aV _ trivial) (by kernel_rfl) Try.func93 rfl (fun a w=>Try.call93 a w) Try.ntmps93 (by kernel_rfl) (by decide) (by decide) ?_;intro us r hF hdat;unfold yY at hF;split at hF
 case h_2=>cases hF
 rename_i s;cases hF;refine⟨rfl,?_⟩;have d0:decide (s=s)=true:=Io rfl;simp +decide (maxDischargeDepth:=200) only[go_sem,d0]
def jX (a b:ByteArray):Int:=if Op.bytesLess a.toList b.toList=true then-1 else if a=b then 0 else 1
def wz:List V->Option V
 |[.x (.string a),.x (.string b)]=>some (.x (.int .i64 (jX a b)))
 |_=>none
theorem B8:cm 60 wz:=by
 refine aE (E:=ar [(93,yY)]) (k:=2) (aV _ ⟨Fk,trivial⟩) (by kernel_rfl) Try.func60 rfl (fun a w=>Try.call60 a w) Try.ntmps60 (by kernel_rfl) (by decide) (by decide) ?_;intro us r hF hdat;unfold wz at hF;split at hF
 case h_2=>cases hF
 rename_i a b;cases hF;refine⟨rfl,?_⟩;cases hl:Op.bytesLess a.toList b.toList
 . by_cases he:a=b
   . have e:jX a b=0:=by subst he;simp[jX,hl]
     have d0:=Io he;simp +decide (maxDischargeDepth:=200) only[go_sem,yY,hl,d0,e]
   . have e:jX a b=1:=by simp[jX,hl,he]
     have d0:=SP he;simp +decide (maxDischargeDepth:=200) only[go_sem,yY,hl,d0,e]
 . have e:jX a b= -1:=by simp[jX,hl]
   simp +decide (maxDischargeDepth:=200) only[go_sem,yY,hl,e]
def wA:List V->Option V
 |[.x (.int .i64 a),.x (.int .i64 b)]=>some (.x (.int .i64 (Lib.compareInt a b)))
 |_=>none
theorem B9:cm 61 wA:=by
 refine⟨fun a w=>Try.call61 a w,fun m w vs us r hF hd hr hj hg=>?_⟩;unfold wA at hF;split at hF
 case h_2=>cases hF
 rename_i a b;cases hF;obtain rfl:=ww (xs:=[.int .i64 a,.int .i64 b]) hr rfl;refine(Try.cmp_Compare_int a b w).mono ?_;rintro e w' ⟨rfl,rfl⟩;exact⟨_,m,rfl,.x _,Below.refl _ _,fun _ _=>rfl⟩
def lP:List V->Option (List Int)
 |[]=>some []
 | .x (.int .i64 n)::l=>match lP l with
   |some r=>some (n::r)
   |none=>none
 |_=>none
def wB (n:Int):V:= .x (.int .i64 n)
theorem nJ:∀{es:List V} {l:List Int},lP es=some l->es=l.map wB
 |[],l,h=>by cases h;rfl
 | e ::es,l,h=>by
   unfold lP at h;split at h
   . cases ‹e::es=[]›
   . rename_i n l' he;cases he;split at h
     . rename_i r hr;cases h;rw[nJ hr];rfl
     . cases h
   . cases h
def DB:List Int->Int
 |[]=>0
 |n::l=>if n=0 then DB l else n
theorem Ca:∀{l:List Int} {i:Nat} {n:Int},(∀(j:Nat) (k:Int),j<i->l[j]?=some k->k=0)->l[i]?=some n-> ¬n=0->DB l=n
 |[],i,n,_,h,_=>by simp at h
 |a::l,0,n,_,h,hn=>by simp at h;subst h;simp[DB,hn]
 |a::l,i+1,n,h0,h,hn=>by have ha:a=0:=h0 0 a (by omega) rfl;simp only[DB,ha,S7];exact Ca (i:=i) (fun j k hj hk=>h0 (j+1) k (by omega) (by simpa using hk)) (by simpa using h) hn
theorem qT:∀{l:List Int},(∀(j:Nat) (k:Int),l[j]?=some k->k=0)->DB l=0
 |[],_=>rfl
 |a::l,h=>by have ha:a=0:=h 0 a rfl;simp only[DB,ha,S7];exact qT (fun j k hk=>h (j+1) k (by simpa using hk))
def Nx:List V->Option V
 | [.sl _ 1 es none]=>match lP es with
   |some l=>if l.length<=1000000 then some (.x (.int .i64 (DB l))) else none
   |none=>none
 |_=>none
theorem HV:cm 59 Nx:=by
 refine aE (E:=ar []) (k:=1) (aV _ trivial) (by kernel_rfl) Try.func59 rfl (fun a w=>Try.call59 a w) Try.ntmps59 (by kernel_rfl) (by decide) (by decide) ?_;intro us r hF hdat;unfold Nx at hF;split at hF
 case h_2=>cases hF
 rename_i nl es;split at hF
 case h_2=>cases hF
 rename_i l hl;split at hF
 case isFalse=>cases hF
 rename_i hle;cases hF;refine⟨rfl,?_⟩;obtain rfl:=nJ hl;clear hl;have hsz:(((l.map wB).length:Nat):Int)=(l.length:Int):=by rw[io]
 simp +decide (maxDischargeDepth:=200) only[go_sem];refine bu (X:={i:Nat//i<=l.length∧∀(j:Nat) (k:Int),j<i->l[j]?=some k->k=0}) (fun i=>[(3,.x (.int .i64 0)),(6,.sl nl 1 (l.map wB) none),(7,.x (.int .i64 (l.length:Int))),(8,.x (.int .i64 i.1))]) (fun _=>[]) (fun i=>l.length-i.1) ⟨0,by omega,fun j k hj=>by omega⟩ (by simp +decide only[go_sem,hsz];rfl) trivial (fun⟨i,hi,hz⟩=>?_);by_cases hil:i<l.length
 . have hb:l[i]?=some l[i]:=eq hil;generalize l[i]=n at hb;have d0:decide ((i:Int)<(l.length:Int))=true:=Io (by omega);have c2:(0:Int)<=(i:Int):=by omega
   have c4:=bp (i:=i) (by omega);have c5:(l.map wB)[((i:Int)).toNat]?=some (.x (.int .i64 n)):=by rw[tl,SS,hb];rfl
   by_cases hn:n=0
   . have d1:=Io hn;simp +decide (maxDischargeDepth:=200) only[go_sem,d0,c2,c4,c5,d1];refine⟨⟨i+1,by omega,fun j k hj hk=>?_⟩,?_,trivial,by simp only;omega⟩
     . by_cases hji:j=i
       . subst hji;rw[hb] at hk;cases hk;exact hn
       . exact hz j k (by omega) hk
     . simp +decide only[go_sem]
   . have d1:=SP hn;have e:=Ca hz hb hn;simp +decide (maxDischargeDepth:=200) only[go_sem,d0,c2,c4,c5,d1,e]
 . have d0:decide ((i:Int)<(l.length:Int))=false:=SP (by omega);have e:=qT (l:=l) (fun j k hk=>hz j k (by have:=(iO.1 hk).1;omega) hk);simp +decide (maxDischargeDepth:=200) only[go_sem,d0,e]
theorem jw (a:ByteArray):Op.bytesLess a.toList a.toList=false:=by
 generalize a.toList=l
 induction l with
 |nil=>rfl
 |cons b l ih=>simp[Op.bytesLess,ih]
theorem Fl (s:ByteArray) (c r:Int) (s':ByteArray) (c' r':Int):decide (DB [jX s s',Lib.compareInt r r',Lib.compareInt c c']<0)=gM s c r s' c' r':=by
 unfold gM;by_cases hs:s=s'
 . subst hs;have e:jX s s=0:=by simp[jX,jw]
   rw[e,S4 rfl];simp only[DB,S7,Lib.compareInt];rw[Um];simp only[Tk];by_cases hr:r=r'
   . subst hr;simp only[Int.lt_irrefl,SZ,S7,Tk];split
     . split at* <;>(try split at*)<;>omega
     . split at* <;>(try split at*)<;>omega
   . rw[S8 hr];simp only[Tk];split<;>(try split)<;>(try split)<;>(try split)<;>omega
 . rw[S8 hs];have e:jX s s'≠0:=by unfold jX;split<;>(try split)<;>simp_all
   simp only[DB,S8 e];unfold jX;cases h:Op.bytesLess s.toList s'.toList
   . simp[hs]
   . simp
theorem qU:cm 37 nI:=by
 refine aE (E:=ar [(60,wz),(61,wA),(59,Nx)]) (k:=2) (aV _ ⟨B8,B9,HV,trivial⟩) (by kernel_rfl) Try.func37 rfl (fun a w=>Try.call37 a w) Try.ntmps37 (by kernel_rfl) (by decide) (by decide) ?_;intro us r hF hdat;unfold nI at hF;split at hF
 case h_2=>cases hF
 rename_i s c r s' c' r';cases hF;refine⟨rfl,?_⟩;have e:=Fl s c r s' c' r';simp +decide (maxDischargeDepth:=200) only[go_sem,wz,wA,Nx,lP,e]
def bz:List V->Option V
 |[.x (.string s)]=>if s.size<=281474976710656 then some (.x (.string s)) else none
 |_=>none
theorem uy:cm 62 bz:=by
 refine⟨fun a w=>Try.call62 a w,fun m w vs us r hF hd hr hj hg=>?_⟩;unfold bz at hF;split at hF
 case h_2=>cases hF
 rename_i s;split at hF
 . rename_i h;cases hF;obtain rfl:=ww (xs:=[.string s]) hr rfl;refine(Try.stringslite_Clone s w h).mono ?_;rintro e w' ⟨rfl,hb⟩;exact⟨_,m,rfl,.x _,hb,fun _ _=>rfl⟩
 . cases hF
theorem jY:cm 38 bz:=by
 refine aE (E:=ar [(62,bz)]) (k:=1) (aV _ ⟨uy,trivial⟩) (by kernel_rfl) Try.func38 rfl (fun a w=>Try.call38 a w) Try.ntmps38 (by kernel_rfl) (by decide) (by decide) ?_;intro us r hF hdat;unfold bz at hF;split at hF
 case h_2=>cases hF
 rename_i s;split at hF
 . rename_i h;cases hF;refine⟨rfl,?_⟩;simp +decide (maxDischargeDepth:=200) only[go_sem,bz,h]
 . cases hF
abbrev C3:=ByteArray×Int×Int
def aa (p:C3):V:= .agg [.x (.string p.1),.x (.int .i64 p.2.1),.x (.int .i64 p.2.2)]
def cellsOf:List V->Option (List C3)
 |[]=>some []
 | .agg [.x (.string s),.x (.int .i64 c),.x (.int .i64 r)]::l=>match cellsOf l with
   |some q=>some ((s,c,r)::q)
   |none=>none
 |_=>none
theorem lQ:∀{es:List V} {l:List C3},cellsOf es=some l->es=l.map aa
 |[],l,h=>by cases h;rfl
 | e ::es,l,h=>by
   unfold cellsOf at h;split at h
   . cases ‹e::es=[]›
   . rename_i s c r l' he;cases he;split at h
     . rename_i q hq;cases h;rw[lQ hq];rfl
     . cases h
   . cases h
theorem ku:∀l:List C3,cellsOf (l.map aa)=some l
 |[]=>rfl
 |(s,c,r)::l=>by show(match cellsOf (l.map aa) with|some q=>some ((s,c,r)::q)|none=>none)=_;rw[ku l]
def eA (p q:C3):Bool:=decide (p=q)
theorem RJ (s:ByteArray) (c r:Int) (s':ByteArray) (c' r':Int):(decide (s=s')&&(decide (c=c')&&decide (r=r')))=eA (s,c,r) (s',c',r'):=by unfold eA;rw[Um];simp[Prod.mk.injEq]
variable {l:List C3} {i:Nat}
theorem ge {p:C3} (h:l[i]?=some p):(l.map aa)[((i:Int)).toNat]?=some (aa p):=by rw[tl,SS,h];rfl
theorem dB (p:C3):aa p= .agg [.x (.string p.1),.x (.int .i64 p.2.1),.x (.int .i64 p.2.2)]:=rfl
theorem RK (h:i<l.length):∃p,l[i]?=some p:=⟨_,eq h⟩
def jx (s:ByteArray) (c r:Int) (k:Nat):List C3:=(List.range k).map fun(x:Nat)=>(s,c+(x:Int),r)
def cF (s:ByteArray) (c r:Int) (k:Nat):Nat->List C3
 |0=>[]
 |h+1=>cF s c r k h++jx s c (r+(h:Int)) k
theorem yZ (s:ByteArray) (c r:Int) (k:Nat):jx s c r (k+1)=jx s c r k++[(s,c+(k:Int),r)]:=by simp[jx,List.range_succ]
theorem qV (s:ByteArray) (c r:Int) (k:Nat):(jx s c r k).length=k:=by simp[jx]
theorem dm (s:ByteArray) (c r:Int) (k:Nat):∀h,(cF s c r k h).length=h*k
 |0=>by simp[cF]
 |h+1=>by simp[cF,dm s c r k h,qV,TJ]
variable {L:List C3}
theorem y3 (h:L.length<=1000000) (l:List (Nat×(List V->Option V))) (s:ByteArray) (c r:Int) (st:St) (d tok:Nat) (nl:Bool) (t':Option Nat):
 cO (ar l) st (some d) 32 (.sl false 3 (L.map aa) (some tok)) (.sl nl 3 [.agg [.x (.string s),.x (.int .i64 c),.x (.int .i64 r)]] t')=some ⟨ay (strip tok (strip d st.t)) d (.sl false 3 (L.map aa++[.agg [.x (.string s),.x (.int .i64 c),.x (.int .i64 r)]]) (some d)),st.b⟩:=by
 have e1:aY (ar l).P 32=some 3:=yd;have e2:bv (ar l).P 32=some 32:=ye;have e3:av (ar l).P 32=some _:=yf;unfold cO;simp only[e1,e2,e3];rw[S4 ⟨by decide,rfl,trivial,.inl trivial,rfl,by rw[io];simp only[SV,Tu];omega,by rw[io];simp only[SV,Tu];omega⟩];rfl
theorem uz (l:List (Nat×(List V->Option V))) (s:ByteArray) (c r:Int) (st:St) (d n:Nat) (tok:Option Nat) (nl:Bool) (t':Option Nat):
 cO (ar l) st (some d) 32 (.sl true n [] tok) (.sl nl 3 [.agg [.x (.string s),.x (.int .i64 c),.x (.int .i64 r)]] t')=some ⟨ay (jM tok (strip d st.t)) d (.sl false 3 [.agg [.x (.string s),.x (.int .i64 c),.x (.int .i64 r)]] (some d)),st.b⟩:=by
 have e1:aY (ar l).P 32=some 3:=yd;have e2:bv (ar l).P 32=some 32:=ye;have e3:av (ar l).P 32=some _:=yf;unfold cO;simp only[e1,e2,e3];rw[S4 ⟨by decide,rfl,.inl trivial,rfl,by simp only[SV,Tu];omega,by simp only[SV,Tu];omega⟩];cases tok<;>rfl
theorem nK (L:List C3) (s:ByteArray) (c r:Int):L.map aa++[.agg [.x (.string s),.x (.int .i64 c),.x (.int .i64 r)]]=(L++[(s,c,r)]).map aa:=by rw[TH];rfl
def dC (s:ByteArray) (c r:Int) (s':ByteArray) (c' r':Int):Option (List C3):=
 if ju s c r s' c' r'=true∧cI c r c' r'<=400 then some (cF s c r (c'-c+1).toNat (r'-r+1).toNat) else none
def eN:List V->Option V
 | [.agg [.x (.string s),.x (.int .i64 c),.x (.int .i64 r),.x (.string s'),.x (.int .i64 c'),.x (.int .i64 r')]]=>match dC s c r s' c' r' with
   |some l=>some (.sl false 3 (l.map aa) none)
   |none=>some (.sl true 0 [] none)
 |_=>none
def Cb (nil0:Bool) (tok:Nat) (L:List C3):V:=if nil0=true∧L=[] then .sl true 0 [] none else .sl false 3 (L.map aa) (some tok)
variable {nil0:Bool} {tok:Nat}
theorem uA (h: ¬(nil0=true∧L=[])):Cb nil0 tok L= .sl false 3 (L.map aa) (some tok):=S8 h
theorem Cc (L:List C3) (p:C3):Cb nil0 tok (L++[p])= .sl false 3 ((L++[p]).map aa) (some tok):=uA (by simp)
theorem y4 :cm 40 eN:=by
 refine aE (E:=ar [(65,fh),(38,bz)]) (k:=1) (aV _ ⟨qS,jY,trivial⟩) (by kernel_rfl) Try.func40 rfl (fun a w=>Try.call40 a w) Try.ntmps40 (by kernel_rfl) (by decide) (by decide) ?_;intro us r hF hdat;unfold eN at hF;split at hF
 case h_2=>cases hF
 rename_i s c r s' c' r';cases hok:ju s c r s' c' r'
 . have ha:=dA hok;have hc:dC s c r s' c' r'=none:=S8 (by rw[hok];simp);rw[hc] at hF;cases hF;refine⟨rfl,?_⟩;simp +decide (maxDischargeDepth:=200) only[go_sem,fh,ha]
 . have ha :=ig hok;by_cases h4:cI c r c' r'<=400
   . have hc:dC s c r s' c' r'=some (cF s c r (c'-c+1).toNat (r'-r+1).toNat):=S4 ⟨hok,h4⟩;rw[hc] at hF;obtain⟨hR,hR',rfl,hcc,hrr⟩:=jv.1 hok;obtain⟨hn,b1,b2,b3,b4⟩:=gd.1 hR;obtain⟨_,b1',b2',b3',b4'⟩:=gd.1 hR';have hin:=wy b1 b2' b3 b4' hcc hrr;have hsl:s.size<=281474976710656:=by have:=B7 hn;omega
     obtain⟨k,hk⟩:∃k,(c'-c+1).toNat=k:=⟨_,rfl⟩;obtain⟨h,hh⟩:∃h,(r'-r+1).toNat=h:=⟨_,rfl⟩;have hkh:h*k<=400:=by
      have e1:c'-c+1=(k:Int):=by omega
      have e2:r'-r+1=(h:Int):=by omega
      have:((h*k:Nat):Int)<=400:=by have h5:=h4;unfold cI at h5;rw[e1,e2] at h5;push_cast;rw[Int.mul_comm];exact h5
      omega
     rw[hk,hh] at hF;cases hF;refine⟨rfl,?_⟩;have d4:decide (400<cI c r c' r')=false:=SP (by omega);have m1:(0:Int)<=cI c r c' r':=by omega
     have m2:(32:Int)*cI c r c' r'<=281474976710656:=by omega
     have m2':((32:Nat):Int)*cI c r c' r'<=281474976710656:=by omega
     have m3:cI c r c' r'<=9223372036854775807:=by omega
     simp +decide (maxDischargeDepth:=200) only[go_sem,fh,ha,d4,bz,hsl,m1,m2,m2',m3];refine bu (X:={p:Nat×Nat//p.1<=h∧(p.2=25∨p.2=52)}) (fun p=>[(1,.ptr 1 0),(2,.sl true 0 [] none),(5,.x (.string s)),(6,Cb false p.1.2 (cF s c r k p.1.1)),(7,.x (.int .i64 (r+(p.1.1:Int))))]) (fun _=>[(1,[.x (.string s),.x (.int .i64 c),.x (.int .i64 r),.x (.string s),.x (.int .i64 c'),.x (.int .i64 r')])]) (fun p=>h-p.1.1) ⟨(0,25),by simp⟩ (by simp +decide only[go_sem,cF];simp[Cb]) (by simp +decide only[go_sem]) (fun⟨⟨y,tk⟩,hy,htk⟩=>?_);simp only at hy htk;by_cases hyh:y<h
     . have e0:decide (r+(y:Int)<=r')=true:=Io (by omega);have e9:aw .i64 (r+(y:Int)+1)=r+((y+1:Nat):Int):=by rw[ak (by unfold bX;omega)];omega
       simp +decide (maxDischargeDepth:=200) only[go_sem,e0];refine bu (X:={p:Nat×Nat//p.1<=k∧(p.2=25∨p.2=52)}) (fun p=>[(1,.ptr 1 0),(2,.sl true 0 [] none),(5,.x (.string s)),(6,Cb false p.1.2 (cF s c r k y++jx s c (r+(y:Int)) p.1.1)),(7,.x (.int .i64 (r+(y:Int)))),(8,.x (.int .i64 (c+(p.1.1:Int))))]) (fun _=>[(1,[.x (.string s),.x (.int .i64 c),.x (.int .i64 r),.x (.string s),.x (.int .i64 c'),.x (.int .i64 r')])]) (fun p=>k-p.1.1) ⟨(0,tk),by simpa using htk⟩ (by simp +decide only[go_sem];simp[jx]) (by simp +decide only[go_sem]) (fun⟨⟨x,tk⟩,hx,htk⟩=>?_);simp only at hx htk;by_cases hxk:x<k
       . have e1:decide (c+(x:Int)<=c')=true:=Io (by omega);have e3:aw .i64 (c+(x:Int)+1)=c+((x+1:Nat):Int):=by rw[ak (by unfold bX;omega)];omega
         have hlen:(cF s c r k y++jx s c (r+(y:Int)) x).length<=400:=by rw[SQ,dm,qV];have:(y+1)*k<=h*k:=TW _ (by omega);rw[TJ,UU] at this;omega
         have e6:(cF s c r k y++jx s c (r+(y:Int)) x)++[(s,c+(x:Int),r+(y:Int))]=cF s c r k y++jx s c (r+(y:Int)) (x+1):=by rw[yZ,UH]
         generalize hL:cF s c r k y++jx s c (r+(y:Int)) x=L at hlen e6;have g1:((L.map aa).length+1)*32<=140737488355328:=by rw[io];omega
         have g2:(L.map aa).length+1<=9223372036854775807:=by rw[io];omega
         by_cases hnil:false=true∧L=[]
         . obtain⟨hn0,rfl⟩:=hnil;cases hn0
         . have a0:=uA (tok:=tk) hnil;simp +decide (maxDischargeDepth:=200) only[go_sem,a0,e1,e3,y3 (L:=L) (by omega),uz,nK];refine⟨⟨(x+1,52),by simp;omega⟩,?_,?_,by simp only;omega⟩
           . simp +decide only[go_sem,<-e6,Cc,nK]
           . simp +decide only[go_sem]
       . have e1:decide (c+(x:Int)<=c')=false:=SP (by omega);have hxe:x=k:=by omega
         subst hxe;simp +decide (maxDischargeDepth:=200) only[go_sem,e1,e9];refine⟨⟨(y+1,tk),by simp only;omega,by simp only;exact htk⟩,?_,?_,by simp only;omega⟩
         . simp +decide only[go_sem,cF]
         . simp +decide only[go_sem]
     . have e0:decide (r+(y:Int)<=r')=false:=SP (by omega);have hye:y=h:=by omega
       subst hye;have hne: ¬(false=true∧cF s c r k y=[]):=by rintro⟨_,hh0⟩;have:=dm s c r k y;rw[hh0] at this;have hp:0<y*k:=Nat.mul_pos (by omega) (by omega);simp at this;omega
       have a0:=uA (tok:=tk) hne;simp +decide (maxDischargeDepth:=200) only[go_sem,e0,a0]
   . have hc:dC s c r s' c' r'=none:=S8 (fun hh=>h4 hh.2);rw[hc] at hF;cases hF;refine⟨rfl,?_⟩;have d4:decide (400<cI c r c' r')=true:=Io (by omega);simp +decide (maxDischargeDepth:=200) only[go_sem,fh,ha,d4]
end Go.Proofs.Ytalkmhjanlljhaa

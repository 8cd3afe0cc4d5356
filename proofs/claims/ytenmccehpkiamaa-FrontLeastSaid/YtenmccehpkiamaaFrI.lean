/- Chapter 16's law FrontLeast. -/
import Derived.Test.YtenmccehpkiamaaMFz
namespace Go.Proofs.Ytenmccehpkiamaa
set_option linter.unusedSimpArgs false
set_option maxHeartbeats 64000000
set_option maxRecDepth 100000
open Go Go.RowKit
attribute [go_sem] Try.results4
theorem tD {α:Type} {p q:α->Bool}:∀{l:List α},(∀a∈l,p a=true->q a=true)->∀{t:α},t∈l->q t=true->p t=false->(l.filter p).length<(l.filter q).length
 | a ::l,h,t,ht,hq,hp=>by
   have hle:∀l:List α,(∀a∈l,p a=true->q a=true)->(l.filter p).length<=(l.filter q).length:=by
    intro l
    induction l with
    |nil=>intro _;simp
    | cons b l ih=>
      intro h;have:=ih (fun a ha=>h a (L7 _ ha));have hb:=h b (L9 ..);cases e1:p b<;>cases e2:q b
      . simp[e1,e2];exact this
      . simp[e1,e2];omega
      . rw[hb e1] at e2;cases e2
      . simp[e1,e2];exact this
   rcases L8.1 ht with rfl|ht
   . have:=hle l (fun a ha=>h a (L7 _ ha));simp[hp,hq];omega
   . have:=tD (l:=l) (fun a ha=>h a (L7 _ ha)) ht hq hp;have hb:=h a (L9 ..);cases e1:p a<;>cases e2:q a
     . simp[e1,e2];exact this
     . simp[e1,e2];omega
     . rw[hb e1] at e2;cases e2
     . simp[e1,e2];exact this
variable {c:Cn} {S:List aJ}
theorem jp (hS:∀t,c t≠0->t∈S) {M:List aJ} (hM:LeastIs c M):∀(n:Nat) (t:aJ),(S.filter fun u=>decide (0<c u)&&al u t).length<=n->0<c t->∃u∈M,al u t=true:=by
 intro n
 induction n with
 | zero=>
   intro t hn ht;have:t∈S.filter fun u=>decide (0<c u)&&al u t:=ME.2 ⟨hS t (by omega),by simp[ht,eX]⟩
   rw[MD.1 (LV.1 hn)] at this;cases this
 | succ n ih=>
   intro t hn ht;by_cases hm:t∈M
   . exact⟨t,hm,eX t⟩
   . obtain⟨u,hu⟩:∃u,u≠t∧0<c u∧al u t=true:=by
      refine M9 fun h=>hm ((hM.2 t).2 ⟨ht,fun u h1 h2=>?_⟩)
      cases e:al u t with
      |false=>rfl
      |true=>exact absurd ⟨u,h1,h2,e⟩ h
     obtain⟨h1,h2,h3⟩:=hu;have hlt:=tD (l:=S) (p:=fun v=>decide (0<c v)&&al v u) (q:=fun v=>decide (0<c v)&&al v t) (fun v _ hv=>by
      simp only[LR,Mi] at hv⊢;exact⟨hv.1,ic hv.2 h3⟩) (hS t (by omega)) (by simp[ht,eX]) (by
      cases e:al t u with
      |false=>simp
      |true=>exact absurd (zy h3 e) h1)
     obtain⟨v,hv,hv2⟩:=ih u (by omega) h2;exact⟨v,hv,ic hv2 h3⟩
theorem sw (hS:∀t,c t≠0->t∈S) {M:List aJ} (hM:LeastIs c M) (s:aJ):dW c s=M.all fun m=> !al m s:=by
 symm;refine ig ⟨fun h t ht=>?_,fun h=>LU.2 fun m hm=>by rw[h m ((hM.2 m).1 hm).1];rfl⟩;obtain⟨u,hu,hw⟩:=jp hS hM _ t (LM _) ht;have:=LU.1 h u hu;cases e:al t s with
 |false=>rfl
 |true=>rw[ic hw e] at this;cases this
def EL (gf i:Nat) (nl:Bool) (L:List Ch) (x:Ch):Nat->V
 |46=> .x (ai gf)
 |47=> .sl nl 4 (L.map bB) none
 |48=> .x (.int .i64 ((i:Nat):Int))
 |49=> .ip [.x (.int .i64 x.1.1),.x (.int .i64 x.1.2.1),.x (.int .i64 x.1.2.2),.x (.int .i64 x.2)]
 |50=> .ip [.x (.int .i64 x.1.1),.x (.int .i64 x.1.2.1),.x (.int .i64 x.1.2.2),.x (.int .i64 x.2)]
 |51=> .agg [.x (.int .i64 x.1.1),.x (.int .i64 x.1.2.1),.x (.int .i64 x.1.2.2)]
 |52=> .sl nl 4 (L.map bB) none
 |53=> .x (.int .i64 ((i:Nat):Int))
 |54=> .ip [.x (.int .i64 x.1.1),.x (.int .i64 x.1.2.1),.x (.int .i64 x.1.2.2),.x (.int .i64 x.2)]
 |55=> .ip [.x (.int .i64 x.2)]
 |56=> .x (.int .i64 x.2)
 |_=> .undef
def EM (gf i:Nat) (nm:Bool) (M:List aJ) (m m':aJ) (c:Cn):Nat->V
 |66=> .x (ai gf)
 |67=> .sl nm 3 (M.map ay) none
 |68=> .x (.int .i64 ((i:Nat):Int))
 |69=> .ip [.x (.int .i64 m.1),.x (.int .i64 m.2.1),.x (.int .i64 m.2.2)]
 |70=> .agg [.x (.int .i64 m.1),.x (.int .i64 m.2.1),.x (.int .i64 m.2.2)]
 |71=> .x (.int .i64 (c m))
 |72=> .x (.bool false)
 |73=> .x (.bool false)
 |74=> .x (.int .i64 ((i:Nat):Int))
 |75=> .x (.bool true)
 |76=> .x (.bool true)
 |77=> .sl nm 3 (M.map ay) none
 |78=> .x (.int .i64 ((i:Nat):Int))
 |79=> .x (.int .i64 (((i-1):Nat):Int))
 |80=> .ip [.x (.int .i64 m'.1),.x (.int .i64 m'.2.1),.x (.int .i64 m'.2.2)]
 |81=> .agg [.x (.int .i64 m'.1),.x (.int .i64 m'.2.1),.x (.int .i64 m'.2.2)]
 |82=> .sl nm 3 (M.map ay) none
 |83=> .x (.int .i64 ((i:Nat):Int))
 |84=> .ip [.x (.int .i64 m.1),.x (.int .i64 m.2.1),.x (.int .i64 m.2.2)]
 |85=> .agg [.x (.int .i64 m.1),.x (.int .i64 m.2.1),.x (.int .i64 m.2.2)]
 |86=> .x (.bool true)
 |87=> .x (.bool false)
 |88=> .x (.bool false)
 |89=> .x (.bool false)
 |_=> .undef
def EN (gf i:Nat) (nm:Bool) (M:List aJ) (m _m':aJ) (c:Cn):Nat->V
 |66=> .x (ai gf)
 |67=> .sl nm 3 (M.map ay) none
 |68=> .x (.int .i64 ((i:Nat):Int))
 |69=> .ip [.x (.int .i64 m.1),.x (.int .i64 m.2.1),.x (.int .i64 m.2.2)]
 |70=> .agg [.x (.int .i64 m.1),.x (.int .i64 m.2.1),.x (.int .i64 m.2.2)]
 |71=> .x (.int .i64 (c m))
 |72=> .x (.bool false)
 |73=> .x (.bool false)
 |74=> .x (.int .i64 ((i:Nat):Int))
 |75=> .x (.bool false)
 |76=> .x (.bool false)
 |77=> .x (.tuple #[])
 |78=> .x (.tuple #[])
 |79=> .x (.tuple #[])
 |80=> .x (.tuple #[])
 |81=> .x (.tuple #[])
 |82=> .x (.tuple #[])
 |83=> .x (.tuple #[])
 |84=> .x (.tuple #[])
 |85=> .x (.tuple #[])
 |86=> .x (.tuple #[])
 |87=> .x (.tuple #[])
 |88=> .x (.bool false)
 |89=> .x (.bool false)
 |_=> .undef
theorem we:cE (bO [(5,cM),(15,aw),(16,aq)] [] [] (fun _=>false) (fun _=>false)) 4 KX:=by
 refine cP (F:={F:=vD aO,D:=fun d=>d==25,any:=fun i=>i==10||i==16}) (n:=160) (k:=2) (aZ [(5,cM),(15,aw),(16,aq)] [] [] _ _ ⟨jo,di,dl,trivial⟩ trivial trivial) (by kernel_rfl) (fK (l:=aO) ⟨gP,kN,fT,gN,gJ,kG,fN,gH,trivial⟩) (fun t s C e=>by cases e) Try.func4 rfl (fun a w=>Try.call4 a w) Try.ntmps4 (by decide) (by decide) (by kernel_rfl) ?_;rintro us H T ⟨⟨⟨nl,z,L⟩,s⟩,rfl,hz,hT⟩ hdat;clear hdat;refine⟨rfl,?_⟩;simp only[su,ay];have hz:L≠[]->z=4:=hz;by_cases h40:(40:Int)<(L.length:Int)
 case pos=>have d0:=LP h40;simp +decide (maxDischargeDepth:=200) only[go_sem,Nat.reduceBEq,aO,cM,eq,d0];exact hT _
 have d0:=LO h40;simp +decide (maxDischargeDepth:=200) only[go_sem,Nat.reduceBEq,aO,cM,eq,d0];intro gf hgf;simp +decide (maxDischargeDepth:=200) only[go_sem,Nat.reduceBEq,aO];refine bz (X:={i:Nat//i<=L.length}) (fun i=>[(0,.sl nl z (L.map bB) none),(3,.ptr 3 0),(6,.x (ai gf)),(7,.x (.int .i64 ((i.1:Nat):Int)))]) (fun _=>[(3,[.x (.int .i64 s.1),.x (.int .i64 s.2.1),.x (.int .i64 s.2.2)])]) (fun i Hx=>∃c F,DFr Hx gf c i.1 F∧smC c i.1∧∀t,c t≠0->∃x∈L.take i.1,x.1=t) (fun i=>L.length-i.1) ⟨0,LQ _⟩ (by simp +decide only[go_sem,Nat.reduceBEq,Mc]<;>(repeat' first|rfl|constructor)) (by simp +decide only[go_sem,Nat.reduceBEq,Mc]<;>(repeat' first|rfl|constructor)) ⟨fun _=>0,[gf],DFr.ok.zero (aa _ _ _),ii,fun t h=>absurd rfl h⟩ ?_;clear hgf H;rintro⟨i,hi⟩ H ⟨c,F,hD,hsm,hsup⟩;simp only at hi hD hsm hsup⊢;by_cases hil:i<L.length
 case pos=>
  obtain rfl:z=4:=hz (fun e=>by rw[e] at hil;cases hil);have d1:decide ((i:Int)<(L.length:Int))=true:=LP (by omega);have p0:(0:Int)<=(i:Int):=by omega
  have p1:(i:Int)<(L.length:Int):=by omega
  have cu:=be (i:=i) (by omega);obtain⟨x,hx⟩:∃x,L[i]?=some x:=⟨_,Io hil⟩;have q1:(L.map bB)[((i:Int)).toNat]?=some (.agg [.x (.int .i64 x.1.1),.x (.int .i64 x.1.2.1),.x (.int .i64 x.1.2.2),.x (.int .i64 x.2)]):=by rw[io,LS,hx];rfl
  by_cases hb1:1099511627776<x.2
  case pos=>have e1:=LP hb1;simp +decide (maxDischargeDepth:=200) only[go_sem,Nat.reduceBEq,aO,eq,d1,p0,p1,q1,e1];exact hT _
  have e1:=LO hb1;by_cases hb2:x.2< -1099511627776
  case pos=>have e2:=LP hb2;simp +decide (maxDischargeDepth:=200) only[go_sem,Nat.reduceBEq,aO,eq,d1,p0,p1,q1,e1,e2];exact hT _
  have e2:=LO hb2;simp +decide (maxDischargeDepth:=200) only[go_sem,Nat.reduceBEq,aO,eq,d1,p0,p1,q1,e1,e2];refine aG (fun k=>match k with|3=>[47,48]|4=>[49]|5=>[50]|8=>[52,53]|9=>[54]|10=>[55]|11=>[46,51,56]|_=>[]) [11] (fun k=>match k with|0=>0|1=>0|2=>0|3=>0|4=>0|5=>0|6=>0|7=>0|8=>0|9=>0|10=>0|_=>1) (fun j Hx _=>match j with|0=>H=Hx|_=>∃F',DFr Hx gf (dV c x.1 x.2) (i+1) F') (EL gf i nl L x) (by kernel_rfl) (by kernel_rfl) (by kernel_rfl) rfl ?_ ?_ ?_
  . rintro j i' o Hx val st ho hW hj hJ hv hn hb hbb K' hk;have b0:st.t 0= .sl nl 4 (L.map bB) none:=hb 0 (by kernel_rfl);have b3:st.t 3= .ptr 3 0:=hb 3 (by kernel_rfl);have b6:st.t 6= .x (ai gf):=hb 6 (by kernel_rfl);have b7:st.t 7= .x (.int .i64 ((i:Nat):Int)):=hb 7 (by kernel_rfl);have bb3:st.b 3=some ([.x (.int .i64 s.1),.x (.int .i64 s.2.1),.x (.int .i64 s.2.2)]):=(Mv hbb 3).trans (by kernel_rfl);clear hb hbb;rcases i' with _|_|_|_|_|_|_|_|_|_|_|_|i'
    . cases ho;have hJ:H=Hx:=by have h0:j=0:=LV.1 (tl hj (by decide));subst h0;exact hJ
      subst hJ;simp +decide (maxDischargeDepth:=200) only[go_sem,Nat.reduceBEq,b6,aO,eq,p0,p1,q1];exact hk _ (Le.refl _)
    . cases ho;have hJ:H=Hx:=by have h0:j=0:=LV.1 (tl hj (by decide));subst h0;exact hJ
      subst hJ;simp +decide (maxDischargeDepth:=200) only[go_sem,Nat.reduceBEq,b0,aO,eq,p0,p1,q1];exact hk _ (Le.refl _)
    . cases ho;have hJ:H=Hx:=by have h0:j=0:=LV.1 (tl hj (by decide));subst h0;exact hJ
      subst hJ;simp +decide (maxDischargeDepth:=200) only[go_sem,Nat.reduceBEq,b7,aO,eq,p0,p1,q1];exact hk _ (Le.refl _)
    . cases ho;have h47:st.t 47= .sl nl 4 (L.map bB) none:=(hn 47 (by decide)).trans (hv 47 (by kernel_rfl));have h48:st.t 48= .x (.int .i64 ((i:Nat):Int)):=(hn 48 (by decide)).trans (hv 48 (by kernel_rfl));have hJ:H=Hx:=by have h0:j=0:=LV.1 (tl hj (by decide));subst h0;exact hJ
      subst hJ;simp +decide (maxDischargeDepth:=200) only[go_sem,Nat.reduceBEq,h47,h48,aO,eq,p0,p1,q1];exact hk _ (Le.refl _)
    . cases ho;have h49:st.t 49= .ip [.x (.int .i64 x.1.1),.x (.int .i64 x.1.2.1),.x (.int .i64 x.1.2.2),.x (.int .i64 x.2)]:=(hn 49 (by decide)).trans (hv 49 (by kernel_rfl));have hJ:H=Hx:=by have h0:j=0:=LV.1 (tl hj (by decide));subst h0;exact hJ
      subst hJ;simp +decide (maxDischargeDepth:=200) only[go_sem,Nat.reduceBEq,h49,aO,eq,p0,p1,q1];exact hk _ (Le.refl _)
    . cases ho;have h50:st.t 50= .ip [.x (.int .i64 x.1.1),.x (.int .i64 x.1.2.1),.x (.int .i64 x.1.2.2),.x (.int .i64 x.2)]:=(hn 50 (by decide)).trans (hv 50 (by kernel_rfl));have hJ:H=Hx:=by have h0:j=0:=LV.1 (tl hj (by decide));subst h0;exact hJ
      subst hJ;simp +decide (maxDischargeDepth:=200) only[go_sem,Nat.reduceBEq,h50,aO,eq,p0,p1,q1];exact hk _ (Le.refl _)
    . cases ho;have hJ:H=Hx:=by have h0:j=0:=LV.1 (tl hj (by decide));subst h0;exact hJ
      subst hJ;simp +decide (maxDischargeDepth:=200) only[go_sem,Nat.reduceBEq,b0,aO,eq,p0,p1,q1];exact hk _ (Le.refl _)
    . cases ho;have hJ:H=Hx:=by have h0:j=0:=LV.1 (tl hj (by decide));subst h0;exact hJ
      subst hJ;simp +decide (maxDischargeDepth:=200) only[go_sem,Nat.reduceBEq,b7,aO,eq,p0,p1,q1];exact hk _ (Le.refl _)
    . cases ho;have h52:st.t 52= .sl nl 4 (L.map bB) none:=(hn 52 (by decide)).trans (hv 52 (by kernel_rfl));have h53:st.t 53= .x (.int .i64 ((i:Nat):Int)):=(hn 53 (by decide)).trans (hv 53 (by kernel_rfl));have hJ:H=Hx:=by have h0:j=0:=LV.1 (tl hj (by decide));subst h0;exact hJ
      subst hJ;simp +decide (maxDischargeDepth:=200) only[go_sem,Nat.reduceBEq,h52,h53,aO,eq,p0,p1,q1];exact hk _ (Le.refl _)
    . cases ho;have h54:st.t 54= .ip [.x (.int .i64 x.1.1),.x (.int .i64 x.1.2.1),.x (.int .i64 x.1.2.2),.x (.int .i64 x.2)]:=(hn 54 (by decide)).trans (hv 54 (by kernel_rfl));have hJ:H=Hx:=by have h0:j=0:=LV.1 (tl hj (by decide));subst h0;exact hJ
      subst hJ;simp +decide (maxDischargeDepth:=200) only[go_sem,Nat.reduceBEq,h54,aO,eq,p0,p1,q1];exact hk _ (Le.refl _)
    . cases ho;have h55:st.t 55= .ip [.x (.int .i64 x.2)]:=(hn 55 (by decide)).trans (hv 55 (by kernel_rfl));have hJ:H=Hx:=by have h0:j=0:=LV.1 (tl hj (by decide));subst h0;exact hJ
      subst hJ;simp +decide (maxDischargeDepth:=200) only[go_sem,Nat.reduceBEq,h55,aO,eq,p0,p1,q1];exact hk _ (Le.refl _)
    . cases hW
    . cases ho
  . rintro j i' o Hx val st hj ho hJ hv hn hb hbb K' hk;have b0:st.t 0= .sl nl 4 (L.map bB) none:=hb 0 (by kernel_rfl);have b3:st.t 3= .ptr 3 0:=hb 3 (by kernel_rfl);have b6:st.t 6= .x (ai gf):=hb 6 (by kernel_rfl);have b7:st.t 7= .x (.int .i64 ((i:Nat):Int)):=hb 7 (by kernel_rfl);have bb3:st.b 3=some ([.x (.int .i64 s.1),.x (.int .i64 s.2.1),.x (.int .i64 s.2.2)]):=(Mv hbb 3).trans (by kernel_rfl);clear hb hbb;rcases j with _|j
    . cases hj;cases ho;have h46:st.t 46= .x (ai gf):=(hn 46 (by decide)).trans (hv 46 (by kernel_rfl));have h51:st.t 51= .agg [.x (.int .i64 x.1.1),.x (.int .i64 x.1.2.1),.x (.int .i64 x.1.2.2)]:=(hn 51 (by decide)).trans (hv 51 (by kernel_rfl));have h56:st.t 56= .x (.int .i64 x.2):=(hn 56 (by decide)).trans (hv 56 (by kernel_rfl));have hJ:H=Hx:=hJ;subst hJ;simp +decide (maxDischargeDepth:=200) only[go_sem,Nat.reduceBEq,h46,h51,h56,aO];refine⟨gf,x.1,x.2,c,i,F,rfl,hD,by omega,hsm.big (by omega),⟨by omega,by omega⟩,fun H' F' h1 h2 h3=>hk H' (.tup []) _ ⟨F',h1⟩ (by rw[eu];exact Le.refl _)⟩
    . cases hj
  . rintro Hx val hJ hv;refine⟨[(0,.sl nl 4 (L.map bB) none),(3,.ptr 3 0),(6,.x (ai gf)),(7,.x (.int .i64 ((i:Nat):Int)))],[(3,[.x (.int .i64 s.1),.x (.int .i64 s.2.1),.x (.int .i64 s.2.2)])],?_,?_,?_⟩
    . simp +decide only[go_sem,Nat.reduceBEq]<;>(repeat' first|exact aK (by kernel_rfl)|exact(aL (by kernel_rfl)).trans (hv _ (by kernel_rfl))|rfl|constructor)
    . simp +decide only[go_sem,Nat.reduceBEq]<;>(repeat' first|rfl|constructor)
    obtain⟨F1,hD1⟩:∃F',DFr Hx gf (dV c x.1 x.2) (i+1) F':=hJ;simp +decide (maxDischargeDepth:=200) only[go_sem,Nat.reduceBEq,aO,cu];exact⟨⟨i+1,hil⟩,⟨by simp +decide (maxDischargeDepth:=200) only[go_sem,Nat.reduceBEq],by simp +decide (maxDischargeDepth:=200) only[go_sem,Nat.reduceBEq],dV c x.1 x.2,F1,hD1,m3 hsm (by omega) (by omega),fun t ht=>by
     rw[bQ hx];by_cases e:t=x.1
     . exact⟨x,M3 _ (LX.2 rfl),e.symm⟩
     . unfold dV at ht;rw[L1 e] at ht;obtain⟨y,hy,e⟩:=hsup t ht;exact⟨y,Mn _ hy,e⟩⟩,by simp only;omega⟩
 have d1:decide ((i:Int)<(L.length:Int))=false:=LO (by omega);rw[Mk (by omega)] at hsup;have hsupS:∀t,c t≠0->t∈L.map (·.1):=fun t ht=>by obtain⟨x,hx,e⟩:=hsup t ht;exact Mw.2 ⟨x,hx,e⟩
 simp +decide (maxDischargeDepth:=200) only[go_sem,Nat.reduceBEq,aO,eq,d1];refine⟨gf,c,i,F,rfl,hD,by omega,fun M nm zm hM hnm hzm hlen=>?_⟩;simp +decide (maxDischargeDepth:=200) only[go_sem,Nat.reduceBEq,aO];have hpass:=sw hsupS hM s;have hMl:M.length<=100:=by omega
 refine bz (X:={i:Nat//i<=M.length}) (fun i=>[(0,.sl nl z (L.map bB) none),(3,.ptr 3 0),(6,.x (ai gf)),(8,.sl nm zm (M.map ay) none)]++[(9,.x (.bool ((M.take i.1).all fun m=> !al m s))),(10,.x (.int .i64 ((i.1:Nat):Int)))]) (fun _=>[(3,[.x (.int .i64 s.1),.x (.int .i64 s.2.1),.x (.int .i64 s.2.2)])]) (fun _ Hx=>H=Hx) (fun i=>M.length-i.1) ⟨0,LQ _⟩ (by simp +decide only[go_sem,Nat.reduceBEq,Mb,Ma,Nz,Om,Mc]<;>(repeat' first|rfl|constructor)) (by simp +decide only[go_sem,Nat.reduceBEq,Mc]<;>(repeat' first|rfl|constructor)) rfl ?_;rintro⟨i,hi⟩ H1 rfl;simp only[Mb,Ma] at hi⊢;by_cases hil:i<M.length
 case pos =>
  obtain rfl:zm=3:=hzm (fun e=>by rw[e] at hil;cases hil);obtain⟨m,hm⟩:∃m,M[i]?=some m:=⟨_,Io hil⟩;have hmM:=LW hm;have hmis:=(hM.2 m).1 hmM;have d2:decide ((i:Int)<(M.length:Int))=true:=LP (by omega);have p0:(0:Int)<=(i:Int):=by omega
  have p1:(i:Int)<(M.length:Int):=by omega
  have cu:=be (i:=i) (by omega);have q1:(M.map ay)[((i:Int)).toNat]?=some (.agg [.x (.int .i64 m.1),.x (.int .i64 m.2.1),.x (.int .i64 m.2.2)]):=by rw[io,LS,hm];rfl
  have e0:decide (c m<=0)=false:=LO (by omega);obtain⟨pz,hpz⟩:∃pz,pz=((M.take i).all fun m=> !al m s):=⟨_,rfl⟩;rw[<-hpz];have hnx:((M.take (i+1)).all fun m=> !al m s)=(pz&& !al m s):=by rw[bQ hm,Ok,hpz];simp
  simp +decide (maxDischargeDepth:=200) only[go_sem,Nat.reduceBEq,aO,eq,d2];by_cases hi0:0<i
  . have e1:decide (0<(i:Int))=true:=LP (by omega);obtain⟨m',hm'⟩:∃m',M[i-1]?=some m':=⟨_,Io (by omega)⟩;have w1:av .i64 ((i:Int)-1)=((i-1:Nat):Int):=by rw[am (by unfold bS;omega)];omega
    have r0:(0:Int)<=((i-1:Nat):Int):=by omega
    have r1:((i-1:Nat):Int)<(M.length:Int):=by omega
    have q3:(M.map ay)[(((i-1:Nat):Int)).toNat]?=some (.agg [.x (.int .i64 m'.1),.x (.int .i64 m'.2.1),.x (.int .i64 m'.2.2)]):=by rw[io,LS,hm'];rfl
    have hls:ac m' m=true:=by have:=Na.1 hM.1 (i-1) i (by omega) hil (by omega);rw[(LN.1 hm).2,(LN.1 hm').2] at this;exact this
    rw[ac] at hls;refine kr (fun k=>match k with|3=>[67,68]|4=>[69]|5=>[66,70]|6=>[71]|7=>[72]|8=>[73]|9=>[74,73]|10=>[75,73]|11=>[76]|12=>[76]|13=>[78,76]|14=>[77,79,76]|15=>[80,76]|16=>[76]|17=>[76]|18=>[82,83,76]|19=>[84,76]|20=>[81,85,76]|21=>[86,76]|22=>[76,87,73]|23=>[73,88]|_=>[]) (fun k v=>v=EM gf i nm M m m' c k) (by kernel_rfl) (by kernel_rfl) ?_ ?_
    . rintro i' o st ho hn hb hbb K' hk;have b0:st.t 0= .sl nl z (L.map bB) none:=hb 0 (by kernel_rfl);have b3:st.t 3= .ptr 3 0:=hb 3 (by kernel_rfl);have b6:st.t 6= .x (ai gf):=hb 6 (by kernel_rfl);have b8:st.t 8= .sl nm 3 (M.map ay) none:=hb 8 (by kernel_rfl);have b9:st.t 9= .x (.bool pz):=hb 9 (by kernel_rfl);have b10:st.t 10= .x (.int .i64 ((i:Nat):Int)):=hb 10 (by kernel_rfl);have bb3:st.b 3=some ([.x (.int .i64 s.1),.x (.int .i64 s.2.1),.x (.int .i64 s.2.2)]):=(Mv hbb 3).trans (by kernel_rfl);clear hb hbb;rcases i' with _|_|_|_|_|_|_|_|_|_|_|_|_|_|_|_|_|_|_|_|_|_|_|_|i'
      . cases ho;simp +decide (maxDischargeDepth:=200) only[go_sem,Nat.reduceBEq,b6,aO,eq,p0,p1,q1,e0,e1,w1,r0,r1,q3,aw,hls];exact hk _ _ (fun d hd=>by cases hd;exact rfl) (Le.refl _)
      . cases ho;simp +decide (maxDischargeDepth:=200) only[go_sem,Nat.reduceBEq,b8,aO,eq,p0,p1,q1,e0,e1,w1,r0,r1,q3,aw,hls];exact hk _ _ (fun d hd=>by cases hd;exact rfl) (Le.refl _)
      . cases ho;simp +decide (maxDischargeDepth:=200) only[go_sem,Nat.reduceBEq,b10,aO,eq,p0,p1,q1,e0,e1,w1,r0,r1,q3,aw,hls];exact hk _ _ (fun d hd=>by cases hd;exact rfl) (Le.refl _)
      . cases ho;have h67:st.t 67= .sl nm 3 (M.map ay) none:=hn 67 (by decide);have h68:st.t 68= .x (.int .i64 ((i:Nat):Int)):=hn 68 (by decide);simp +decide (maxDischargeDepth:=200) only[go_sem,Nat.reduceBEq,h67,h68,aO,eq,p0,p1,q1,e0,e1,w1,r0,r1,q3,aw,hls];exact hk _ _ (fun d hd=>by cases hd;exact rfl) (Le.refl _)
      . cases ho;have h69:st.t 69= .ip [.x (.int .i64 m.1),.x (.int .i64 m.2.1),.x (.int .i64 m.2.2)]:=hn 69 (by decide);simp +decide (maxDischargeDepth:=200) only[go_sem,Nat.reduceBEq,h69,aO,eq,p0,p1,q1,e0,e1,w1,r0,r1,q3,aw,hls];exact hk _ _ (fun d hd=>by cases hd;exact rfl) (Le.refl _)
      . cases ho;have h66:st.t 66= .x (ai gf):=hn 66 (by decide);have h70:st.t 70= .agg [.x (.int .i64 m.1),.x (.int .i64 m.2.1),.x (.int .i64 m.2.2)]:=hn 70 (by decide);simp +decide (maxDischargeDepth:=200) only[go_sem,Nat.reduceBEq,h66,h70,aO,eq,p0,p1,q1,e0,e1,w1,r0,r1,q3,aw,hls];exact⟨gf,m,c,_,F,rfl,hD,hk (.x (.int .i64 (c m))) _ (fun d hd=>by cases hd;exact rfl) (by rw[bj];exact Le.refl _)⟩
      . cases ho;have h71:st.t 71= .x (.int .i64 (c m)):=hn 71 (by decide);simp +decide (maxDischargeDepth:=200) only[go_sem,Nat.reduceBEq,h71,aO,eq,p0,p1,q1,e0,e1,w1,r0,r1,q3,aw,hls];exact hk _ _ (fun d hd=>by cases hd;exact rfl) (Le.refl _)
      . cases ho;have h72:st.t 72= .x (.bool false):=hn 72 (by decide);simp +decide (maxDischargeDepth:=200) only[go_sem,Nat.reduceBEq,h72,aO,eq,p0,p1,q1,e0,e1,w1,r0,r1,q3,aw,hls];exact hk _ _ (fun d hd=>by cases hd;exact rfl) (Le.refl _)
      . cases ho;have h73:st.t 73= .x (.bool false):=hn 73 (by decide);simp +decide (maxDischargeDepth:=200) only[go_sem,Nat.reduceBEq,b10,h73,aO,eq,p0,p1,q1,e0,e1,w1,r0,r1,q3,aw,hls];exact hk _ _ (fun d hd=>by cases hd;exact rfl) (Le.refl _)
      . cases ho;have h74:st.t 74= .x (.int .i64 ((i:Nat):Int)):=hn 74 (by decide);have h73:st.t 73= .x (.bool false):=hn 73 (by decide);simp +decide (maxDischargeDepth:=200) only[go_sem,Nat.reduceBEq,h74,h73,aO,eq,p0,p1,q1,e0,e1,w1,r0,r1,q3,aw,hls];exact hk _ _ (fun d hd=>by cases hd;exact rfl) (Le.refl _)
      . cases ho;have h75:st.t 75= .x (.bool true):=hn 75 (by decide);have h73:st.t 73= .x (.bool false):=hn 73 (by decide);simp +decide (maxDischargeDepth:=200) only[go_sem,Nat.reduceBEq,h75,h73,aO,eq,p0,p1,q1,e0,e1,w1,r0,r1,q3,aw,hls];exact hk _ _ (fun d hd=>by cases hd;exact rfl) (Le.refl _)
      . cases ho;have h76:st.t 76= .x (.bool true):=hn 76 (by decide);simp +decide (maxDischargeDepth:=200) only[go_sem,Nat.reduceBEq,b8,h76,aO,eq,p0,p1,q1,e0,e1,w1,r0,r1,q3,aw,hls];exact hk _ _ (fun d hd=>by cases hd;exact rfl) (Le.refl _)
      . cases ho;have h76:st.t 76= .x (.bool true):=hn 76 (by decide);simp +decide (maxDischargeDepth:=200) only[go_sem,Nat.reduceBEq,b10,h76,aO,eq,p0,p1,q1,e0,e1,w1,r0,r1,q3,aw,hls];exact hk _ _ (fun d hd=>by cases hd;exact rfl) (Le.refl _)
      . cases ho;have h78:st.t 78= .x (.int .i64 ((i:Nat):Int)):=hn 78 (by decide);have h76:st.t 76= .x (.bool true):=hn 76 (by decide);simp +decide (maxDischargeDepth:=200) only[go_sem,Nat.reduceBEq,h78,h76,aO,eq,p0,p1,q1,e0,e1,w1,r0,r1,q3,aw,hls];exact hk _ _ (fun d hd=>by cases hd;exact rfl) (Le.refl _)
      . cases ho;have h77:st.t 77= .sl nm 3 (M.map ay) none:=hn 77 (by decide);have h79:st.t 79= .x (.int .i64 (((i-1):Nat):Int)):=hn 79 (by decide);have h76:st.t 76= .x (.bool true):=hn 76 (by decide);simp +decide (maxDischargeDepth:=200) only[go_sem,Nat.reduceBEq,h77,h79,h76,aO,eq,p0,p1,q1,e0,e1,w1,r0,r1,q3,aw,hls];exact hk _ _ (fun d hd=>by cases hd;exact rfl) (Le.refl _)
      . cases ho;have h80:st.t 80= .ip [.x (.int .i64 m'.1),.x (.int .i64 m'.2.1),.x (.int .i64 m'.2.2)]:=hn 80 (by decide);have h76:st.t 76= .x (.bool true):=hn 76 (by decide);simp +decide (maxDischargeDepth:=200) only[go_sem,Nat.reduceBEq,h80,h76,aO,eq,p0,p1,q1,e0,e1,w1,r0,r1,q3,aw,hls];exact hk _ _ (fun d hd=>by cases hd;exact rfl) (Le.refl _)
      . cases ho;have h76:st.t 76= .x (.bool true):=hn 76 (by decide);simp +decide (maxDischargeDepth:=200) only[go_sem,Nat.reduceBEq,b8,h76,aO,eq,p0,p1,q1,e0,e1,w1,r0,r1,q3,aw,hls];exact hk _ _ (fun d hd=>by cases hd;exact rfl) (Le.refl _)
      . cases ho;have h76:st.t 76= .x (.bool true):=hn 76 (by decide);simp +decide (maxDischargeDepth:=200) only[go_sem,Nat.reduceBEq,b10,h76,aO,eq,p0,p1,q1,e0,e1,w1,r0,r1,q3,aw,hls];exact hk _ _ (fun d hd=>by cases hd;exact rfl) (Le.refl _)
      . cases ho;have h82:st.t 82= .sl nm 3 (M.map ay) none:=hn 82 (by decide);have h83:st.t 83= .x (.int .i64 ((i:Nat):Int)):=hn 83 (by decide);have h76:st.t 76= .x (.bool true):=hn 76 (by decide);simp +decide (maxDischargeDepth:=200) only[go_sem,Nat.reduceBEq,h82,h83,h76,aO,eq,p0,p1,q1,e0,e1,w1,r0,r1,q3,aw,hls];exact hk _ _ (fun d hd=>by cases hd;exact rfl) (Le.refl _)
      . cases ho;have h84:st.t 84= .ip [.x (.int .i64 m.1),.x (.int .i64 m.2.1),.x (.int .i64 m.2.2)]:=hn 84 (by decide);have h76:st.t 76= .x (.bool true):=hn 76 (by decide);simp +decide (maxDischargeDepth:=200) only[go_sem,Nat.reduceBEq,h84,h76,aO,eq,p0,p1,q1,e0,e1,w1,r0,r1,q3,aw,hls];exact hk _ _ (fun d hd=>by cases hd;exact rfl) (Le.refl _)
      . cases ho;have h81:st.t 81= .agg [.x (.int .i64 m'.1),.x (.int .i64 m'.2.1),.x (.int .i64 m'.2.2)]:=hn 81 (by decide);have h85:st.t 85= .agg [.x (.int .i64 m.1),.x (.int .i64 m.2.1),.x (.int .i64 m.2.2)]:=hn 85 (by decide);have h76:st.t 76= .x (.bool true):=hn 76 (by decide);simp +decide (maxDischargeDepth:=200) only[go_sem,Nat.reduceBEq,h81,h85,h76,aO,eq,p0,p1,q1,e0,e1,w1,r0,r1,q3,aw,hls];exact hk _ _ (fun d hd=>by cases hd;exact rfl) (Le.refl _)
      . cases ho;have h86:st.t 86= .x (.bool true):=hn 86 (by decide);have h76:st.t 76= .x (.bool true):=hn 76 (by decide);simp +decide (maxDischargeDepth:=200) only[go_sem,Nat.reduceBEq,h86,h76,aO,eq,p0,p1,q1,e0,e1,w1,r0,r1,q3,aw,hls];exact hk _ _ (fun d hd=>by cases hd;exact rfl) (Le.refl _)
      . cases ho;have h76:st.t 76= .x (.bool true):=hn 76 (by decide);have h87:st.t 87= .x (.bool false):=hn 87 (by decide);have h73:st.t 73= .x (.bool false):=hn 73 (by decide);simp +decide (maxDischargeDepth:=200) only[go_sem,Nat.reduceBEq,h76,h87,h73,aO,eq,p0,p1,q1,e0,e1,w1,r0,r1,q3,aw,hls];exact hk _ _ (fun d hd=>by cases hd;exact rfl) (Le.refl _)
      . cases ho;have h73:st.t 73= .x (.bool false):=hn 73 (by decide);have h88:st.t 88= .x (.bool false):=hn 88 (by decide);simp +decide (maxDischargeDepth:=200) only[go_sem,Nat.reduceBEq,h73,h88,aO,eq,p0,p1,q1,e0,e1,w1,r0,r1,q3,aw,hls];exact hk _ _ (fun d hd=>by cases hd;exact rfl) (Le.refl _)
      . cases ho
    . rintro val hv;refine⟨[(0,.sl nl z (L.map bB) none),(3,.ptr 3 0),(6,.x (ai gf)),(8,.sl nm 3 (M.map ay) none),(9,.x (.bool pz)),(10,.x (.int .i64 ((i:Nat):Int))),(89,.x (.bool false))],[(3,[.x (.int .i64 s.1),.x (.int .i64 s.2.1),.x (.int .i64 s.2.2)])],?_,?_,?_⟩
      . simp +decide only[go_sem,Nat.reduceBEq]<;>(repeat' first|exact aK (by kernel_rfl)|exact(aL (by kernel_rfl)).trans (hv 89 (by kernel_rfl))|rfl|constructor)
      . simp +decide only[go_sem,Nat.reduceBEq]<;>(repeat' first|rfl|constructor)
      simp +decide (maxDischargeDepth:=200) only[go_sem,Nat.reduceBEq,aO];refine bz (X:={k:Nat//k<=M.length}) (fun k=>[(0,.sl nl z (L.map bB) none),(3,.ptr 3 0),(6,.x (ai gf)),(8,.sl nm 3 (M.map ay) none)]++[(9,.x (.bool pz)),(10,.x (.int .i64 ((i:Nat):Int))),(11,.x (.int .i64 ((k.1:Nat):Int)))]) (fun _=>[(3,[.x (.int .i64 s.1),.x (.int .i64 s.2.1),.x (.int .i64 s.2.2)])]) (fun _ Hx=>H=Hx) (fun k=>M.length-k.1) ⟨0,LQ _⟩ (by simp +decide only[go_sem,Nat.reduceBEq,Mb,Ma,Mc]<;>(repeat' first|rfl|constructor)) (by simp +decide only[go_sem,Nat.reduceBEq,Mc]<;>(repeat' first|rfl|constructor)) rfl ?_;rintro⟨k,hk⟩ H1 rfl;simp only[Mb,Ma] at hk⊢;by_cases hkl:k<M.length
      case pos=>
       obtain⟨y,hy⟩:∃y,M[k]?=some y:=⟨_,Io hkl⟩;have d3:decide ((k:Int)<(M.length:Int))=true:=LP (by omega);have k0:(0:Int)<=(k:Int):=by omega
       have k1:(k:Int)<(M.length:Int):=by omega
       have ck:=be (i:=k) (by omega);have q2:(M.map ay)[((k:Int)).toNat]?=some (.agg [.x (.int .i64 y.1),.x (.int .i64 y.2.1),.x (.int .i64 y.2.2)]):=by rw[io,LS,hy];rfl
       by_cases hki:k=i
       . have e3:decide ((k:Int)=(i:Int))=true:=LP (by omega);simp +decide (maxDischargeDepth:=200) only[go_sem,Nat.reduceBEq,aO,eq,d3,k0,k1,q2,p0,p1,q1,e3,ck];exact⟨⟨k+1,hkl⟩,⟨by simp +decide (maxDischargeDepth:=200) only[go_sem,Nat.reduceBEq,Mb,Ma],by simp +decide (maxDischargeDepth:=200) only[go_sem,Nat.reduceBEq],rfl⟩,by simp only;omega⟩
       . have e3:decide ((k:Int)=(i:Int))=false:=LO (by omega)
         have hw:al y m=false:=hmis.2 y (fun e=>hki (by
          have hnd:M.Nodup:=hM.1.imp fun {a b} h e=>by rw[e,cf] at h;cases h
          exact(List.getElem?_inj hkl hnd).1 (by rw[hy,hm,e]))) ((hM.2 y).1 (LW hy)).1
         rw[al] at hw;simp +decide (maxDischargeDepth:=200) only[go_sem,Nat.reduceBEq,aO,eq,d3,k0,k1,q2,p0,p1,q1,e3,ck,aq,hw];exact⟨⟨k+1,hkl⟩,⟨by simp +decide (maxDischargeDepth:=200) only[go_sem,Nat.reduceBEq,Mb,Ma],by simp +decide (maxDischargeDepth:=200) only[go_sem,Nat.reduceBEq],rfl⟩,by simp only;omega⟩
      have d3:decide ((k:Int)<(M.length:Int))=false:=LO (by omega);cases pz
      . rw[Bool.false_and] at hnx;simp +decide (maxDischargeDepth:=200) only[go_sem,Nat.reduceBEq,aO,eq,d3,p0,p1,q1,cu];exact⟨⟨i+1,hil⟩,⟨by simp +decide (maxDischargeDepth:=200) only[go_sem,Nat.reduceBEq,Mb,Ma,hnx],by simp +decide (maxDischargeDepth:=200) only[go_sem,Nat.reduceBEq],rfl⟩,by simp only;omega⟩
      . rw[Nm] at hnx;cases hw:al m s
        all_goals (rw[hw] at hnx;rw[al] at hw;simp +decide (maxDischargeDepth:=200) only[go_sem,Nat.reduceBEq,aO,eq,d3,p0,p1,q1,cu,aq,hw])
        all_goals exact⟨⟨i+1,hil⟩,⟨by simp +decide (maxDischargeDepth:=200) only[go_sem,Nat.reduceBEq,Mb,Ma,hnx,M7,NA],by simp +decide (maxDischargeDepth:=200) only[go_sem,Nat.reduceBEq],rfl⟩,by simp only;omega⟩
  . have e1:decide (0<(i:Int))=false:=LO (by omega);refine kr (fun k=>match k with|3=>[67,68]|4=>[69]|5=>[66,70]|6=>[71]|7=>[72]|8=>[73]|9=>[74,73]|10=>[75,73]|11=>[76]|12=>[76]|13=>[78,76]|14=>[77,79,76]|15=>[80,76]|16=>[76]|17=>[76]|18=>[82,83,76]|19=>[84,76]|20=>[81,85,76]|21=>[86,76]|22=>[76,87,73]|23=>[73,88]|_=>[]) (fun k v=>v=EN gf i nm M m m c k) (by kernel_rfl) (by kernel_rfl) ?_ ?_
    . rintro i' o st ho hn hb hbb K' hk;have b0:st.t 0= .sl nl z (L.map bB) none:=hb 0 (by kernel_rfl);have b3:st.t 3= .ptr 3 0:=hb 3 (by kernel_rfl);have b6:st.t 6= .x (ai gf):=hb 6 (by kernel_rfl);have b8:st.t 8= .sl nm 3 (M.map ay) none:=hb 8 (by kernel_rfl);have b9:st.t 9= .x (.bool pz):=hb 9 (by kernel_rfl);have b10:st.t 10= .x (.int .i64 ((i:Nat):Int)):=hb 10 (by kernel_rfl);have bb3:st.b 3=some ([.x (.int .i64 s.1),.x (.int .i64 s.2.1),.x (.int .i64 s.2.2)]):=(Mv hbb 3).trans (by kernel_rfl);clear hb hbb;rcases i' with _|_|_|_|_|_|_|_|_|_|_|_|_|_|_|_|_|_|_|_|_|_|_|_|i'
      . cases ho;simp +decide (maxDischargeDepth:=200) only[go_sem,Nat.reduceBEq,b6,aO,eq,p0,p1,q1,e0,e1];exact hk _ _ (fun d hd=>by cases hd;exact rfl) (Le.refl _)
      . cases ho;simp +decide (maxDischargeDepth:=200) only[go_sem,Nat.reduceBEq,b8,aO,eq,p0,p1,q1,e0,e1];exact hk _ _ (fun d hd=>by cases hd;exact rfl) (Le.refl _)
      . cases ho;simp +decide (maxDischargeDepth:=200) only[go_sem,Nat.reduceBEq,b10,aO,eq,p0,p1,q1,e0,e1];exact hk _ _ (fun d hd=>by cases hd;exact rfl) (Le.refl _)
      . cases ho;have h67:st.t 67= .sl nm 3 (M.map ay) none:=hn 67 (by decide);have h68:st.t 68= .x (.int .i64 ((i:Nat):Int)):=hn 68 (by decide);simp +decide (maxDischargeDepth:=200) only[go_sem,Nat.reduceBEq,h67,h68,aO,eq,p0,p1,q1,e0,e1];exact hk _ _ (fun d hd=>by cases hd;exact rfl) (Le.refl _)
      . cases ho;have h69:st.t 69= .ip [.x (.int .i64 m.1),.x (.int .i64 m.2.1),.x (.int .i64 m.2.2)]:=hn 69 (by decide);simp +decide (maxDischargeDepth:=200) only[go_sem,Nat.reduceBEq,h69,aO,eq,p0,p1,q1,e0,e1];exact hk _ _ (fun d hd=>by cases hd;exact rfl) (Le.refl _)
      . cases ho;have h66:st.t 66= .x (ai gf):=hn 66 (by decide);have h70:st.t 70= .agg [.x (.int .i64 m.1),.x (.int .i64 m.2.1),.x (.int .i64 m.2.2)]:=hn 70 (by decide);simp +decide (maxDischargeDepth:=200) only[go_sem,Nat.reduceBEq,h66,h70,aO,eq,p0,p1,q1,e0,e1];exact⟨gf,m,c,_,F,rfl,hD,hk (.x (.int .i64 (c m))) _ (fun d hd=>by cases hd;exact rfl) (by rw[bj];exact Le.refl _)⟩
      . cases ho;have h71:st.t 71= .x (.int .i64 (c m)):=hn 71 (by decide);simp +decide (maxDischargeDepth:=200) only[go_sem,Nat.reduceBEq,h71,aO,eq,p0,p1,q1,e0,e1];exact hk _ _ (fun d hd=>by cases hd;exact rfl) (Le.refl _)
      . cases ho;have h72:st.t 72= .x (.bool false):=hn 72 (by decide);simp +decide (maxDischargeDepth:=200) only[go_sem,Nat.reduceBEq,h72,aO,eq,p0,p1,q1,e0,e1];exact hk _ _ (fun d hd=>by cases hd;exact rfl) (Le.refl _)
      . cases ho;have h73:st.t 73= .x (.bool false):=hn 73 (by decide);simp +decide (maxDischargeDepth:=200) only[go_sem,Nat.reduceBEq,b10,h73,aO,eq,p0,p1,q1,e0,e1];exact hk _ _ (fun d hd=>by cases hd;exact rfl) (Le.refl _)
      . cases ho;have h74:st.t 74= .x (.int .i64 ((i:Nat):Int)):=hn 74 (by decide);have h73:st.t 73= .x (.bool false):=hn 73 (by decide);simp +decide (maxDischargeDepth:=200) only[go_sem,Nat.reduceBEq,h74,h73,aO,eq,p0,p1,q1,e0,e1];exact hk _ _ (fun d hd=>by cases hd;exact rfl) (Le.refl _)
      . cases ho;have h75:st.t 75= .x (.bool false):=hn 75 (by decide);have h73:st.t 73= .x (.bool false):=hn 73 (by decide);simp +decide (maxDischargeDepth:=200) only[go_sem,Nat.reduceBEq,h75,h73,aO,eq,p0,p1,q1,e0,e1];exact hk _ _ (fun d hd=>by cases hd;exact rfl) (Le.refl _)
      . cases ho;have h76:st.t 76= .x (.bool false):=hn 76 (by decide);simp +decide (maxDischargeDepth:=200) only[go_sem,Nat.reduceBEq,b8,h76,aO,eq,p0,p1,q1,e0,e1];exact hk _ _ (fun d hd=>by cases hd;exact rfl) (Le.refl _)
      . cases ho;have h76:st.t 76= .x (.bool false):=hn 76 (by decide);simp +decide (maxDischargeDepth:=200) only[go_sem,Nat.reduceBEq,b10,h76,aO,eq,p0,p1,q1,e0,e1];exact hk _ _ (fun d hd=>by cases hd;exact rfl) (Le.refl _)
      . cases ho;have h78:st.t 78= .x (.tuple #[]):=hn 78 (by decide);have h76:st.t 76= .x (.bool false):=hn 76 (by decide);simp +decide (maxDischargeDepth:=200) only[go_sem,Nat.reduceBEq,h78,h76,aO,eq,p0,p1,q1,e0,e1];exact hk _ _ (fun d hd=>by cases hd;exact rfl) (Le.refl _)
      . cases ho;have h77:st.t 77= .x (.tuple #[]):=hn 77 (by decide);have h79:st.t 79= .x (.tuple #[]):=hn 79 (by decide);have h76:st.t 76= .x (.bool false):=hn 76 (by decide);simp +decide (maxDischargeDepth:=200) only[go_sem,Nat.reduceBEq,h77,h79,h76,aO,eq,p0,p1,q1,e0,e1];exact hk _ _ (fun d hd=>by cases hd;exact rfl) (Le.refl _)
      . cases ho;have h80:st.t 80= .x (.tuple #[]):=hn 80 (by decide);have h76:st.t 76= .x (.bool false):=hn 76 (by decide);simp +decide (maxDischargeDepth:=200) only[go_sem,Nat.reduceBEq,h80,h76,aO,eq,p0,p1,q1,e0,e1];exact hk _ _ (fun d hd=>by cases hd;exact rfl) (Le.refl _)
      . cases ho;have h76:st.t 76= .x (.bool false):=hn 76 (by decide);simp +decide (maxDischargeDepth:=200) only[go_sem,Nat.reduceBEq,b8,h76,aO,eq,p0,p1,q1,e0,e1];exact hk _ _ (fun d hd=>by cases hd;exact rfl) (Le.refl _)
      . cases ho;have h76:st.t 76= .x (.bool false):=hn 76 (by decide);simp +decide (maxDischargeDepth:=200) only[go_sem,Nat.reduceBEq,b10,h76,aO,eq,p0,p1,q1,e0,e1];exact hk _ _ (fun d hd=>by cases hd;exact rfl) (Le.refl _)
      . cases ho;have h82:st.t 82= .x (.tuple #[]):=hn 82 (by decide);have h83:st.t 83= .x (.tuple #[]):=hn 83 (by decide);have h76:st.t 76= .x (.bool false):=hn 76 (by decide);simp +decide (maxDischargeDepth:=200) only[go_sem,Nat.reduceBEq,h82,h83,h76,aO,eq,p0,p1,q1,e0,e1];exact hk _ _ (fun d hd=>by cases hd;exact rfl) (Le.refl _)
      . cases ho;have h84:st.t 84= .x (.tuple #[]):=hn 84 (by decide);have h76:st.t 76= .x (.bool false):=hn 76 (by decide);simp +decide (maxDischargeDepth:=200) only[go_sem,Nat.reduceBEq,h84,h76,aO,eq,p0,p1,q1,e0,e1];exact hk _ _ (fun d hd=>by cases hd;exact rfl) (Le.refl _)
      . cases ho;have h81:st.t 81= .x (.tuple #[]):=hn 81 (by decide);have h85:st.t 85= .x (.tuple #[]):=hn 85 (by decide);have h76:st.t 76= .x (.bool false):=hn 76 (by decide);simp +decide (maxDischargeDepth:=200) only[go_sem,Nat.reduceBEq,h81,h85,h76,aO,eq,p0,p1,q1,e0,e1];exact hk _ _ (fun d hd=>by cases hd;exact rfl) (Le.refl _)
      . cases ho;have h86:st.t 86= .x (.tuple #[]):=hn 86 (by decide);have h76:st.t 76= .x (.bool false):=hn 76 (by decide);simp +decide (maxDischargeDepth:=200) only[go_sem,Nat.reduceBEq,h86,h76,aO,eq,p0,p1,q1,e0,e1];exact hk _ _ (fun d hd=>by cases hd;exact rfl) (Le.refl _)
      . cases ho;have h76:st.t 76= .x (.bool false):=hn 76 (by decide);have h87:st.t 87= .x (.tuple #[]):=hn 87 (by decide);have h73:st.t 73= .x (.bool false):=hn 73 (by decide);simp +decide (maxDischargeDepth:=200) only[go_sem,Nat.reduceBEq,h76,h87,h73,aO,eq,p0,p1,q1,e0,e1];exact hk _ _ (fun d hd=>by cases hd;exact rfl) (Le.refl _)
      . cases ho;have h73:st.t 73= .x (.bool false):=hn 73 (by decide);have h88:st.t 88= .x (.bool false):=hn 88 (by decide);simp +decide (maxDischargeDepth:=200) only[go_sem,Nat.reduceBEq,h73,h88,aO,eq,p0,p1,q1,e0,e1];exact hk _ _ (fun d hd=>by cases hd;exact rfl) (Le.refl _)
      . cases ho
    . rintro val hv;refine⟨[(0,.sl nl z (L.map bB) none),(3,.ptr 3 0),(6,.x (ai gf)),(8,.sl nm 3 (M.map ay) none),(9,.x (.bool pz)),(10,.x (.int .i64 ((i:Nat):Int))),(89,.x (.bool false))],[(3,[.x (.int .i64 s.1),.x (.int .i64 s.2.1),.x (.int .i64 s.2.2)])],?_,?_,?_⟩
      . simp +decide only[go_sem,Nat.reduceBEq]<;>(repeat' first|exact aK (by kernel_rfl)|exact(aL (by kernel_rfl)).trans (hv 89 (by kernel_rfl))|rfl|constructor)
      . simp +decide only[go_sem,Nat.reduceBEq]<;>(repeat' first|rfl|constructor)
      simp +decide (maxDischargeDepth:=200) only[go_sem,Nat.reduceBEq,aO];refine bz (X:={k:Nat//k<=M.length}) (fun k=>[(0,.sl nl z (L.map bB) none),(3,.ptr 3 0),(6,.x (ai gf)),(8,.sl nm 3 (M.map ay) none)]++[(9,.x (.bool pz)),(10,.x (.int .i64 ((i:Nat):Int))),(11,.x (.int .i64 ((k.1:Nat):Int)))]) (fun _=>[(3,[.x (.int .i64 s.1),.x (.int .i64 s.2.1),.x (.int .i64 s.2.2)])]) (fun _ Hx=>H=Hx) (fun k=>M.length-k.1) ⟨0,LQ _⟩ (by simp +decide only[go_sem,Nat.reduceBEq,Mb,Ma,Mc]<;>(repeat' first|rfl|constructor)) (by simp +decide only[go_sem,Nat.reduceBEq,Mc]<;>(repeat' first|rfl|constructor)) rfl ?_;rintro⟨k,hk⟩ H1 rfl;simp only[Mb,Ma] at hk⊢;by_cases hkl:k<M.length
      case pos=>
       obtain⟨y,hy⟩:∃y,M[k]?=some y:=⟨_,Io hkl⟩;have d3:decide ((k:Int)<(M.length:Int))=true:=LP (by omega);have k0:(0:Int)<=(k:Int):=by omega
       have k1:(k:Int)<(M.length:Int):=by omega
       have ck:=be (i:=k) (by omega);have q2:(M.map ay)[((k:Int)).toNat]?=some (.agg [.x (.int .i64 y.1),.x (.int .i64 y.2.1),.x (.int .i64 y.2.2)]):=by rw[io,LS,hy];rfl
       by_cases hki:k=i
       . have e3:decide ((k:Int)=(i:Int))=true:=LP (by omega);simp +decide (maxDischargeDepth:=200) only[go_sem,Nat.reduceBEq,aO,eq,d3,k0,k1,q2,p0,p1,q1,e3,ck];exact⟨⟨k+1,hkl⟩,⟨by simp +decide (maxDischargeDepth:=200) only[go_sem,Nat.reduceBEq,Mb,Ma],by simp +decide (maxDischargeDepth:=200) only[go_sem,Nat.reduceBEq],rfl⟩,by simp only;omega⟩
       . have e3:decide ((k:Int)=(i:Int))=false:=LO (by omega)
         have hw:al y m=false:=hmis.2 y (fun e=>hki (by
          have hnd:M.Nodup:=hM.1.imp fun {a b} h e=>by rw[e,cf] at h;cases h
          exact(List.getElem?_inj hkl hnd).1 (by rw[hy,hm,e]))) ((hM.2 y).1 (LW hy)).1
         rw[al] at hw;simp +decide (maxDischargeDepth:=200) only[go_sem,Nat.reduceBEq,aO,eq,d3,k0,k1,q2,p0,p1,q1,e3,ck,aq,hw];exact⟨⟨k+1,hkl⟩,⟨by simp +decide (maxDischargeDepth:=200) only[go_sem,Nat.reduceBEq,Mb,Ma],by simp +decide (maxDischargeDepth:=200) only[go_sem,Nat.reduceBEq],rfl⟩,by simp only;omega⟩
      have d3:decide ((k:Int)<(M.length:Int))=false:=LO (by omega);cases pz
      . rw[Bool.false_and] at hnx;simp +decide (maxDischargeDepth:=200) only[go_sem,Nat.reduceBEq,aO,eq,d3,p0,p1,q1,cu];exact⟨⟨i+1,hil⟩,⟨by simp +decide (maxDischargeDepth:=200) only[go_sem,Nat.reduceBEq,Mb,Ma,hnx],by simp +decide (maxDischargeDepth:=200) only[go_sem,Nat.reduceBEq],rfl⟩,by simp only;omega⟩
      . rw[Nm] at hnx;cases hw:al m s
        all_goals (rw[hw] at hnx;rw[al] at hw;simp +decide (maxDischargeDepth:=200) only[go_sem,Nat.reduceBEq,aO,eq,d3,p0,p1,q1,cu,aq,hw])
        all_goals exact⟨⟨i+1,hil⟩,⟨by simp +decide (maxDischargeDepth:=200) only[go_sem,Nat.reduceBEq,Mb,Ma,hnx,M7,NA],by simp +decide (maxDischargeDepth:=200) only[go_sem,Nat.reduceBEq],rfl⟩,by simp only;omega⟩
 have d2:decide ((i:Int)<(M.length:Int))=false:=LO (by omega);rw[Mk (show M.length<=i by omega),<-hpass];simp +decide (maxDischargeDepth:=200) only[go_sem,Nat.reduceBEq,aO,eq,d2];refine bz (X:={i:Nat//i<=L.length}) (fun i=>[(0,.sl nl z (L.map bB) none),(3,.ptr 3 0),(6,.x (ai gf)),(8,.sl nm zm (M.map ay) none)]++[(9,.x (.bool (dW c s))),(12,.x (.int .i64 ((i.1:Nat):Int)))]) (fun _=>[(3,[.x (.int .i64 s.1),.x (.int .i64 s.2.1),.x (.int .i64 s.2.2)])]) (fun _ Hx=>H=Hx) (fun i=>L.length-i.1) ⟨0,LQ _⟩ (by simp +decide only[go_sem,Nat.reduceBEq,Mb,Ma,Mc]<;>(repeat' first|rfl|constructor)) (by simp +decide only[go_sem,Nat.reduceBEq,Mc]<;>(repeat' first|rfl|constructor)) rfl ?_;rintro⟨j,hj⟩ H1 rfl;simp only[Mb,Ma] at hj⊢;by_cases hjl:j<L.length
 case neg=>have d3:decide ((j:Int)<(L.length:Int))=false:=LO (by omega);simp +decide (maxDischargeDepth:=200) only[go_sem,Nat.reduceBEq,aO,eq,d3];refine⟨gf,s,c,_,F,rfl,hD,fun b hb=>?_⟩;obtain rfl:=ig hb;have e3:decide (dW c s=dW c s)=true:=LP rfl;simp +decide (maxDischargeDepth:=200) only[go_sem,Nat.reduceBEq,aO,e3];exact hT _
 obtain rfl:z=4:=hz (fun e=>by rw[e] at hjl;cases hjl);have d3:decide ((j:Int)<(L.length:Int))=true:=LP (by omega);have p0:(0:Int)<=(j:Int):=by omega
 have p1:(j:Int)<(L.length:Int):=by omega
 have cu:=be (i:=j) (by omega);obtain⟨x,hx⟩:∃x,L[j]?=some x:=⟨_,Io hjl⟩;have q1:(L.map bB)[((j:Int)).toNat]?=some (.agg [.x (.int .i64 x.1.1),.x (.int .i64 x.1.2.1),.x (.int .i64 x.1.2.2),.x (.int .i64 x.2)]):=by rw[io,LS,hx];rfl
 simp +decide (maxDischargeDepth:=200) only[go_sem,Nat.reduceBEq,aO,eq,d3,p0,p1,q1];refine⟨gf,x.1,c,_,F,rfl,hD,?_⟩;by_cases hc0:c x.1<=0
 . have e4:=LP hc0;simp +decide (maxDischargeDepth:=200) only[go_sem,Nat.reduceBEq,aO,e4,cu];exact⟨⟨j+1,hjl⟩,⟨by simp +decide (maxDischargeDepth:=200) only[go_sem,Nat.reduceBEq,Mb,Ma],by simp +decide (maxDischargeDepth:=200) only[go_sem,Nat.reduceBEq],rfl⟩,by simp only;omega⟩
 have e4:=LO hc0;obtain⟨u,huM,huw⟩:=jp hsupS hM _ x.1 (LM _) (by omega);simp +decide (maxDischargeDepth:=200) only[go_sem,Nat.reduceBEq,aO,e4];refine bz (X:={k:Nat//k<=M.length}) (fun k=>[(0,.sl nl 4 (L.map bB) none),(3,.ptr 3 0),(6,.x (ai gf)),(8,.sl nm zm (M.map ay) none)]++[(9,.x (.bool (dW c s))),(12,.x (.int .i64 ((j:Nat):Int))),(13,.x (.bool ((M.take k.1).any fun m=>al m x.1))),(14,.x (.int .i64 ((k.1:Nat):Int)))]) (fun _=>[(3,[.x (.int .i64 s.1),.x (.int .i64 s.2.1),.x (.int .i64 s.2.2)])]) (fun _ Hx=>H=Hx) (fun k=>M.length-k.1) ⟨0,LQ _⟩ (by simp +decide only[go_sem,Nat.reduceBEq,Mb,Ma,Nz,List.any_nil,Mc]<;>(repeat' first|rfl|constructor)) (by simp +decide only[go_sem,Nat.reduceBEq,Mc]<;>(repeat' first|rfl|constructor)) rfl ?_;rintro⟨k,hk⟩ H1 rfl;simp only[Mb,Ma] at hk⊢;by_cases hkl:k<M.length
 case neg=>
  have d4:decide ((k:Int)<(M.length:Int))=false:=LO (by omega);have ha:((M.take k).any fun m=>al m x.1)=true:=by rw[Mk (by omega)];exact MS.2 ⟨u,huM,huw⟩
  rw[ha];simp +decide (maxDischargeDepth:=200) only[go_sem,Nat.reduceBEq,aO,eq,d4,cu];exact⟨⟨j+1,hjl⟩,⟨by simp +decide (maxDischargeDepth:=200) only[go_sem,Nat.reduceBEq,Mb,Ma],by simp +decide (maxDischargeDepth:=200) only[go_sem,Nat.reduceBEq],rfl⟩,by simp only;omega⟩
 obtain rfl:zm=3:=hzm (fun e=>by rw[e] at hkl;cases hkl);obtain⟨m,hm⟩:∃m,M[k]?=some m:=⟨_,Io hkl⟩;have d4:decide ((k:Int)<(M.length:Int))=true:=LP (by omega);have k0:(0:Int)<=(k:Int):=by omega
 have k1:(k:Int)<(M.length:Int):=by omega
 have ck:=be (i:=k) (by omega);have q2:(M.map ay)[((k:Int)).toNat]?=some (.agg [.x (.int .i64 m.1),.x (.int .i64 m.2.1),.x (.int .i64 m.2.2)]):=by rw[io,LS,hm];rfl
 obtain⟨az,haz⟩:∃az,az=((M.take k).any fun m=>al m x.1):=⟨_,rfl⟩;have hnx:((M.take (k+1)).any fun m=>al m x.1)=(az||al m x.1):=by rw[bQ hm,List.any_append,haz];simp
 rw[<-haz];cases az
 . rw[Ny] at hnx;obtain⟨wz,hwz⟩:∃wz,wz=al m x.1:=⟨_,rfl⟩;rw[<-hwz] at hnx;rw[al] at hwz;simp +decide (maxDischargeDepth:=200) only[go_sem,Nat.reduceBEq,aO,eq,d4,k0,k1,q2,p0,p1,q1,ck,aq,<-hwz];exact⟨⟨k+1,hkl⟩,⟨by simp +decide (maxDischargeDepth:=200) only[go_sem,Nat.reduceBEq,Mb,Ma,hnx],by simp +decide (maxDischargeDepth:=200) only[go_sem,Nat.reduceBEq],rfl⟩,by simp only;omega⟩
 . rw[Bool.true_or] at hnx;simp +decide (maxDischargeDepth:=200) only[go_sem,Nat.reduceBEq,aO,eq,d4,k0,k1,q2,p0,p1,q1,ck];exact⟨⟨k+1,hkl⟩,⟨by simp +decide (maxDischargeDepth:=200) only[go_sem,Nat.reduceBEq,Mb,Ma,hnx],by simp +decide (maxDischargeDepth:=200) only[go_sem,Nat.reduceBEq],rfl⟩,by simp only;omega⟩
theorem pM:gD 4 (FE su EP):=by refine ku we ?_;intro us r hF;obtain⟨q,rfl,hG⟩:=bX hF;unfold EP at hG;obtain⟨hok,hG⟩:=bm hG;cases hG;exact⟨q,rfl,hok,fun _=>rfl⟩
end Go.Proofs.Ytenmccehpkiamaa

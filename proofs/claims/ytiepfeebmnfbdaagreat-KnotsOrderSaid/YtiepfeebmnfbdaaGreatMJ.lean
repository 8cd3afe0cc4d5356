/- MJ -/
import Derived.Test.YtiepfeebmnfbdaaGreatMG
namespace Go.Proofs.YtiepfeebmnfbdaaGreat
open Tryz
set_option linter.unusedSimpArgs false
set_option maxHeartbeats 8000000
set_option maxRecDepth 100000
open Go Go.RowKit
open Go.ChangeMaps (setBlock)
def OkK(ks:U)(pre:List U):Prop:=∃l:U,pre=l.map (fun k=>[k])∧(∀k∈l,k∈ks)∧l.length<=ks.length
def QO(ks:U)(xs:List U):Prop:=∃l:U,xs=l.map (fun k=>[k])∧l.Perm ks
variable{m:Lim}{w:World}{g:Nat}{vs:U}
theorem BF{lb:Array Value}{ks:U}(hks:∀k∈ks,∃p:C3,k=aa p)(hm:MapAt m w g ks vs)(hr:RdL m w lb.toList [.ip [.x (.map (some g))]])(hKg:iq<=g):j9 (aI []) (fun k=>k=g) 77 lb (OkK ks) (QO ks) m w:=by
 obtain⟨ents,clock,hh,hrd,hlt,hnd,_⟩:=hm;have hgw:=ag hh;obtain⟨ps,hps⟩:∃ps,ps=ents.toList.zip ks:=⟨_,rfl⟩;have hlen:=hrd.len.1;have hp1:ps.map (fun p=>p.1)=ents.toList:=by rw[hps];exact List.map_fst_zip A0b
 have hp2:ps.map (fun p=>p.2)=ks:=by rw[hps];exact List.map_snd_zip A0b
 have hpb:(ps.map fun p=>p.1.born).Nodup:=by
  have:(ps.map fun p=>p.1.born)=(ps.map fun p=>p.1).map (·.born):=by rw[aes];rfl
  rw[this,hp1];exact hnd
 have hpk:∀p∈ps,p.2.val=some p.1.key:=fun p hp=>by obtain⟨i,hi⟩:=aen hp;rw[hps,afn] at hi;obtain⟨k,v,q1,_,q2,_⟩:=hrd.get i p.1 hi.1;rw[q1] at hi;cases hi.2;exact q2.2
 refine un (E:=aI []) (n:=14) (us:=[.ip [.x (.map (some g))]]) func77 rfl ntmps77 results77 A0k A0c hr rfl (fun g=> .undef _) ?_;intro l A Ax a0 O hA hX hy h0 hOG;have hE:EnvOK (aI []):=aU _ trivial;have hm':(aI []).P.follows .mixedOrders=true:=A0a
 refine wpIn_seq (wpIn_region ?_);refine fZ hE (hA []) 0 1 [(0,.x (.func (.yield l) #[] #[])),(4,.x (.map (some g)))] [] [1] A0c A0a h0 A0d ?_;intro a w1 h1;obtain⟨m1,Oi,O1,hn,ha,hdis,h4,h5,h6⟩:=h1;have hOg: ¬O g:=fun h=>hOG g h rfl
 have hsg:=h6.same g hgw hOg;have hh1:w1.heap[g]?=some (.map ents clock):=hsg.1.trans hh;have he4:a.eval (.tmp 4)= .map (some g):=hn.read_x 4 A0g;have hO1g: ¬O1 g:=fun h=>by rcases h5 g h with h|h;exact hOg h;exact absurd hgw (ad0.2 h)
 have hbl:Below w1.heap.size w1 (w1.alloc (.mapIter (some g) clock #[] clock)):=(Below.refl _ w1).alloc (adp _) _;have hJ1:(aI []).J (w1.alloc (.mapIter (some g) clock #[] clock)):=hE.keep [] _ _ (fun x hx=>by cases hx) hn.J ⟨hbl.os,hbl.tape,hbl.output,hbl.size,fun k hk _=>hbl.block k hk⟩;have hO1r: ¬O1 w1.heap.size:=fun h=>agB _ ((hA []).lt _ _ _ ha _ h).1
 have hKr:(aI []).K<=w1.heap.size:=hE.high _ hn.J;have hgr:g≠w1.heap.size:=by have:=ag hh1;omega
 rw[wpOpsIn_cons]
 refine fI (v:= .pointer (some ⟨w1.heap.size,0,none⟩)) (w':=w1.alloc (.mapIter (some g) clock #[] clock)) rfl rfl A0L (by simp only[execOp,he4,Gc,lr (P:=prog) underlying109 hh1,Ge,Gd,ir]) ?_
 have hst:Step (fun _=>False) m1 w1 m1 (w1.alloc (.mapIter (some g) clock #[] clock)):=Step.of_below hbl (fun _ _=>rfl)
 have h2:Two (aI []) 14 (fun k=>O k∨k=g) m w (KeyFr A g w1.heap.size ents clock (m g) [] []) ((aq [(0,.x (.func (.yield l) #[] #[])),(4,.x (.map (some g)))] []).put (some 5) (V.x (.pointer (some ⟨w1.heap.size,0,none⟩))).bare) (a.put (some 5) (.pointer (some ⟨w1.heap.size,0,none⟩))) (w1.alloc (.mapIter (some g) clock #[] clock)):=
  Two.raw (A':=KeyFr A g w1.heap.size ents clock (m g) [] []) (S:=fun _=>False) (O':=fun k=>O1 k∨k=g∨k=w1.heap.size) hn hst (fun _ _ h=>h) hJ1
   ⟨O1,(hA []).stab _ _ _ _ _ _ ha hst (fun _ _ h=>h) hJ1,hO1g,hO1r,hgr,fun _=>agp,(Below.heap_alloc _ _ _ (ag hh1)).trans hh1,hsg.2,World.heap_new _ _⟩
   (fun k hk ho=>by
    rcases hk with hk|rfl|rfl
    . exact hdis k hk ho
    . exact absurd hgw (ad0.2 (h4 _ ho))
    . exact agB _ (hn.lt _ ho)) h4 (fun k hk=>by
    rcases hk with hk|rfl|rfl
    . rcases h5 k hk with h|h
      . exact .inl (.inl h)
      . exact .inr h
    . exact .inl (.inr rfl)
    . exact .inr h6.ext.size) (h6.mono (fun k _ h=> .inl h)) (fun _ _ h=>h.elim) A0c (.x _)
 generalize w1.heap.size=r at h2 hgr hKr;generalize w1.alloc _=w2 at h2⊢;have hH:∀(B:List U->(Nat->Prop)->Lim->World->Prop) (hB:∀pre,Holds (aI []) (B pre)) (sp sq:List (MapEntry×V)),Holds (aI []) (KeyFr B g r ents clock (m g) sp sq):=fun B hB sp sq=>KeyFr.holds hB hKg hKr
 replace h2:=h2.le (st':=aq [(0,.x (.func (.yield l) #[] #[])),(5,.x (.p r))] []) (aK A0d trivial);refine(show wpOpsIn (bg none) 0 _ _ _ [] _ _ from ?_);refine wpIn_block ?_;refine cI (X:=List (MapEntry×V)) (fun sp a' w'=>(∀p∈sp,p∈ps)∧(sp.map fun p=>p.1.born).Nodup∧Two (aI []) 14 (fun k=>O k∨k=g) m w (KeyFr A g r ents clock (m g) sp sp) (aq [(0,.x (.func (.yield l) #[] #[])),(5,.x (.p r))] []) a' w') (fun sp=>(ents.toList.filter fun e=> !(sp.map fun p=>p.1.born).contains e.born).length) [] ⟨(fun p hp=>by cases hp),ad3,h2⟩ ?_;rintro sp a2 w2 ⟨hsub,hspn,h2⟩;refine wpIn_seq (wpIn_region ?_);show wpOpsIn (bg none) 0 _ _ _ (0::List.range' 1 1++[]) _ _;rw[aee,wpOpsIn_cons];obtain⟨m2,Oi,O2,hn,hfr,hdis,h4,h5,h6⟩:=h2;have hfr':=hfr;obtain⟨O1,k1,k2,k3,k4,k5,k6,k7,k8⟩:=hfr';have he5:a2.eval (.tmp 5)= .p r:=hn.read_x 5 A0g;have hcont:∀b:Nat,((sp.map fun p=>p.1.born).toArray.contains b)=(sp.map fun p=>p.1.born).contains b:=fun b=>by simp
 rcases run_next_at (P:=prog) w2 0 r g clock clock _ ents clock k8 k6 hlt (adp _) with⟨hz,hrun⟩|⟨e,he,w3,hw3,hrun⟩
 . --nothing is left
   refine fI (v:= .tuple #[.bool false]) (w':=w2) rfl rfl A0L A1q ?_;have h3:=Two.raw (A':=KeyFr A g r ents clock (m g) sp sp) (S:=fun _=>False) (d:=6) (v:= .tuple #[.bool false]) (u:= .tup [.bool false]) hn (Step.refl _ _ _) (fun _ _ h=>h) hn.J hfr hdis h4 h5 h6 (fun _ _ h=>h.elim) A0c (Rd.tup_iff.2 ⟨_,rfl,.x _,trivial⟩);rw[eT] at h3;refine fZ hE (hH A hA sp sp) 1 1 [(7,.bool false)] [] [] A0c A0a h3 A0d ?_;intro a3 w3 h3;refine wpIn_seq (DH hE hm' (hH A hA sp sp) 0 [] [] A0a h3 A0d ?_);intro a3 w3 h3;have hperm:sp.Perm ps:=xb hpb hsub hspn (fun p hp=>by
    have hz':Go.leftOf ents (sp.map fun p=>p.1.born).toArray= #[]:=aeU hz;have:p.1∈ents.toList:=by rw[<-hp1];exact ads.2 ⟨p,hp,rfl⟩
    unfold Go.leftOf at hz';rw[Array.filter_eq_empty_iff] at hz';have:=hz' p.1 (by simpa using this);rw[hcont] at this;simpa using this)
   exact⟨.inl rfl,.inl ⟨_,_,⟨sp.map fun p=>p.2,by rw[aes];rfl,by rw[<-hp2];exact hperm.map _⟩,Two.unframe h3 hh rfl hOg⟩⟩
 . --an entry has come
   obtain⟨hem,hnew⟩:=mem_left he;rw[hcont] at hnew;obtain⟨pe,hpe,rfl⟩:∃p∈ps,p.1=e:=by rw[<-hp1] at hem;obtain⟨p,hp,rfl⟩:=ads.1 hem;exact⟨p,hp,rfl⟩
   obtain⟨e,kv⟩:=pe;simp only at hem hnew hrun;have hkey:=hpk _ hpe;simp only at hkey;have hkin:kv∈ks:=by rw[<-hp2];exact ads.2 ⟨_,hpe,rfl⟩
   obtain⟨pc,rfl⟩:=hks kv hkin;have hkrd:∀(m:Lim) (w:World),Rd m w e.key (aa pc):=fun m w=>by have hk2:(aa pc).val=some e.key:=hkey;simp only[V.val,aa,afk,V.one,List.mapM_nil,afY,afB,aeL,aea,adO] at hk2;rw[<-hk2];exact Rd.agg_iff.2 ⟨_,rfl,.x _,.x _,.x _,trivial⟩
   have hseen:(sp.map fun p=>p.1.born).toArray.push e.born=((sp++[(e,aa pc)]).map fun p=>p.1.born).toArray:=A0k
   rw[hseen] at hrun;have hs3:Step (fun k=>k=r) m2 w2 m2 (setBlock w3 r (.mapIter (some g) clock ((sp++[(e,aa pc)]).map fun p=>p.1.born).toArray clock)):=Step.iter hw3 k8;have hr3:=lq (o:= .mapIter (some g) clock ((sp++[(e,aa pc)]).map fun p=>p.1.born).toArray clock) hw3 k8;have hJ3:(aI []).J (setBlock w3 r (.mapIter (some g) clock ((sp++[(e,aa pc)]).map fun p=>p.1.born).toArray clock)):=hE.keep [r] _ _ (fun x hx=>by rw[adj.1 hx];exact hKr) hn.J (hs3.bel (fun k _ h=>adj.2 h));refine fI (v:= .tuple #[.bool true,e.key,e.val]) (w':=setBlock w3 r (.mapIter (some g) clock ((sp++[(e,aa pc)]).map fun p=>p.1.born).toArray clock)) rfl rfl A0L A1q ?_;have hOr:O2 r:=(k5 r).2 (.inr (.inr rfl))
   have h3:=Two.raw (A':=KeyFr A g r ents clock (m g) sp (sp++[(e,aa pc)])) (S:=fun k=>k=r) (d:=6) (v:= .tuple #[.bool true,e.key,e.val]) (u:= .tup [.bool true,.undef,.undef]) hn hs3 (fun k hk h=>hdis r hOr (h▸hk)) hJ3
    ⟨O1,(hA _).stab _ _ _ _ _ _ k1 hs3 (fun k hk h=>k3 (h▸hk)) hJ3,k2,k3,k4,k5,(hs3.same g (ag k6) k4).1.trans k6,k7,hr3⟩ hdis h4 h5 h6 (fun i hi h=>by
     subst h;rcases h5 _ hOr with h|h
     . exact h
     . exact absurd hi (ad0.2 h)) A0c (Rd.tup_iff.2 ⟨_,rfl,.x _,.undef _,.undef _,trivial⟩)
   rw[eT] at h3;generalize setBlock w3 r _=w4 at h3;refine fZ hE (hH A hA sp _) 1 1 [(0,.x (.func (.yield l) #[] #[])),(5,.x (.p r)),(7,.bool true)] [] [] A0c A0a h3 A0d ?_;intro a3 w5 h3;refine wpIn_seq (dl hE hm' (hH A hA sp _) [(0,.x (.func (.yield l) #[] #[])),(5,.x (.p r))] [] A0a h3 A0d ?_);intro a3 w5 h3;refine wpIn_block (wpIn_seq (wpIn_region ?_));show wpOpsIn (bg none) 0 _ _ _ (0::List.range' 1 3++[]) _ _;rw[aee,wpOpsIn_cons];obtain⟨m2,Oi,O2,hn,hfr,hdis,h4,h5,h6⟩:=h3;have hfr':=hfr;obtain⟨O1,k1,k2,k3,k4,k5,k6,k7,k8⟩:=hfr';have he5:a3.eval (.tmp 5)= .p r:=hn.read_x 5 A0g;have hen:=run_entry_at (P:=prog) w5 r g clock (sp.map fun p=>p.1.born).toArray ents clock e (by rw[hseen];exact k8) k6 hem hnd;refine fI (v:= .tuple #[e.key,e.val]) (w':=w5) rfl rfl A0L (by simp only[execOp,he5,Gc,ir];rw[hen];rfl) ?_;have h3:=Two.raw (A':=KeyFr A g r ents clock (m g) sp (sp++[(e,aa pc)])) (S:=fun _=>False) (d:=8) (v:= .tuple #[e.key,e.val]) (u:= .tup [aa pc,.undef]) hn (Step.refl _ _ _) (fun _ _ h=>h) hn.J hfr hdis h4 h5 h6 (fun _ _ h=>h.elim) A0c (Rd.tup_iff.2 ⟨_,rfl,hkrd _ _,.undef _,trivial⟩);rw[eT] at h3;refine fZ hE (hH A hA sp _) 1 3 [(0,.x (.func (.yield l) #[] #[])),(5,.x (.p r)),(3,.ptr 3 0)] [(3,[.x (.string pc.1),.i pc.2.1,.i pc.2.2])] [] A0c A0a h3 A0H ?_;intro a3 w5 h3;refine wpIn_seq (wpIn_region ?_);refine fZ hE (hH A hA sp _) 0 2 [(0,.x (.func (.yield l) #[] #[])),(5,.x (.p r)),(10,.x (.func (.yield l) #[] #[])),(11,aa pc)] [] [2,3] A0c A0a h3 A0H ?_;intro a3 w5 h3;rw[wpOpsIn_cons];have hsub2:∀p∈sp++[(e,aa pc)],p∈ps:=fun p hp=>by
    rcases adv.1 hp with hp|hp
    . exact hsub p hp
    . rw[adj.1 hp];exact hpe
   have hspn2:((sp++[(e,aa pc)]).map fun p=>p.1.born).Nodup:=by
    rw[adK,aeH];refine⟨hspn,A0k,fun b hb c hc e1=>?_⟩;have hc1:c=e.born:=by simpa using hc
    subst hc1;subst e1;have:(sp.map fun p=>p.1.born).contains e.born=true:=by simpa using hb
    rw[this] at hnew;cases hnew
   have hokp:OkK ks ((sp.map fun p=>[p.2])++[[aa pc]]):=⟨(sp++[(e,aa pc)]).map (fun p=>p.2),A0k,fun k hk=>by obtain⟨p,hp,rfl⟩:=ads.1 hk;rw[<-hp2];exact ads.2 ⟨p,hsub2 p hp,rfl⟩,by rw[eq,<-hp2,eq];exact eu (eY _ hspn2) hsub2⟩
   have hmap:((sp++[(e,aa pc)]).map fun p=>[p.2])=(sp.map fun p=>[p.2])++[[aa pc]]:=A0k
   refine nC (n:=14) (A1:=KeyFr A g r ents clock (m g) (sp++[(e,aa pc)]) (sp++[(e,aa pc)])) (Ax:=KeyFr Ax g r ents clock (m g) (sp++[(e,aa pc)]) (sp++[(e,aa pc)])) (l:=l) rfl (d:=12) rfl A0c rfl rfl rfl h3 (u:=aa pc) rfl (by rw[aa,dY];rfl) (fun Of m1 w6 vs hfr hv=>?_) ?_ ?_
   . obtain⟨O1,k1,k2,k3,k4,k5,k6,k7,k8⟩:=hfr;refine KeyFr.yield (fun O1 k1=>?_) O1 k1 k2 k3 k4 k5 k6 k7 k8;rw[hmap];exact hy _ _ O1 m1 w6 vs hokp k1 (by rw[aa,dY] at hv;exact hv) rfl
   . intro a3 w5 h3;refine fZ hE (hH A hA _ _) 3 1 [(0,.x (.func (.yield l) #[] #[])),(5,.x (.p r)),(13,.bool false)] [] [] A0c A0a h3 A0d ?_;intro a3 w5 h3;refine dl hE hm' (hH A hA _ _) [(0,.x (.func (.yield l) #[] #[])),(5,.x (.p r))] [] A0a h3 A0d ?_;intro a3 w5 h3;refine⟨sp++[(e,aa pc)],⟨hsub2,hspn2,h3⟩,?_⟩;refine kd (fun e'=> !(sp.map fun p=>p.1.born).contains e'.born) (fun e'=> !((sp++[(e,aa pc)]).map fun p=>p.1.born).contains e'.born) (fun y hy=>?_) _ e hem (by rw[hnew];rfl) A0k;simp only[adK,List.contains_append,Bool.not_or,ado] at hy;exact hy.1
   . intro a3 w5 h3;refine fZ hE (hH Ax hX _ _) 3 1 [(13,.bool true)] [] [] A0c A0a h3 A0d ?_;intro a3 w5 h3;refine DI hE hm' (hH Ax hX _ _) [] [] A0a h3 A0d ?_;intro a3 w5 h3;exact⟨.inr rfl,.inr ⟨_,_,Two.unframe h3 hh rfl hOg⟩⟩
def DZ(n:Nat)(ks:U)(r:V):Prop:=∃l:U,l.Perm ks∧r= .sl l.isEmpty n l (some 0)
theorem Yc{v:Value}{ty:TypeId}(hv:v.cells= #[v]):Step (fun _=>False) m w (upd m w.heap.size none) (w.alloc (.cells v.cells ty))∧Rd (upd m w.heap.size none) (w.alloc (.cells v.cells ty)) (.pointer (some ⟨w.heap.size,0,none⟩)) (.ip [.x v]):=by
 refine⟨Step.of_below ((Below.refl _ w).alloc (adp _) _) (fun k hk=>ah _ _ (aer hk)),.ip _ 0 _ (fun _=>v) A0k (fun k hk=>?_) (fun fr hf=>by rw[aj] at hf;cases hf) (fun k d hd=>?_)⟩
 . have hh:(w.alloc (.cells v.cells ty)).heap[w.heap.size]?=some (.cells v.cells ty (0,0)):=World.heap_new w _;rw[Box.cell hh,hv];have:k=0:=A1h
   subst this;rfl
 . cases k with
   |zero=>simp at hd;subst hd;exact .x _
   |succ k=>simp at hd
theorem xL(l:U):(l.map (fun k=>[k])).flatten=l:=by
 induction l with
 |nil=>rfl
 |cons a l ih=>simp[ih]
theorem BG{B:Nat}{ks:U}(hks:∀k∈ks,∃p:C3,k=aa p)(hlen:ks.length<=1000000)(hm:MapAt m w g ks vs)(hr:Rd m w (.p B) (.ip [.x (.map (some g))]))(hKg:iq<=g)(hj:(aI []).J w):
 Calls prog 76 #[.slice none 0 0,.func (.func 77) #[] #[.p B]] w fun e w'=>∃v m' r,e= .returned v∧DZ 3 ks r∧Rd m' w' v r∧(∀sz es k,r= .sl false sz es (some k)->∃g,RowIs m' w' v g sz es.length∧w.heap.size<=g)∧Step (fun _=>False) m w m' w'∧(aI []).J w':=by
 have hgw:g<w.heap.size:=by obtain⟨_,_,hh,_⟩:=hm;exact ag hh
 have hE:EnvOK (aY [] (fun _=>false) [] (fun i=>i==2) (fun _=>false)):=ge _ _ _ _ _ trivial trivial;have hm':(aY [] (fun _=>false) [] (fun i=>i==2) (fun _=>false)).P.follows .mixedOrders=true:=A0a
 refine uq (E:=aY [] (fun _=>false) [] (fun i=>i==2) (fun _=>false)) (n:=13) (k:=2) (us:=[.sl true 0 [] none,.x (.func (.func 77) #[] #[.p B])]) (Kn:=Kno.rd (.p B) (.ip [.x (.map (some g))])) hE func76 rfl ntmps76 A0c A0c ⟨.nil _ _,.x _,trivial⟩ rfl rfl hj (fun _=> .undef _) hr ?_;intro a h0;refine wpIn_seq (wZ hE hm' [(1,.x (.func (.func 77) #[] #[.p B])),(2,.ptr 2 0)] [(2,[.sl true 0 [] none])] A0a h0 A0d ?_);intro a w1 h1;replace h1:=h1.le (OK 2 3 11 [] [] rfl);refine wpIn_seq (wpIn_seq (wZ hE hm' [(2,.ptr 2 0),(6,.x (.func (.func 77) #[] #[.p B]))] [(2,[.sl true 3 [] (some 11)])] A0a h1 A0d ?_));intro a w1 h1;have hfn:a.eval (.tmp 6)= .func (.func 77) #[] #[.p B]:=by obtain⟨m1,O1,hn,_⟩:=h1;exact hn.read_x 6 A0g
 refine wpIn_block ?_
 refine Bj hE hm' h1 (fun i=>i==7||(i==5||(i==8||(i==9||(i==10||i==11))))) hfn (fun a w=>call77 a w) (Ok:=OkK ks) (Done:=QO ks) (G:=fun k=>k=g) (fun k hk=>⟨by rw[hk];exact hgw,fun h=>h⟩) ?hit A0a A0a A0a A0a ?hps ?hlen
  (fun _=>True) (fun _=>[(2,.ptr 2 0)]) (fun pre=>[(2,[.sl pre.flatten.isEmpty 3 pre.flatten (some 11)])]) False [] [] trivial ?h0 (fun pre x=>[(2,.ptr 2 0),(5,.ptr 5 0)]) (fun pre x=>[(2,[.sl pre.flatten.isEmpty 3 pre.flatten (some 11)]),(5,x.flatMap V.cells)]) ?assign ?round ?done ?stop
 case hit=>intro m3 O3 hn3 hkn hs3 m4 w4 hs4 hj4;exact BF hks ((hm.step hs3).step hs4) ⟨hkn.mono hs4.ext,trivial⟩ hKg
 case hps=>intro p hp;simp at hp;subst hp;exact⟨rfl,A0c⟩
 case hlen=>
  rintro pre x ⟨l,hl,_⟩;have:x∈l.map (fun k=>[k]):=by rw[<-hl];simp
  obtain⟨k,_,rfl⟩:=ads.1 this;rfl
 case h0=>simp +decide only[go_sem]<;>(repeat' first|rfl|constructor)
 case assign=>
  rintro pre x ⟨l,hl,hmem,hll⟩ _;have hx:x∈l.map (fun k=>[k]):=by rw[<-hl];simp
  obtain⟨kv,hkv,rfl⟩:=ads.1 hx;obtain⟨pc,rfl⟩:=hks kv (hmem kv hkv);simp +decide only[go_sem,aa,aeg,afT,aep]<;>(repeat' first|rfl|constructor)
 case round=>
  rintro pre x ⟨l,hl,hmem,hll⟩ _;have hx:x∈l.map (fun k=>[k]):=by rw[<-hl];simp
  obtain⟨kv,hkv,rfl⟩:=ads.1 hx;obtain⟨pc,rfl⟩:=hks kv (hmem kv hkv);have hfl:(pre++[[aa pc]]).flatten=pre.flatten++[aa pc]:=A0k
  have hln:pre.flatten.length+1=l.length:=by have h2:=ae6 List.flatten hl;rw[xL,hfl] at h2;rw[<-h2];simp
  generalize pre.flatten=q at hln hfl⊢;have hg:=db (E:=aY [] (fun _=>false) [] (fun i=>i==2) (fun _=>false)) (el:=33) (n:=3) mH mI mJ A0c rfl (es:=q) (v:=aa pc) (by rfl) A0b A0b;have hg2:∀(st:St) (nl:Bool) (t':Option Nat),bt (aY [] (fun _=>false) [] (fun i=>i==2) (fun _=>false)) st (some 11) 33 (.sl q.isEmpty 3 q (some 11)) (.sl nl 3 [.agg [.x (.string pc.1),.i pc.2.1,.i pc.2.2]] t')=some ⟨upd (strip 11 (strip 11 st.t)) 11 (.sl false 3 (q++[.agg [.x (.string pc.1),.i pc.2.1,.i pc.2.2]]) (some 11)),aG (aY [] (fun _=>false) [] (fun i=>i==2) (fun _=>false)) 11 (aG (aY [] (fun _=>false) [] (fun i=>i==2) (fun _=>false)) 11 st.b)⟩:=fun st nl t'=>hg st 11 11 nl t'
  have hem:(q++[aa pc]).isEmpty=false:=by cases q<;>rfl
  simp only[aa] at hem hfl⊢;simp +decide only[go_sem,hg2,hem,hfl,aa,aeg,afT,aep]<;>(repeat' first|rfl|constructor)
 case done=>intro xs b a' w' hd hinv h3;obtain⟨l,rfl,hp⟩:=hd;simp only[xL] at h3;refine wpIn_seq (wZ hE hm' [(4,.sl l.isEmpty 3 l (some 11))] [] A0a h3 A0d ?_);intro a4 w4 h4;exact wpIn_ret ⟨.inr rfl,_,_,_,_,_,_,h4,.inl (by simp only[results76];rfl),l,hp,rfl⟩
 case stop=>intro b a' w' hrb h3;exact hrb.elim
def uL{α:Type}(L:List α):U:=L.map fun _=> .agg []
section
variable{α:Type}[DecidableEq α]{P:Program}{enc:α->V}{kt:TypeId}
def bW(L:List α)(c:α):List α:=if c∈L then L else L++[c]
theorem qn(heq:∀a b,vp P 20 kt (enc a) (enc b)=some (decide (a=b)))(c:α):∀(L:List α) (i:Nat),(c∉L∧iF P kt (enc c) (L.map enc) i=some none)∨(c∈L∧∃j,iF P kt (enc c) (L.map enc) i=some (some (i+j))∧L[j]?=some c)
 |[],_=> .inl ⟨A0k,rfl⟩
 | p ::L,i=>by
   have e:iF P kt (enc c) ((p::L).map enc) i=(match vp P 20 kt (enc c) (enc p) with
    |some true=>some (some i)
    |some false=>iF P kt (enc c) (L.map enc) (i+1)
    |none=>none):=rfl
   rw[e,heq];by_cases h:c=p
   . right;rw[ac0 h];exact⟨by simp[h],0,rfl,by simp[h]⟩
   . rw[Io h];rcases qn heq c L (i+1) with⟨h1,h2⟩|⟨h1,j,h2,h3⟩
     . exact .inl ⟨by simp[h,h1],h2⟩
     . exact .inr ⟨by simp[h1],j+1,by show iF _ _ _ _ _=_;rw[h2];congr 2;omega,h3⟩
def inS(L:List α)(c:α):Bool:=decide (c∈L)
omit [DecidableEq α] in
theorem SL(L:List α)(i:Nat):(uL L).set i (.agg [])=uL L:=by
 apply aeB;intro j;rw[adX];split
 . rename_i e;subst e;split
   . rename_i hl;have hl':i<L.length:=by simpa[uL] using hl
     simp[uL,io hl']
   . rename_i hl;rw[adM A0b]
 . rfl
variable{t et:TypeId}
theorem D3(ht:P.underlying t=some (.map kt et))(heq:∀a b,vp P 20 kt (enc a) (enc b)=some (decide (a=b)))(hok:∀a,fg P kt (enc a)=true)(L:List α)(c:α):
 ns P t (L.map enc) (uL L) (enc c) (.agg [])=some ((bW L c).map enc,uL (bW L c)):=by
 unfold ns;rw[ht];simp only;rw[adl ⟨hok c,rfl⟩];rcases qn heq c L 0 with⟨h1,h2⟩|⟨h1,j,h2,h3⟩
 . rw[h2];simp[bW,h1,uL]
 . have h3':L[0+j]?=some c:=by rw[adi];exact h3
   rw[h2];simp only[];rw[adl (by rw[ac9,h3'];rfl),SL];simp[bW,h1]
theorem Kx(ht:P.underlying t=some (.map kt et))(hz:aO P et=some (.agg []))(heq:∀a b,vp P 20 kt (enc a) (enc b)=some (decide (a=b)))(hok:∀a,fg P kt (enc a)=true)(s:Nat)(L:List α)(c:α):
 ia P t (.mp s (L.map enc) (uL L)) (enc c) true=some (.tup [.agg [],.bool (inS L c)]):=by
 unfold inS;unfold ia;rw[ht,T6];simp only[hok,adB];rcases qn heq c L 0 with⟨h1,h2⟩|⟨h1,j,h2,h3⟩
 . rw[h2];simp[hz,h1]
 . rw[h2];have:(uL L)[j]?=some (.agg []):=by simp[uL,h3]
   simp[this,h1]
end
variable{α:Type}
theorem uy[DecidableEq α]{L:List α}{c:α}:inS L c=true↔c∈L:=by simp[inS]
theorem qo[DecidableEq α]{L:List α}{c x:α}:x∈bW L c↔x∈L∨x=c:=by
 unfold bW;by_cases h:c∈L
 . rw[adl h];exact⟨.inl,fun hx=>hx.elim id (fun e=>e▸h)⟩
 . rw[adq h];simp
theorem qp[DecidableEq α]{L:List α}{c:α}(hn:L.Nodup):(bW L c).Nodup:=by
 unfold bW;by_cases h:c∈L
 . rw[adl h];exact hn
 . rw[adq h,aeH];exact⟨hn,A0k,fun a ha b hb=>by rw[adj.1 hb];exact fun e=>h (e▸ha)⟩
theorem Ky[DecidableEq α](L:List α)(c:α):(bW L c).length<=L.length+1:=by
 unfold bW;by_cases h:c∈L
 . rw[adl h];omega
 . rw[adq h];simp
theorem Gy(a b:C3):vp prog 20 33 (aa a) (aa b)=some (decide (a=b)):=by
 obtain⟨s,c,r⟩:=a;obtain⟨s',c',r'⟩:=b;have e:decide (((s,c,r):C3)=(s',c',r'))=(decide (s=s')&&(decide (c=c')&&decide (r=r'))):=by rw[<-agD,<-agD];exact agz.2 A0k
 rw[e];simp +decide only[go_sem,aa]
theorem xM(a:C3):fg prog 33 (aa a)=true:=by obtain⟨s,c,r⟩:=a;unfold fg;simp +decide [go_sem,aa,plainK,rB,dp]
theorem D4(a b:R2):vp prog 20 72 (rgV a) (rgV b)=some (decide (a=b)):=by
 obtain⟨⟨s,c,r⟩,s2,c2,r2⟩:=a;obtain⟨⟨s',c',r'⟩,s2',c2',r2'⟩:=b;have e:decide ((((s,c,r),(s2,c2,r2)):R2)=((s',c',r'),(s2',c2',r2')))=((decide (s=s')&&(decide (c=c')&&decide (r=r')))&&(decide (s2=s2')&&(decide (c2=c2')&&decide (r2=r2')))):=by simp only[<-agD];exact agz.2 (by simp[and_assoc])
 rw[e];simp +decide only[go_sem,rgV]
theorem sV(a:R2):fg prog 72 (rgV a)=true:=by obtain⟨⟨s,c,r⟩,s2,c2,r2⟩:=a;unfold fg;simp +decide [go_sem,rgV,plainK,rB,dp]
theorem Kz(L:List C3)(c:C3):ns prog 109 (L.map aa) (uL L) (aa c) (.agg [])=some ((bW L c).map aa,uL (bW L c)):=D3 underlying109 Gy xM L c
theorem Pi(L:List R2)(c:R2):ns prog 108 (L.map rgV) (uL L) (rgV c) (.agg [])=some ((bW L c).map rgV,uL (bW L c)):=D3 underlying108 D4 sV L c
theorem KA(s:Nat)(L:List R2)(c:R2):ia prog 108 (.mp s (L.map rgV) (uL L)) (rgV c) true=some (.tup [.agg [],.bool (inS L c)]):=Kx underlying108 QB D4 sV s L c
open Go Go.RowKit Go.Sort
theorem BH(g:Nat)(w:World):Calls prog 62 #[.map (some g)] w fun e w'=>e= .returned (.func (.func 77) #[] #[.pointer (some ⟨w.heap.size,0,none⟩)])∧w'=w.alloc (.cells #[.map (some g)] 109):=by
 go_enter func62,ntmps62
 go_wp2
 go_ret
 exact⟨rfl,rfl⟩
theorem KB{B:Nat}{ks:U}(hks:∀k∈ks,∃p:C3,k=aa p)(hlen:ks.length<=1000000)(hm:MapAt m w g ks vs)(hr:Rd m w (.p B) (.ip [.x (.map (some g))]))(hKg:iq<=g)(hj:(aI []).J w):
 Calls prog 61 #[.func (.func 77) #[] #[.p B]] w fun e w'=>∃v m' r,e= .returned v∧DZ 3 ks r∧Rd m' w' v r∧(∀sz es k,r= .sl false sz es (some k)->∃g,RowIs m' w' v g sz es.length∧w.heap.size<=g)∧Step (fun _=>False) m w m' w'∧(aI []).J w':=by
 have H:=BG hks hlen hm hr hKg hj
 go_enter func61,ntmps61
 go_wp2_with (go_at_call 76;((with_reducible refine H.mono ?_);rintro e w1 ⟨v,m1,r,rfl,h1,h2,h3,h4,h5⟩))
 go_ret
 exact⟨v,m1,r,rfl,h1,h2,h3,h4,h5⟩
mutual
theorem xN:∀a:Nd,(allN a).length<=lw a
 | .leaf h=>by simp only[allN,f8,lw];split<;>simp
 | .mk h l=>by
   have:=xO l;have h2:(f8 h).length<=1:=by unfold f8;split<;>simp
   simp only[allN,lw,adh];omega
theorem xO:∀l:List Nd,(allL l).length<=cntL l
 |[]=>by simp[allL]
 |n::l=>by have:=xN n;have:=xO l;simp only[allL,cntL,adh];omega
end
theorem nM{E:Env}{ops:List Oper}{Q:Exit->Act->World->Prop}{a:Act}{i:Nat}{rest:List Nat}{o:Oper}{d:Tmp}{f:FuncId}{args:Array Operand}{ts:Array TypeId}{R:Ending->World->Prop}(hi:ops[i]?=some o)(hop:o.op= .call {callee:= .value (.func f),args:=args,argTypes:=ts})(hd:o.dst=some d)(hg:o.guard=none)
 (hcall:∀args w,(callFunc f args).run E.P w= .ok (.enter f args) w) (hc:Calls E.P f (args.map a.eval) w R)
 (hR:∀e w',R e w'->∃v,e= .returned v∧wpOpsIn (bg none) 0 E.P ⟨ops⟩ Q rest (a.put (some d) v) w'):wpOpsIn (bg none) 0 E.P ⟨ops⟩ Q (i::rest) a w:=by
 rw[wpOpsIn_cons];unfold wpOpIn;have hi':(⟨ops⟩:Array Oper)[i]?=some o:=A0m
 rw[hi'];simp only;rw[adl A0u];refine⟨fun _ _=>trivial,?_⟩;rw[Oper.semAt_eq _ _ _ A0J];have hrun:(execOp a.eval o).run E.P w= .ok (.enter f (args.map a.eval)) w:=by simp only[execOp,hop,resolve,Gc,Act.eval,Deferred.ofValue,Gd,Ge,invoke];simpa using hcall _ _
 rw[hrun];refine⟨(fun e=>by cases e),cm.2 (hc.mono ?_)⟩;intro e w' hr;obtain⟨v,rfl,hK⟩:=hR e w' hr;show wpOpsIn (bg none) 0 E.P ⟨ops⟩ Q rest (a.put o.dst v) w';rw[hd];exact hK

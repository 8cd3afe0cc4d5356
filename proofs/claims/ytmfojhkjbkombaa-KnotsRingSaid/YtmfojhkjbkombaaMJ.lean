/- The iterators of maps.Keys: over cells, over texts. -/
import Derived.Test.YtmfojhkjbkombaaML
import Derived.Test.YtmfojhkjbkombaaMI
import Derived.Test.YtmfojhkjbkombaaMG
import Derived.Test.YtmfojhkjbkombaaMAd
namespace Go.Proofs.Ytmfojhkjbkombaa
set_option linter.unusedSimpArgs false
set_option maxHeartbeats 8000000
set_option maxRecDepth 100000
open Go Go.RowKit
open Go.ChangeMaps (setBlock)
def Yl (ks:List V) (pre:List (List V)):Prop:=∃l:List V,pre=l.map (fun k=>[k])∧(∀k∈l,k∈ks)∧l.length<=ks.length
def Mo (ks:List V) (xs:List (List V)):Prop:=∃l:List V,xs=l.map (fun k=>[k])∧l.Perm ks
variable {m:Lim} {w:World} {g:Nat} {vs:List V}
theorem yK {lb:Array Value} {ks:List V} (hks:∀k∈ks,∃p:C3,k=aa p) (hm:MapAt m w g ks vs) (hr:RdL m w lb.toList [.ip [.x (.map (some g))]]) (hKg:fV<=g):iS (aF []) (fun k=>k=g) 58 lb (Yl ks) (Mo ks) m w:=by
 obtain⟨ents,clock,hh,hrd,hlt,hnd,_⟩:=hm;have hgw:=ae hh;obtain⟨ps,hps⟩:∃ps,ps=ents.toList.zip ks:=⟨_,rfl⟩;have hlen:=hrd.len.1;have hp1:ps.map (fun p=>p.1)=ents.toList:=by rw[hps];exact List.map_fst_zip A0c
 have hp2:ps.map (fun p=>p.2)=ks:=by rw[hps];exact List.map_snd_zip A0c
 have hpb:(ps.map fun p=>p.1.born).Nodup:=by
  have:(ps.map fun p=>p.1.born)=(ps.map fun p=>p.1).map (·.born):=by rw[aat];rfl
  rw[this,hp1];exact hnd
 have hpk:∀p∈ps,p.2.val=some p.1.key:=fun p hp=>by obtain⟨i,hi⟩:=aaO hp;rw[hps,List.getElem?_zip_eq_some] at hi;obtain⟨k,v,q1,_,q2,_⟩:=hrd.get i p.1 hi.1;rw[q1] at hi;cases hi.2;exact q2.2
 refine rk (E:=aF []) (n:=14) (us:=[.ip [.x (.map (some g))]]) Try.func58 rfl Try.ntmps58 Try.results58 A0l A0b hr rfl (fun g=> .undef _) ?_;intro l A Ax a0 O hA hX hy h0 hOG;have hE:EnvOK (aF []):=bO _ trivial;have hm':(aF []).P.follows .mixedOrders=true:=A0a
 refine wpIn_seq (wpIn_region ?_);refine eQ hE (hA []) 0 1 [(0,.x (.func (.yield l) #[] #[])),(4,.x (.map (some g)))] [] [1] A0b A0a h0 A0d ?_;clear h0 a0;intro a w1 h1;obtain⟨m1,Oi,O1,hn,ha,hdis,h4,h5,h6⟩:=h1;have hOg: ¬O g:=fun h=>hOG g h rfl
 have hsg:=h6.same g hgw hOg;have hh1:w1.heap[g]?=some (.map ents clock):=hsg.1.trans hh;have he4:a.eval (.tmp 4)= .map (some g):=hn.read_x 4 A0g;have hO1g: ¬O1 g:=fun h=>by rcases h5 g h with h|h;exact hOg h;exact absurd hgw (Z4.2 h)
 have hbl:Below w1.heap.size w1 (w1.alloc (.mapIter (some g) clock #[] clock)):=(Below.refl _ w1).alloc (Zt _) _;have hJ1:(aF []).J (w1.alloc (.mapIter (some g) clock #[] clock)):=hE.keep [] _ _ (fun x hx=>by cases hx) hn.J ⟨hbl.os,hbl.tape,hbl.output,hbl.size,fun k hk _=>hbl.block k hk⟩;have hO1r: ¬O1 w1.heap.size:=fun h=>act _ ((hA []).lt _ _ _ ha _ h).1
 have hKr:(aF []).K<=w1.heap.size:=hE.high _ hn.J;have hgr:g≠w1.heap.size:=by have:=ae hh1;omega
 rw[wpOpsIn_cons]
 refine eB (v:= .pointer (some ⟨w1.heap.size,0,none⟩)) (w':=w1.alloc (.mapIter (some g) clock #[] clock)) rfl rfl A0J (by simp only[execOp,he4,Sem.run_bind,jF (P:=Try.prog) Try.underlying92 hh1,Result.andThen_ok,Sem.run_pure,fW]) ?_
 have hst:Step (fun _=>False) m1 w1 m1 (w1.alloc (.mapIter (some g) clock #[] clock)):=Step.of_below hbl (fun _ _=>rfl)
 have h2:Two (aF []) 14 (fun k=>O k∨k=g) m w (KeyFr A g w1.heap.size ents clock (m g) [] []) ((am [(0,.x (.func (.yield l) #[] #[])),(4,.x (.map (some g)))] []).put (some 5) (V.x (.pointer (some ⟨w1.heap.size,0,none⟩))).bare) (a.put (some 5) (.pointer (some ⟨w1.heap.size,0,none⟩))) (w1.alloc (.mapIter (some g) clock #[] clock)):=
  Two.raw (A':=KeyFr A g w1.heap.size ents clock (m g) [] []) (S:=fun _=>False) (O':=fun k=>O1 k∨k=g∨k=w1.heap.size) hn hst (fun _ _ h=>h) hJ1
   ⟨O1,(hA []).stab _ _ _ _ _ _ ha hst (fun _ _ h=>h) hJ1,hO1g,hO1r,hgr,fun _=>acj,(Below.heap_alloc _ _ _ (ae hh1)).trans hh1,hsg.2,World.heap_new _ _⟩
   (fun k hk ho=>by
    rcases hk with hk|rfl|rfl
    . exact hdis k hk ho
    . exact absurd hgw (Z4.2 (h4 _ ho))
    . exact act _ (hn.lt _ ho)) h4 (fun k hk=>by
    rcases hk with hk|rfl|rfl
    . rcases h5 k hk with h|h
      . exact .inl (.inl h)
      . exact .inr h
    . exact .inl (.inr rfl)
    . exact .inr h6.ext.size) (h6.mono (fun k _ h=> .inl h)) (fun _ _ h=>h.elim) A0b (.x _)
 generalize w1.heap.size=r at h2 hgr hKr;clear hn ha hdis h4 h5 h6 hO1g hO1r he4 hst hJ1 hbl hh1;generalize w1.alloc _=w2 at h2⊢;have hH:∀(B:List (List V)->(Nat->Prop)->Lim->World->Prop) (hB:∀pre,Holds (aF []) (B pre)) (sp sq:List (MapEntry×V)),Holds (aF []) (KeyFr B g r ents clock (m g) sp sq):=fun B hB sp sq=>KeyFr.holds hB hKg hKr
 replace h2:=h2.le (st':=am [(0,.x (.func (.yield l) #[] #[])),(5,.x (.pointer (some ⟨r,0,none⟩)))] []) (aG A0d trivial);refine(show wpOpsIn (aX none) 0 _ _ _ [] _ _ from ?_);refine wpIn_block ?_;refine cm (X:=List (MapEntry×V)) (fun sp a' w'=>(∀p∈sp,p∈ps)∧(sp.map fun p=>p.1.born).Nodup∧Two (aF []) 14 (fun k=>O k∨k=g) m w (KeyFr A g r ents clock (m g) sp sp) (am [(0,.x (.func (.yield l) #[] #[])),(5,.x (.pointer (some ⟨r,0,none⟩)))] []) a' w') (fun sp=>(ents.toList.filter fun e=> !(sp.map fun p=>p.1.born).contains e.born).length) [] ⟨(fun p hp=>by cases hp),Z8,h2⟩ ?_;clear h2 w2;rintro sp a2 w2 ⟨hsub,hspn,h2⟩;refine wpIn_seq (wpIn_region ?_);show wpOpsIn (aX none) 0 _ _ _ (0::List.range' 1 1++[]) _ _;rw[aan,wpOpsIn_cons];obtain⟨m2,Oi,O2,hn,hfr,hdis,h4,h5,h6⟩:=h2;have hfr':=hfr;obtain⟨O1,k1,k2,k3,k4,k5,k6,k7,k8⟩:=hfr';have he5:a2.eval (.tmp 5)= .pointer (some ⟨r,0,none⟩):=hn.read_x 5 A0g;have hcont:∀b:Nat,((sp.map fun p=>p.1.born).toArray.contains b)=(sp.map fun p=>p.1.born).contains b:=fun b=>by simp
 rcases run_next_at (P:=Try.prog) w2 0 r g clock clock _ ents clock k8 k6 hlt (Zt _) with⟨hz,hrun⟩|⟨e,he,w3,hw3,hrun⟩
 . --nothing is left
   refine eB (v:= .tuple #[.bool false]) (w':=w2) rfl rfl A0J A1e ?_;have h3:=Two.raw (A':=KeyFr A g r ents clock (m g) sp sp) (S:=fun _=>False) (d:=6) (v:= .tuple #[.bool false]) (u:= .tup [.x (.bool false)]) hn (Step.refl _ _ _) (fun _ _ h=>h) hn.J hfr hdis h4 h5 h6 (fun _ _ h=>h.elim) A0b (Rd.tup_iff.2 ⟨_,rfl,.x _,trivial⟩);rw[dM] at h3;refine eQ hE (hH A hA sp sp) 1 1 [(7,.x (.bool false))] [] [] A0b A0a h3 A0d ?_;clear h3;intro a3 w3 h3;refine wpIn_seq (AE hE hm' (hH A hA sp sp) 0 [] [] A0a h3 A0d ?_);clear h3 a3 w3;intro a3 w3 h3;have hperm:sp.Perm ps:=ua hpb hsub hspn (fun p hp=>by
    have hz':Go.leftOf ents (sp.map fun p=>p.1.born).toArray= #[]:=aaR hz;have:p.1∈ents.toList:=by rw[<-hp1];exact ZA.2 ⟨p,hp,rfl⟩
    unfold Go.leftOf at hz';rw[Array.filter_eq_empty_iff] at hz';have:=hz' p.1 (by simpa using this);rw[hcont] at this;simpa using this)
   exact⟨.inl rfl,.inl ⟨_,_,⟨sp.map fun p=>p.2,by rw[aat];rfl,by rw[<-hp2];exact hperm.map _⟩,Two.unframe h3 hh rfl hOg⟩⟩
 . --an entry has come
   obtain⟨hem,hnew⟩:=mem_left he;rw[hcont] at hnew;obtain⟨pe,hpe,rfl⟩:∃p∈ps,p.1=e:=by rw[<-hp1] at hem;obtain⟨p,hp,rfl⟩:=ZA.1 hem;exact⟨p,hp,rfl⟩
   obtain⟨e,kv⟩:=pe;simp only at hem hnew hrun;have hkey:=hpk _ hpe;simp only at hkey;have hkin:kv∈ks:=by rw[<-hp2];exact ZA.2 ⟨_,hpe,rfl⟩
   obtain⟨pc,rfl⟩:=hks kv hkin;have hkrd:∀(m:Lim) (w:World),Rd m w e.key (aa pc):=fun m w=>by have hk2:(aa pc).val=some e.key:=hkey;simp only[V.val,aa,abq,V.one,List.mapM_nil,abU,abt,aaH,aah,ZR] at hk2;rw[<-hk2];exact Rd.agg_iff.2 ⟨_,rfl,.x _,.x _,.x _,trivial⟩
   have hseen:(sp.map fun p=>p.1.born).toArray.push e.born=((sp++[(e,aa pc)]).map fun p=>p.1.born).toArray:=A0l
   rw[hseen] at hrun;have hs3:Step (fun k=>k=r) m2 w2 m2 (setBlock w3 r (.mapIter (some g) clock ((sp++[(e,aa pc)]).map fun p=>p.1.born).toArray clock)):=Step.iter hw3 k8;have hr3:=jE (o:= .mapIter (some g) clock ((sp++[(e,aa pc)]).map fun p=>p.1.born).toArray clock) hw3 k8;have hJ3:(aF []).J (setBlock w3 r (.mapIter (some g) clock ((sp++[(e,aa pc)]).map fun p=>p.1.born).toArray clock)):=hE.keep [r] _ _ (fun x hx=>by rw[Zn.1 hx];exact hKr) hn.J (hs3.bel (fun k _ h=>Zn.2 h));refine eB (v:= .tuple #[.bool true,e.key,e.val]) (w':=setBlock w3 r (.mapIter (some g) clock ((sp++[(e,aa pc)]).map fun p=>p.1.born).toArray clock)) rfl rfl A0J A1e ?_;have hOr:O2 r:=(k5 r).2 (.inr (.inr rfl))
   have h3:=Two.raw (A':=KeyFr A g r ents clock (m g) sp (sp++[(e,aa pc)])) (S:=fun k=>k=r) (d:=6) (v:= .tuple #[.bool true,e.key,e.val]) (u:= .tup [.x (.bool true),.undef,.undef]) hn hs3 (fun k hk h=>hdis r hOr (h▸hk)) hJ3
    ⟨O1,(hA _).stab _ _ _ _ _ _ k1 hs3 (fun k hk h=>k3 (h▸hk)) hJ3,k2,k3,k4,k5,(hs3.same g (ae k6) k4).1.trans k6,k7,hr3⟩ hdis h4 h5 h6 (fun i hi h=>by
     subst h;rcases h5 _ hOr with h|h
     . exact h
     . exact absurd hi (Z4.2 h)) A0b (Rd.tup_iff.2 ⟨_,rfl,.x _,.undef _,.undef _,trivial⟩)
   rw[dM] at h3;clear hn hfr hdis h4 h5 h6 k1 k5 k6 k8 hs3 hr3 hJ3 hOr hrun he5 hw3 k2 k3 k7 k4;generalize setBlock w3 r _=w4 at h3;refine eQ hE (hH A hA sp _) 1 1 [(0,.x (.func (.yield l) #[] #[])),(5,.x (.pointer (some ⟨r,0,none⟩))),(7,.x (.bool true))] [] [] A0b A0a h3 A0d ?_;clear h3;intro a3 w5 h3;refine wpIn_seq (cB hE hm' (hH A hA sp _) [(0,.x (.func (.yield l) #[] #[])),(5,.x (.pointer (some ⟨r,0,none⟩)))] [] A0a h3 A0d ?_);clear h3 a3 w5;intro a3 w5 h3;refine wpIn_block (wpIn_seq (wpIn_region ?_));show wpOpsIn (aX none) 0 _ _ _ (0::List.range' 1 3++[]) _ _;rw[aan,wpOpsIn_cons];obtain⟨m2,Oi,O2,hn,hfr,hdis,h4,h5,h6⟩:=h3;have hfr':=hfr;obtain⟨O1,k1,k2,k3,k4,k5,k6,k7,k8⟩:=hfr';have he5:a3.eval (.tmp 5)= .pointer (some ⟨r,0,none⟩):=hn.read_x 5 A0g;have hen:=run_entry_at (P:=Try.prog) w5 r g clock (sp.map fun p=>p.1.born).toArray ents clock e (by rw[hseen];exact k8) k6 hem hnd;refine eB (v:= .tuple #[e.key,e.val]) (w':=w5) rfl rfl A0J (by simp only[execOp,he5,Sem.run_bind,fW];rw[hen];rfl) ?_;have h3:=Two.raw (A':=KeyFr A g r ents clock (m g) sp (sp++[(e,aa pc)])) (S:=fun _=>False) (d:=8) (v:= .tuple #[e.key,e.val]) (u:= .tup [aa pc,.undef]) hn (Step.refl _ _ _) (fun _ _ h=>h) hn.J hfr hdis h4 h5 h6 (fun _ _ h=>h.elim) A0b (Rd.tup_iff.2 ⟨_,rfl,hkrd _ _,.undef _,trivial⟩);rw[dM] at h3;clear hn hfr hdis h4 h5 h6 k1 k5 k6 k8 he5 hen k2 k3 k4 k7;refine eQ hE (hH A hA sp _) 1 3 [(0,.x (.func (.yield l) #[] #[])),(5,.x (.pointer (some ⟨r,0,none⟩))),(3,.ptr 3 0)] [(3,[.x (.string pc.1),.x (.int .i64 pc.2.1),.x (.int .i64 pc.2.2)])] [] A0b A0a h3 A0E ?_;clear h3 a3 w5;intro a3 w5 h3;refine wpIn_seq (wpIn_region ?_);refine eQ hE (hH A hA sp _) 0 2 [(0,.x (.func (.yield l) #[] #[])),(5,.x (.pointer (some ⟨r,0,none⟩))),(10,.x (.func (.yield l) #[] #[])),(11,aa pc)] [] [2,3] A0b A0a h3 A0E ?_;clear h3 a3 w5;intro a3 w5 h3;rw[wpOpsIn_cons];have hsub2:∀p∈sp++[(e,aa pc)],p∈ps:=fun p hp=>by
    rcases Zv.1 hp with hp|hp
    . exact hsub p hp
    . rw[Zn.1 hp];exact hpe
   have hspn2:((sp++[(e,aa pc)]).map fun p=>p.1.born).Nodup:=by
    rw[ZY,aaI];refine⟨hspn,A0l,fun b hb c hc e1=>?_⟩;have hc1:c=e.born:=by simpa using hc
    subst hc1;subst e1;have:(sp.map fun p=>p.1.born).contains e.born=true:=by simpa using hb
    rw[this] at hnew;cases hnew
   have hokp:Yl ks ((sp.map fun p=>[p.2])++[[aa pc]]):=⟨(sp++[(e,aa pc)]).map (fun p=>p.2),A0l,fun k hk=>by obtain⟨p,hp,rfl⟩:=ZA.1 hk;rw[<-hp2];exact ZA.2 ⟨p,hsub2 p hp,rfl⟩,by rw[io,<-hp2,io];exact d8 (dP _ hspn2) hsub2⟩
   have hmap:((sp++[(e,aa pc)]).map fun p=>[p.2])=(sp.map fun p=>[p.2])++[[aa pc]]:=A0l
   refine k9 (n:=14) (A1:=KeyFr A g r ents clock (m g) (sp++[(e,aa pc)]) (sp++[(e,aa pc)])) (Ax:=KeyFr Ax g r ents clock (m g) (sp++[(e,aa pc)]) (sp++[(e,aa pc)])) (l:=l) rfl (d:=12) rfl A0b rfl rfl rfl h3 (u:=aa pc) rfl (by rw[aa,dc];rfl) (fun Of m1 w6 vs hfr hv=>?_) ?_ ?_
   . obtain⟨O1,k1,k2,k3,k4,k5,k6,k7,k8⟩:=hfr;refine KeyFr.yield (fun O1 k1=>?_) O1 k1 k2 k3 k4 k5 k6 k7 k8;rw[hmap];exact hy _ _ O1 m1 w6 vs hokp k1 (by rw[aa,dc] at hv;exact hv) rfl
   . clear h3 a3 w5;intro a3 w5 h3;refine eQ hE (hH A hA _ _) 3 1 [(0,.x (.func (.yield l) #[] #[])),(5,.x (.pointer (some ⟨r,0,none⟩))),(13,.x (.bool false))] [] [] A0b A0a h3 A0d ?_;clear h3 a3 w5;intro a3 w5 h3;refine cB hE hm' (hH A hA _ _) [(0,.x (.func (.yield l) #[] #[])),(5,.x (.pointer (some ⟨r,0,none⟩)))] [] A0a h3 A0d ?_;clear h3 a3 w5;intro a3 w5 h3;refine⟨sp++[(e,aa pc)],⟨hsub2,hspn2,h3⟩,?_⟩;refine iT (fun e'=> !(sp.map fun p=>p.1.born).contains e'.born) (fun e'=> !((sp++[(e,aa pc)]).map fun p=>p.1.born).contains e'.born) (fun y hy=>?_) _ e hem (by rw[hnew];rfl) A0l;simp only[ZY,List.contains_append,Bool.not_or,Zq] at hy;exact hy.1
   . clear h3 a3 w5;intro a3 w5 h3;refine eQ hE (hH Ax hX _ _) 3 1 [(13,.x (.bool true))] [] [] A0b A0a h3 A0d ?_;clear h3 a3 w5;intro a3 w5 h3;refine AF hE hm' (hH Ax hX _ _) [] [] A0a h3 A0d ?_;clear h3 a3 w5;intro a3 w5 h3;exact⟨.inr rfl,.inr ⟨_,_,Two.unframe h3 hh rfl hOg⟩⟩
def AW (n:Nat) (ks:List V) (r:V):Prop:=∃l:List V,l.Perm ks∧r= .sl l.isEmpty n l (some 0)
theorem S8 {v:Value} {ty:TypeId} (hv:v.cells= #[v]):Step (fun _=>False) m w (upd m w.heap.size none) (w.alloc (.cells v.cells ty))∧Rd (upd m w.heap.size none) (w.alloc (.cells v.cells ty)) (.pointer (some ⟨w.heap.size,0,none⟩)) (.ip [.x v]):=by
 refine⟨Step.of_below ((Below.refl _ w).alloc (Zt _) _) (fun k hk=>ag _ _ (aaq hk)),.ip _ 0 _ (fun _=>v) A0l (fun k hk=>?_) (fun fr hf=>by rw[ai] at hf;cases hf) (fun k d hd=>?_)⟩
 . have hh:(w.alloc (.cells v.cells ty)).heap[w.heap.size]?=some (.cells v.cells ty (0,0)):=World.heap_new w _;rw[Box.cell hh,hv];have:k=0:=A05
   subst this;rfl
 . cases k with
   |zero=>simp at hd;subst hd;exact .x _
   |succ k=>simp at hd
theorem uI (l:List V):(l.map (fun k=>[k])).flatten=l:=by
 induction l with
 |nil=>rfl
 |cons a l ih=>simp[ih]
theorem yL {B:Nat} {ks:List V} (hks:∀k∈ks,∃p:C3,k=aa p) (hlen:ks.length<=1000000) (hm:MapAt m w g ks vs) (hr:Rd m w (.pointer (some ⟨B,0,none⟩)) (.ip [.x (.map (some g))])) (hKg:fV<=g) (hj:(aF []).J w):
 Calls Try.prog 57 #[.slice none 0 0,.func (.func 58) #[] #[.pointer (some ⟨B,0,none⟩)]] w fun e w'=>∃v m' r,e= .returned v∧AW 3 ks r∧Rd m' w' v r∧(∀sz es k,r= .sl false sz es (some k)->∃g,RowIs m' w' v g sz es.length∧w.heap.size<=g)∧Step (fun _=>False) m w m' w'∧(aF []).J w':=by
 have hgw:g<w.heap.size:=by obtain⟨_,_,hh,_⟩:=hm;exact ae hh
 have hE:EnvOK (bZ [] (fun _=>false) [] (fun i=>i==2) (fun _=>false)):=kq _ _ _ _ _ trivial trivial;have hm':(bZ [] (fun _=>false) [] (fun i=>i==2) (fun _=>false)).P.follows .mixedOrders=true:=A0a
 refine rp (E:=bZ [] (fun _=>false) [] (fun i=>i==2) (fun _=>false)) (n:=13) (k:=2) (us:=[.sl true 0 [] none,.x (.func (.func 58) #[] #[.pointer (some ⟨B,0,none⟩)])]) (Kn:=Kno.rd (.pointer (some ⟨B,0,none⟩)) (.ip [.x (.map (some g))])) hE Try.func57 rfl Try.ntmps57 A0b A0b ⟨.nil _ _,.x _,trivial⟩ rfl rfl hj (fun _=> .undef _) hr ?_;intro a h0;refine wpIn_seq (t8 hE hm' [(1,.x (.func (.func 58) #[] #[.pointer (some ⟨B,0,none⟩)])),(2,.ptr 2 0)] [(2,[.sl true 0 [] none])] A0a h0 A0d ?_);clear h0 a;intro a w1 h1;replace h1:=h1.le (KP 2 3 11 [] [] rfl);refine wpIn_seq (wpIn_seq (t8 hE hm' [(2,.ptr 2 0),(6,.x (.func (.func 58) #[] #[.pointer (some ⟨B,0,none⟩)]))] [(2,[.sl true 3 [] (some 11)])] A0a h1 A0d ?_));clear h1 a w1;intro a w1 h1;have hfn:a.eval (.tmp 6)= .func (.func 58) #[] #[.pointer (some ⟨B,0,none⟩)]:=by obtain⟨m1,O1,hn,_⟩:=h1;exact hn.read_x 6 A0g
 refine wpIn_block ?_
 refine yp hE hm' h1 (fun i=>i==7||(i==5||(i==8||(i==9||(i==10||i==11))))) hfn (fun a w=>Try.call58 a w) (Ok:=Yl ks) (Done:=Mo ks) (G:=fun k=>k=g) (fun k hk=>⟨by rw[hk];exact hgw,fun h=>h⟩) ?hit A0a A0a A0a A0a ?hps ?hlen
  (fun _=>True) (fun _=>[(2,.ptr 2 0)]) (fun pre=>[(2,[.sl pre.flatten.isEmpty 3 pre.flatten (some 11)])]) False [] [] trivial ?h0 (fun pre x=>[(2,.ptr 2 0),(5,.ptr 5 0)]) (fun pre x=>[(2,[.sl pre.flatten.isEmpty 3 pre.flatten (some 11)]),(5,x.flatMap V.cells)]) ?assign ?round ?done ?stop
 case hit=>intro m3 O3 hn3 hkn hs3 m4 w4 hs4 hj4;exact yK hks ((hm.step hs3).step hs4) ⟨hkn.mono hs4.ext,trivial⟩ hKg
 case hps=>intro p hp;simp at hp;subst hp;exact⟨rfl,A0b⟩
 case hlen=>
  rintro pre x ⟨l,hl,_⟩;have:x∈l.map (fun k=>[k]):=by rw[<-hl];simp
  obtain⟨k,_,rfl⟩:=ZA.1 this;rfl
 case h0=>simp +decide (maxDischargeDepth:=200) only[go_sem,Nat.reduceBEq]<;>(repeat' first|rfl|constructor)
 case assign=>
  rintro pre x ⟨l,hl,hmem,hll⟩ _;have hx:x∈l.map (fun k=>[k]):=by rw[<-hl];simp
  obtain⟨kv,hkv,rfl⟩:=ZA.1 hx;obtain⟨pc,rfl⟩:=hks kv (hmem kv hkv);simp +decide (maxDischargeDepth:=200) only[go_sem,Nat.reduceBEq,aa,aag,abQ,aaw]<;>(repeat' first|rfl|constructor)
 case round=>
  rintro pre x ⟨l,hl,hmem,hll⟩ _;have hx:x∈l.map (fun k=>[k]):=by rw[<-hl];simp
  obtain⟨kv,hkv,rfl⟩:=ZA.1 hx;obtain⟨pc,rfl⟩:=hks kv (hmem kv hkv);have hfl:(pre++[[aa pc]]).flatten=pre.flatten++[aa pc]:=A0l
  have hln:pre.flatten.length+1=l.length:=by have h2:=abo List.flatten hl;rw[uI,hfl] at h2;rw[<-h2];simp
  generalize pre.flatten=q at hln hfl⊢;have hg:=ff (E:=bZ [] (fun _=>false) [] (fun i=>i==2) (fun _=>false)) (el:=25) (n:=3) Cf Cg Ch A0b rfl (es:=q) (v:=aa pc) (by rfl) A0c A0c;have hg2:∀(st:St) (nl:Bool) (t':Option Nat),cS (bZ [] (fun _=>false) [] (fun i=>i==2) (fun _=>false)) st (some 11) 25 (.sl q.isEmpty 3 q (some 11)) (.sl nl 3 [.agg [.x (.string pc.1),.x (.int .i64 pc.2.1),.x (.int .i64 pc.2.2)]] t')=some ⟨upd (strip 11 (strip 11 st.t)) 11 (.sl false 3 (q++[.agg [.x (.string pc.1),.x (.int .i64 pc.2.1),.x (.int .i64 pc.2.2)]]) (some 11)),aC (bZ [] (fun _=>false) [] (fun i=>i==2) (fun _=>false)) 11 (aC (bZ [] (fun _=>false) [] (fun i=>i==2) (fun _=>false)) 11 st.b)⟩:=fun st nl t'=>hg st 11 11 nl t'
  have hem:(q++[aa pc]).isEmpty=false:=by cases q<;>rfl
  simp only[aa] at hem hfl⊢;simp +decide (maxDischargeDepth:=200) only[go_sem,Nat.reduceBEq,hg2,hem,hfl,aa,aag,abQ,aaw]<;>(repeat' first|rfl|constructor)
 case done=>intro xs b a' w' hd hinv h3;obtain⟨l,rfl,hp⟩:=hd;simp only[uI] at h3;refine wpIn_seq (t8 hE hm' [(4,.sl l.isEmpty 3 l (some 11))] [] A0a h3 A0d ?_);intro a4 w4 h4;exact wpIn_ret ⟨.inr rfl,_,_,_,_,_,_,h4,.inl (by simp only[Try.results57];rfl),l,hp,rfl⟩
 case stop=>intro b a' w' hrb h3;exact hrb.elim
def uL {α:Type} (L:List α):List V:=L.map fun _=> .agg []
section
variable {α:Type} [DecidableEq α] {P:Program} {enc:α->V} {kt:TypeId}
def bA (L:List α) (c:α):List α:=if c∈L then L else L++[c]
theorem nZ (heq:∀a b,su P 20 kt (enc a) (enc b)=some (decide (a=b))) (c:α):∀(L:List α) (i:Nat),(c∉L∧gb P kt (enc c) (L.map enc) i=some none)∨(c∈L∧∃j,gb P kt (enc c) (L.map enc) i=some (some (i+j))∧L[j]?=some c)
 |[],_=> .inl ⟨A0l,rfl⟩
 | p ::L,i=>by
   have e:gb P kt (enc c) ((p::L).map enc) i=(match su P 20 kt (enc c) (enc p) with
    |some true=>some (some i)
    |some false=>gb P kt (enc c) (L.map enc) (i+1)
    |none=>none):=rfl
   rw[e,heq];by_cases h:c=p
   . right;rw[Zk h];exact⟨by simp[h],0,rfl,by simp[h]⟩
   . rw[Zl h];rcases nZ heq c L (i+1) with⟨h1,h2⟩|⟨h1,j,h2,h3⟩
     . exact .inl ⟨by simp[h,h1],h2⟩
     . exact .inr ⟨by simp[h1],j+1,by show gb _ _ _ _ _=_;rw[h2];congr 2;omega,h3⟩
def inS (L:List α) (c:α):Bool:=decide (c∈L)
omit [DecidableEq α] in
theorem N6 (L:List α) (i:Nat):(uL L).set i (.agg [])=uL L:=by
 apply aaz;intro j;rw[ZU];split
 . rename_i e;subst e;split
   . rename_i hl;have hl':i<L.length:=by simpa[uL] using hl
     simp[uL,eq hl']
   . rename_i hl;rw[ZM A0c]
 . rfl
variable {t et:TypeId}
theorem AX (ht:P.underlying t=some (.map kt et)) (heq:∀a b,su P 20 kt (enc a) (enc b)=some (decide (a=b))) (hok:∀a,dX P kt (enc a)=true) (L:List α) (c:α):
 kQ P t (L.map enc) (uL L) (enc c) (.agg [])=some ((bA L c).map enc,uL (bA L c)):=by
 unfold kQ;rw[ht];simp only;rw[Zp ⟨hok c,rfl⟩];rcases nZ heq c L 0 with⟨h1,h2⟩|⟨h1,j,h2,h3⟩
 . rw[h2];simp[bA,h1,uL]
 . have h3':L[0+j]?=some c:=by rw[Zm];exact h3
   rw[h2];simp only[];rw[Zp (by rw[Io,h3'];rfl),N6];simp[bA,h1]
theorem G0 (ht:P.underlying t=some (.map kt et)) (hz:aD P et=some (.agg [])) (heq:∀a b,su P 20 kt (enc a) (enc b)=some (decide (a=b))) (hok:∀a,dX P kt (enc a)=true) (s:Nat) (L:List α) (c:α):
 fM P t (.mp s (L.map enc) (uL L)) (enc c) true=some (.tup [.agg [],.x (.bool (inS L c))]):=by
 unfold inS;unfold fM;rw[ht,Ph];simp only[hok,ZD];rcases nZ heq c L 0 with⟨h1,h2⟩|⟨h1,j,h2,h3⟩
 . rw[h2];simp[hz,h1]
 . rw[h2];have:(uL L)[j]?=some (.agg []):=by simp[uL,h3]
   simp[this,h1]
end
variable {α:Type}
theorem rz [DecidableEq α] {L:List α} {c:α}:inS L c=true↔c∈L:=by simp[inS]
theorem n7 [DecidableEq α] {L:List α} {c x:α}:x∈bA L c↔x∈L∨x=c:=by
 unfold bA;by_cases h:c∈L
 . rw[Zp h];exact⟨.inl,fun hx=>hx.elim id (fun e=>e▸h)⟩
 . rw[Zs h];simp
theorem n8 [DecidableEq α] {L:List α} {c:α} (hn:L.Nodup):(bA L c).Nodup:=by
 unfold bA;by_cases h:c∈L
 . rw[Zp h];exact hn
 . rw[Zs h,aaI];exact⟨hn,A0l,fun a ha b hb=>by rw[Zn.1 hb];exact fun e=>h (e▸ha)⟩
theorem G1 [DecidableEq α] (L:List α) (c:α):(bA L c).length<=L.length+1:=by
 unfold bA;by_cases h:c∈L
 . rw[Zp h];omega
 . rw[Zs h];simp
theorem Dq (a b:C3):su Try.prog 20 25 (aa a) (aa b)=some (decide (a=b)):=by
 obtain⟨s,c,r⟩:=a;obtain⟨s',c',r'⟩:=b;have e:decide (((s,c,r):C3)=(s',c',r'))=(decide (s=s')&&(decide (c=c')&&decide (r=r'))):=by rw[<-acu,<-acu];exact acq.2 A0l
 rw[e];simp +decide only[go_sem,aa]
theorem uJ (a:C3):dX Try.prog 25 (aa a)=true:=by obtain⟨s,c,r⟩:=a;unfold dX;simp +decide [go_sem,aa,plainK,o3,cD]
theorem AY (a b:R2):su Try.prog 20 97 (rgV a) (rgV b)=some (decide (a=b)):=by
 obtain⟨⟨s,c,r⟩,s2,c2,r2⟩:=a;obtain⟨⟨s',c',r'⟩,s2',c2',r2'⟩:=b;have e:decide ((((s,c,r),(s2,c2,r2)):R2)=((s',c',r'),(s2',c2',r2')))=((decide (s=s')&&(decide (c=c')&&decide (r=r')))&&(decide (s2=s2')&&(decide (c2=c2')&&decide (r2=r2')))):=by simp only[<-acu];exact acq.2 (by simp[and_assoc])
 rw[e];simp +decide only[go_sem,rgV]
theorem qb (a:R2):dX Try.prog 97 (rgV a)=true:=by obtain⟨⟨s,c,r⟩,s2,c2,r2⟩:=a;unfold dX;simp +decide [go_sem,rgV,plainK,o3,cD]
theorem G3 (L:List C3) (c:C3):kQ Try.prog 92 (L.map aa) (uL L) (aa c) (.agg [])=some ((bA L c).map aa,uL (bA L c)):=AX Try.underlying92 Dq uJ L c
theorem K5 (L:List R2) (c:R2):kQ Try.prog 91 (L.map rgV) (uL L) (rgV c) (.agg [])=some ((bA L c).map rgV,uL (bA L c)):=AX Try.underlying91 AY qb L c
theorem G4 (s:Nat) (L:List R2) (c:R2):fM Try.prog 91 (.mp s (L.map rgV) (uL L)) (rgV c) true=some (.tup [.agg [],.x (.bool (inS L c))]):=G0 Try.underlying91 Py AY qb s L c
open Go Go.RowKit Go.Sort
theorem yM (g:Nat) (w:World):Calls Try.prog 43 #[.map (some g)] w fun e w'=>e= .returned (.func (.func 58) #[] #[.pointer (some ⟨w.heap.size,0,none⟩)])∧w'=w.alloc (.cells #[.map (some g)] 92):=by
 go_enter Try.func43,Try.ntmps43
 go_wp2
 go_ret
 exact⟨rfl,rfl⟩
theorem G5 {B:Nat} {ks:List V} (hks:∀k∈ks,∃p:C3,k=aa p) (hlen:ks.length<=1000000) (hm:MapAt m w g ks vs) (hr:Rd m w (.pointer (some ⟨B,0,none⟩)) (.ip [.x (.map (some g))])) (hKg:fV<=g) (hj:(aF []).J w):
 Calls Try.prog 42 #[.func (.func 58) #[] #[.pointer (some ⟨B,0,none⟩)]] w fun e w'=>∃v m' r,e= .returned v∧AW 3 ks r∧Rd m' w' v r∧(∀sz es k,r= .sl false sz es (some k)->∃g,RowIs m' w' v g sz es.length∧w.heap.size<=g)∧Step (fun _=>False) m w m' w'∧(aF []).J w':=by
 have H:=yL hks hlen hm hr hKg hj
 go_enter Try.func42,Try.ntmps42
 go_wp2_with (go_at_call 57;((with_reducible refine H.mono ?_);rintro e w1 ⟨v,m1,r,rfl,h1,h2,h3,h4,h5⟩))
 go_ret
 exact⟨v,m1,r,rfl,h1,h2,h3,h4,h5⟩
mutual
theorem uK:∀a:Nd,(allN a).length<=rq a
 | .leaf h=>by simp only[allN,eS,rq];split<;>simp
 | .mk h l=>by
   have:=uM l;have h2:(eS h).length<=1:=by unfold eS;split<;>simp
   simp only[allN,rq,Zr];omega
theorem uM:∀l:List Nd,(allL l).length<=cntL l
 |[]=>by simp[allL]
 |n::l=>by have:=uK n;have:=uM l;simp only[allL,cntL,Zr];omega
end
theorem lw {E:Env} {ops:List Oper} {Q:Exit->Act->World->Prop} {a:Act} {i:Nat} {rest:List Nat} {o:Oper} {d:Tmp} {f:FuncId} {args:Array Operand} {ts:Array TypeId} {R:Ending->World->Prop} (hi:ops[i]?=some o) (hop:o.op= .call {callee:= .value (.func f),args:=args,argTypes:=ts}) (hd:o.dst=some d) (hg:o.guard=none)
 (hcall:∀args w,(callFunc f args).run E.P w= .ok (.enter f args) w) (hc:Calls E.P f (args.map a.eval) w R)
 (hR:∀e w',R e w'->∃v,e= .returned v∧wpOpsIn (aX none) 0 E.P ⟨ops⟩ Q rest (a.put (some d) v) w'):wpOpsIn (aX none) 0 E.P ⟨ops⟩ Q (i::rest) a w:=by
 rw[wpOpsIn_cons];unfold wpOpIn;have hi':(⟨ops⟩:Array Oper)[i]?=some o:=A0m
 rw[hi'];simp only;rw[Zp A0u];refine⟨fun _ _=>trivial,?_⟩;rw[Oper.semAt_eq _ _ _ A0G];have hrun:(execOp a.eval o).run E.P w= .ok (.enter f (args.map a.eval)) w:=by simp only[execOp,hop,resolve,Sem.run_bind,Act.eval,Deferred.ofValue,Sem.run_pure,Result.andThen_ok,invoke];simpa using hcall _ _
 rw[hrun];refine⟨(fun e=>by cases e),bH.2 (hc.mono ?_)⟩;intro e w' hr;obtain⟨v,rfl,hK⟩:=hR e w' hr;show wpOpsIn (aX none) 0 E.P ⟨ops⟩ Q rest (a.put o.dst v) w';rw[hd];exact hK
end Go.Proofs.Ytmfojhkjbkombaa

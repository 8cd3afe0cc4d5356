/- The iterators of maps.Keys: over cells, over texts. -/
import Derived.Test.YtalkmhjanlljhaaGreatML
import Derived.Test.YtalkmhjanlljhaaGreatMI
import Derived.Test.YtalkmhjanlljhaaGreatMG
import Derived.Test.YtalkmhjanlljhaaGreatMAd
namespace Go.Proofs.YtalkmhjanlljhaaGreat
set_option linter.unusedSimpArgs false
set_option maxHeartbeats 8000000
set_option maxRecDepth 100000
open Go Go.RowKit
open Go.ChangeMaps (setBlock)
def LH (ks:List V) (pre:List (List V)):Prop:=∃l:List V,pre=l.map (fun k=>[k])∧(∀k∈l,k∈ks)∧l.length<=ks.length
def zi (ks:List V) (xs:List (List V)):Prop:=∃l:List V,xs=l.map (fun k=>[k])∧l.Perm ks
variable {m:Lim} {w:World} {g:Nat} {vs:List V}
theorem xq {lb:Array Value} {ks:List V} (hks:∀k∈ks,∃p:C3,k=aa p) (hm:MapAt m w g ks vs) (hr:RdL m w lb.toList [.ip [.x (.map (some g))]]) (hKg:eu<=g):kg (au []) (fun k=>k=g) 83 lb (LH ks) (zi ks) m w:=by
 obtain⟨ents,clock,hh,hrd,hlt,hnd,_⟩:=hm;have hgw:=ae hh;obtain⟨ps,hps⟩:∃ps,ps=ents.toList.zip ks:=⟨_,rfl⟩;have hlen:=hrd.len.1;have hp1:ps.map (fun p=>p.1)=ents.toList:=by rw[hps];exact List.map_fst_zip (by omega)
 have hp2:ps.map (fun p=>p.2)=ks:=by rw[hps];exact XT (by omega)
 have hpb:(ps.map fun p=>p.1.born).Nodup:=by
  have:(ps.map fun p=>p.1.born)=(ps.map fun p=>p.1).map (·.born):=by rw[Wk];rfl
  rw[this,hp1];exact hnd
 have hpk:∀p∈ps,p.2.val=some p.1.key:=fun p hp=>by obtain⟨i,hi⟩:=VU hp;rw[hps,WI] at hi;obtain⟨k,v,q1,_,q2,_⟩:=hrd.get i p.1 hi.1;rw[q1] at hi;cases hi.2;exact q2.2
 refine qP (E:=au []) (n:=14) (us:=[.ip [.x (.map (some g))]]) Tryz.func83 rfl Tryz.ntmps83 Tryz.results83 (by simp) (by decide) hr rfl (fun g=> .undef _) ?_;intro l A Ax a0 O hA hX hy h0 hOG;have hE:EnvOK (au []):=aM _ trivial;have hm':(au []).P.follows .mixedOrders=true:=by kernel_rfl
 refine wpIn_seq (wpIn_region ?_);refine dX hE (hA []) 0 1 [(0,.x (.func (.yield l) #[] #[])),(4,.x (.map (some g)))] [] [1] (by decide) (by kernel_rfl) h0 (by simp +decide (maxDischargeDepth:=200) only[go_sem,Nat.reduceBEq]<;>(repeat' first|rfl|constructor)) ?_;clear h0 a0;intro a w1 h1;obtain⟨m1,Oi,O1,hn,ha,hdis,h4,h5,h6⟩:=h1;have hOg: ¬O g:=fun h=>hOG g h rfl
 have hsg:=h6.same g hgw hOg;have hh1:w1.heap[g]?=some (.map ents clock):=hsg.1.trans hh;have he4:a.eval (.tmp 4)= .map (some g):=hn.read_x 4 (by simp only[go_sem,Nat.reduceEqDiff,Vc,Vi,bL,aq]);have hO1g: ¬O1 g:=fun h=>by rcases h5 g h with h|h;exact hOg h;exact absurd hgw (VI.2 h)
 have hbl:Below w1.heap.size w1 (w1.alloc (.mapIter (some g) clock #[] clock)):=(Below.refl _ w1).alloc (Vb _) _;have hJ1:(au []).J (w1.alloc (.mapIter (some g) clock #[] clock)):=hE.keep [] _ _ (fun x hx=>by cases hx) hn.J ⟨hbl.os,hbl.tape,hbl.output,hbl.size,fun k hk _=>hbl.block k hk⟩;have hO1r: ¬O1 w1.heap.size:=fun h=>XV _ ((hA []).lt _ _ _ ha _ h).1
 have hKr:(au []).K<=w1.heap.size:=hE.high _ hn.J;have hgr:g≠w1.heap.size:=by have:=ae hh1;omega
 rw[wpOpsIn_cons]
 refine cY (v:= .pointer (some ⟨w1.heap.size,0,none⟩)) (w':=w1.alloc (.mapIter (some g) clock #[] clock)) rfl rfl (by intro c e;cases e) (by simp only[execOp,he4,Sem.run_bind,gt (P:=Tryz.prog) Tryz.underlying100 hh1,Result.andThen_ok,Sem.run_pure,dM]) ?_
 have hst:Step (fun _=>False) m1 w1 m1 (w1.alloc (.mapIter (some g) clock #[] clock)):=Step.of_below hbl (fun _ _=>rfl)
 have h2:Two (au []) 14 (fun k=>O k∨k=g) m w (KeyFr A g w1.heap.size ents clock (m g) [] []) ((aq [(0,.x (.func (.yield l) #[] #[])),(4,.x (.map (some g)))] []).put (some 5) (V.x (.pointer (some ⟨w1.heap.size,0,none⟩))).bare) (a.put (some 5) (.pointer (some ⟨w1.heap.size,0,none⟩))) (w1.alloc (.mapIter (some g) clock #[] clock)):=
  Two.raw (A':=KeyFr A g w1.heap.size ents clock (m g) [] []) (S:=fun _=>False) (O':=fun k=>O1 k∨k=g∨k=w1.heap.size) hn hst (fun _ _ h=>h) hJ1
   ⟨O1,(hA []).stab _ _ _ _ _ _ ha hst (fun _ _ h=>h) hJ1,hO1g,hO1r,hgr,fun _=>XY,(Below.heap_alloc _ _ _ (ae hh1)).trans hh1,hsg.2,World.heap_new _ _⟩
   (fun k hk ho=>by
    rcases hk with hk|rfl|rfl
    . exact hdis k hk ho
    . exact absurd hgw (VI.2 (h4 _ ho))
    . exact XV _ (hn.lt _ ho)) h4 (fun k hk=>by
    rcases hk with hk|rfl|rfl
    . rcases h5 k hk with h|h
      . exact .inl (.inl h)
      . exact .inr h
    . exact .inl (.inr rfl)
    . exact .inr h6.ext.size) (h6.mono (fun k _ h=> .inl h)) (fun _ _ h=>h.elim) (by decide) (.x _)
 generalize w1.heap.size=r at h2 hgr hKr;clear hn ha hdis h4 h5 h6 hO1g hO1r he4 hst hJ1 hbl hh1;generalize w1.alloc _=w2 at h2⊢;have hH:∀(B:List (List V)->(Nat->Prop)->Lim->World->Prop) (hB:∀pre,Holds (au []) (B pre)) (sp sq:List (MapEntry×V)),Holds (au []) (KeyFr B g r ents clock (m g) sp sq):=fun B hB sp sq=>KeyFr.holds hB hKg hKr
 replace h2:=h2.le (st':=aq [(0,.x (.func (.yield l) #[] #[])),(5,.x (.pointer (some ⟨r,0,none⟩)))] []) (aK (by simp +decide (maxDischargeDepth:=200) only[go_sem,Nat.reduceBEq]<;>(repeat' first|rfl|constructor)) trivial);refine(show wpOpsIn (be none) 0 _ _ _ [] _ _ from ?_);refine wpIn_block ?_;refine ce (X:=List (MapEntry×V)) (fun sp a' w'=>(∀p∈sp,p∈ps)∧(sp.map fun p=>p.1.born).Nodup∧Two (au []) 14 (fun k=>O k∨k=g) m w (KeyFr A g r ents clock (m g) sp sp) (aq [(0,.x (.func (.yield l) #[] #[])),(5,.x (.pointer (some ⟨r,0,none⟩)))] []) a' w') (fun sp=>(ents.toList.filter fun e=> !(sp.map fun p=>p.1.born).contains e.born).length) [] ⟨(fun p hp=>by cases hp),VV,h2⟩ ?_;clear h2 w2;rintro sp a2 w2 ⟨hsub,hspn,h2⟩;refine wpIn_seq (wpIn_region ?_);show wpOpsIn (be none) 0 _ _ _ (0::List.range' 1 1++[]) _ _;rw[VN,wpOpsIn_cons];obtain⟨m2,Oi,O2,hn,hfr,hdis,h4,h5,h6⟩:=h2;have hfr':=hfr;obtain⟨O1,k1,k2,k3,k4,k5,k6,k7,k8⟩:=hfr';have he5:a2.eval (.tmp 5)= .pointer (some ⟨r,0,none⟩):=hn.read_x 5 (by simp only[go_sem,Nat.reduceEqDiff,Vc,Vi,bL,aq]);have hcont:∀b:Nat,((sp.map fun p=>p.1.born).toArray.contains b)=(sp.map fun p=>p.1.born).contains b:=fun b=>by simp
 rcases run_next_at (P:=Tryz.prog) w2 0 r g clock clock _ ents clock k8 k6 hlt (Vb _) with⟨hz,hrun⟩|⟨e,he,w3,hw3,hrun⟩
 . --nothing is left
   refine cY (v:= .tuple #[.bool false]) (w':=w2) rfl rfl (by intro c e;cases e) (by simp only[execOp,he5,Sem.run_bind,dM];rw[hrun];rfl) ?_;have h3:=Two.raw (A':=KeyFr A g r ents clock (m g) sp sp) (S:=fun _=>False) (d:=6) (v:= .tuple #[.bool false]) (u:= .tup [.x (.bool false)]) hn (Step.refl _ _ _) (fun _ _ h=>h) hn.J hfr hdis h4 h5 h6 (fun _ _ h=>h.elim) (by decide) (Rd.tup_iff.2 ⟨_,rfl,.x _,trivial⟩);rw[cT] at h3;refine dX hE (hH A hA sp sp) 1 1 [(7,.x (.bool false))] [] [] (by decide) (by kernel_rfl) h3 (by simp +decide (maxDischargeDepth:=200) only[go_sem,Nat.reduceBEq]<;>(repeat' first|rfl|constructor)) ?_;clear h3;intro a3 w3 h3;refine wpIn_seq (yX hE hm' (hH A hA sp sp) 0 [] [] (by kernel_rfl) h3 (by simp +decide (maxDischargeDepth:=200) only[go_sem,Nat.reduceBEq]<;>(repeat' first|rfl|constructor)) ?_);clear h3 a3 w3;intro a3 w3 h3;have hperm:sp.Perm ps:=nU hpb hsub hspn (fun p hp=>by
    have hz':Go.leftOf ents (sp.map fun p=>p.1.born).toArray= #[]:=Wf hz;have:p.1∈ents.toList:=by rw[<-hp1];exact U7.2 ⟨p,hp,rfl⟩
    unfold Go.leftOf at hz';rw[XF] at hz';have:=hz' p.1 (by simpa using this);rw[hcont] at this;simpa using this)
   exact⟨.inl rfl,.inl ⟨_,_,⟨sp.map fun p=>p.2,by rw[Wk];rfl,by rw[<-hp2];exact hperm.map _⟩,Two.unframe h3 hh rfl hOg⟩⟩
 . --an entry has come
   obtain⟨hem,hnew⟩:=mem_left he;rw[hcont] at hnew;obtain⟨pe,hpe,rfl⟩:∃p∈ps,p.1=e:=by rw[<-hp1] at hem;obtain⟨p,hp,rfl⟩:=U7.1 hem;exact⟨p,hp,rfl⟩
   obtain⟨e,kv⟩:=pe;simp only at hem hnew hrun;have hkey:=hpk _ hpe;simp only at hkey;have hkin:kv∈ks:=by rw[<-hp2];exact U7.2 ⟨_,hpe,rfl⟩
   obtain⟨pc,rfl⟩:=hks kv hkin;have hkrd:∀(m:Lim) (w:World),Rd m w e.key (aa pc):=fun m w=>by have hk2:(aa pc).val=some e.key:=hkey;simp only[V.val,aa,WX,V.one,List.mapM_nil,Xu,Xa,Wg,VT,Vu] at hk2;rw[<-hk2];exact Rd.agg_iff.2 ⟨_,rfl,.x _,.x _,.x _,trivial⟩
   have hseen:(sp.map fun p=>p.1.born).toArray.push e.born=((sp++[(e,aa pc)]).map fun p=>p.1.born).toArray:=by simp
   rw[hseen] at hrun;have hs3:Step (fun k=>k=r) m2 w2 m2 (setBlock w3 r (.mapIter (some g) clock ((sp++[(e,aa pc)]).map fun p=>p.1.born).toArray clock)):=Step.iter hw3 k8;have hr3:=gr (o:= .mapIter (some g) clock ((sp++[(e,aa pc)]).map fun p=>p.1.born).toArray clock) hw3 k8;have hJ3:(au []).J (setBlock w3 r (.mapIter (some g) clock ((sp++[(e,aa pc)]).map fun p=>p.1.born).toArray clock)):=hE.keep [r] _ _ (fun x hx=>by rw[Vo.1 hx];exact hKr) hn.J (hs3.bel (fun k _ h=>Vo.2 h));refine cY (v:= .tuple #[.bool true,e.key,e.val]) (w':=setBlock w3 r (.mapIter (some g) clock ((sp++[(e,aa pc)]).map fun p=>p.1.born).toArray clock)) rfl rfl (by intro c e;cases e) (by simp only[execOp,he5,Sem.run_bind,dM];rw[hrun];rfl) ?_;have hOr:O2 r:=(k5 r).2 (.inr (.inr rfl))
   have h3:=Two.raw (A':=KeyFr A g r ents clock (m g) sp (sp++[(e,aa pc)])) (S:=fun k=>k=r) (d:=6) (v:= .tuple #[.bool true,e.key,e.val]) (u:= .tup [.x (.bool true),.undef,.undef]) hn hs3 (fun k hk h=>hdis r hOr (h▸hk)) hJ3
    ⟨O1,(hA _).stab _ _ _ _ _ _ k1 hs3 (fun k hk h=>k3 (h▸hk)) hJ3,k2,k3,k4,k5,(hs3.same g (ae k6) k4).1.trans k6,k7,hr3⟩ hdis h4 h5 h6 (fun i hi h=>by
     subst h;rcases h5 _ hOr with h|h
     . exact h
     . exact absurd hi (VI.2 h)) (by decide) (Rd.tup_iff.2 ⟨_,rfl,.x _,.undef _,.undef _,trivial⟩)
   rw[cT] at h3;clear hn hfr hdis h4 h5 h6 k1 k5 k6 k8 hs3 hr3 hJ3 hOr hrun he5 hw3 k2 k3 k7 k4;generalize setBlock w3 r _=w4 at h3;refine dX hE (hH A hA sp _) 1 1 [(0,.x (.func (.yield l) #[] #[])),(5,.x (.pointer (some ⟨r,0,none⟩))),(7,.x (.bool true))] [] [] (by decide) (by kernel_rfl) h3 (by simp +decide (maxDischargeDepth:=200) only[go_sem,Nat.reduceBEq]<;>(repeat' first|rfl|constructor)) ?_;clear h3;intro a3 w5 h3;refine wpIn_seq (dh hE hm' (hH A hA sp _) [(0,.x (.func (.yield l) #[] #[])),(5,.x (.pointer (some ⟨r,0,none⟩)))] [] (by kernel_rfl) h3 (by simp +decide (maxDischargeDepth:=200) only[go_sem,Nat.reduceBEq]<;>(repeat' first|rfl|constructor)) ?_);clear h3 a3 w5;intro a3 w5 h3;refine wpIn_block (wpIn_seq (wpIn_region ?_));show wpOpsIn (be none) 0 _ _ _ (0::List.range' 1 3++[]) _ _;rw[VN,wpOpsIn_cons];obtain⟨m2,Oi,O2,hn,hfr,hdis,h4,h5,h6⟩:=h3;have hfr':=hfr;obtain⟨O1,k1,k2,k3,k4,k5,k6,k7,k8⟩:=hfr';have he5:a3.eval (.tmp 5)= .pointer (some ⟨r,0,none⟩):=hn.read_x 5 (by simp only[go_sem,Nat.reduceEqDiff,Vc,Vi,bL,aq]);have hen:=run_entry_at (P:=Tryz.prog) w5 r g clock (sp.map fun p=>p.1.born).toArray ents clock e (by rw[hseen];exact k8) k6 hem hnd;refine cY (v:= .tuple #[e.key,e.val]) (w':=w5) rfl rfl (by intro c e;cases e) (by simp only[execOp,he5,Sem.run_bind,dM];rw[hen];rfl) ?_;have h3:=Two.raw (A':=KeyFr A g r ents clock (m g) sp (sp++[(e,aa pc)])) (S:=fun _=>False) (d:=8) (v:= .tuple #[e.key,e.val]) (u:= .tup [aa pc,.undef]) hn (Step.refl _ _ _) (fun _ _ h=>h) hn.J hfr hdis h4 h5 h6 (fun _ _ h=>h.elim) (by decide) (Rd.tup_iff.2 ⟨_,rfl,hkrd _ _,.undef _,trivial⟩);rw[cT] at h3;clear hn hfr hdis h4 h5 h6 k1 k5 k6 k8 he5 hen k2 k3 k4 k7;refine dX hE (hH A hA sp _) 1 3 [(0,.x (.func (.yield l) #[] #[])),(5,.x (.pointer (some ⟨r,0,none⟩))),(3,.ptr 3 0)] [(3,[.x (.string pc.1),.x (.int .i64 pc.2.1),.x (.int .i64 pc.2.2)])] [] (by decide) (by kernel_rfl) h3 (by simp +decide (maxDischargeDepth:=200) only[go_sem,Nat.reduceBEq,aa]<;>(repeat' first|rfl|constructor)) ?_;clear h3 a3 w5;intro a3 w5 h3;refine wpIn_seq (wpIn_region ?_);refine dX hE (hH A hA sp _) 0 2 [(0,.x (.func (.yield l) #[] #[])),(5,.x (.pointer (some ⟨r,0,none⟩))),(10,.x (.func (.yield l) #[] #[])),(11,aa pc)] [] [2,3] (by decide) (by kernel_rfl) h3 (by simp +decide (maxDischargeDepth:=200) only[go_sem,Nat.reduceBEq,aa]<;>(repeat' first|rfl|constructor)) ?_;clear h3 a3 w5;intro a3 w5 h3;rw[wpOpsIn_cons];have hsub2:∀p∈sp++[(e,aa pc)],p∈ps:=fun p hp=>by
    rcases Vl.1 hp with hp|hp
    . exact hsub p hp
    . rw[Vo.1 hp];exact hpe
   have hspn2:((sp++[(e,aa pc)]).map fun p=>p.1.born).Nodup:=by
    rw[Vy,Wy];refine⟨hspn,by simp,fun b hb c hc e1=>?_⟩;have hc1:c=e.born:=by simpa using hc
    subst hc1;subst e1;have:(sp.map fun p=>p.1.born).contains e.born=true:=by simpa using hb
    rw[this] at hnew;cases hnew
   have hokp:LH ks ((sp.map fun p=>[p.2])++[[aa pc]]):=⟨(sp++[(e,aa pc)]).map (fun p=>p.2),by simp,fun k hk=>by obtain⟨p,hp,rfl⟩:=U7.1 hk;rw[<-hp2];exact U7.2 ⟨p,hsub2 p hp,rfl⟩,by rw[eq,<-hp2,eq];exact dY (dz _ hspn2) hsub2⟩
   have hmap:((sp++[(e,aa pc)]).map fun p=>[p.2])=(sp.map fun p=>[p.2])++[[aa pc]]:=by simp
   refine js (n:=14) (A1:=KeyFr A g r ents clock (m g) (sp++[(e,aa pc)]) (sp++[(e,aa pc)])) (Ax:=KeyFr Ax g r ents clock (m g) (sp++[(e,aa pc)]) (sp++[(e,aa pc)])) (l:=l) rfl (d:=12) rfl (by decide) rfl rfl rfl h3 (u:=aa pc) rfl (by rw[aa,di];rfl) (fun Of m1 w6 vs hfr hv=>?_) ?_ ?_
   . obtain⟨O1,k1,k2,k3,k4,k5,k6,k7,k8⟩:=hfr;refine KeyFr.yield (fun O1 k1=>?_) O1 k1 k2 k3 k4 k5 k6 k7 k8;rw[hmap];exact hy _ _ O1 m1 w6 vs hokp k1 (by rw[aa,di] at hv;exact hv) rfl
   . clear h3 a3 w5;intro a3 w5 h3;refine dX hE (hH A hA _ _) 3 1 [(0,.x (.func (.yield l) #[] #[])),(5,.x (.pointer (some ⟨r,0,none⟩))),(13,.x (.bool false))] [] [] (by decide) (by kernel_rfl) h3 (by simp +decide (maxDischargeDepth:=200) only[go_sem,Nat.reduceBEq]<;>(repeat' first|rfl|constructor)) ?_;clear h3 a3 w5;intro a3 w5 h3;refine dh hE hm' (hH A hA _ _) [(0,.x (.func (.yield l) #[] #[])),(5,.x (.pointer (some ⟨r,0,none⟩)))] [] (by kernel_rfl) h3 (by simp +decide (maxDischargeDepth:=200) only[go_sem,Nat.reduceBEq]<;>(repeat' first|rfl|constructor)) ?_;clear h3 a3 w5;intro a3 w5 h3;refine⟨sp++[(e,aa pc)],⟨hsub2,hspn2,h3⟩,?_⟩;refine ge (fun e'=> !(sp.map fun p=>p.1.born).contains e'.born) (fun e'=> !((sp++[(e,aa pc)]).map fun p=>p.1.born).contains e'.born) (fun y hy=>?_) _ e hem (by rw[hnew];rfl) (by simp);simp only[Vy,List.contains_append,Bool.not_or,U6] at hy;exact hy.1
   . clear h3 a3 w5;intro a3 w5 h3;refine dX hE (hH Ax hX _ _) 3 1 [(13,.x (.bool true))] [] [] (by decide) (by kernel_rfl) h3 (by simp +decide (maxDischargeDepth:=200) only[go_sem,Nat.reduceBEq]<;>(repeat' first|rfl|constructor)) ?_;clear h3 a3 w5;intro a3 w5 h3;refine yY hE hm' (hH Ax hX _ _) [] [] (by kernel_rfl) h3 (by simp +decide (maxDischargeDepth:=200) only[go_sem,Nat.reduceBEq]<;>(repeat' first|rfl|constructor)) ?_;clear h3 a3 w5;intro a3 w5 h3;exact⟨.inr rfl,.inr ⟨_,_,Two.unframe h3 hh rfl hOg⟩⟩
def mL (n:Nat) (ks:List V) (r:V):Prop:=∃l:List V,l.Perm ks∧r= .sl l.isEmpty n l (some 0)
variable {v:Value}
theorem Jk {ty:TypeId} (hv:v.cells= #[v]):Step (fun _=>False) m w (aD m w.heap.size none) (w.alloc (.cells v.cells ty))∧Rd (aD m w.heap.size none) (w.alloc (.cells v.cells ty)) (.pointer (some ⟨w.heap.size,0,none⟩)) (.ip [.x v]):=by
 refine⟨Step.of_below ((Below.refl _ w).alloc (Vb _) _) (fun k hk=>ah _ _ (V1 hk)),.ip _ 0 _ (fun _=>v) (by simp) (fun k hk=>?_) (fun fr hf=>by rw[ai] at hf;cases hf) (fun k d hd=>?_)⟩
 . have hh:(w.alloc (.cells v.cells ty)).heap[w.heap.size]?=some (.cells v.cells ty (0,0)):=World.heap_new w _;rw[Box.cell hh,hv];have:k=0:=by simpa using hk
   subst this;rfl
 . cases k with
   |zero=>simp at hd;subst hd;exact .x _
   |succ k=>simp at hd
theorem kZ (l:List V):(l.map (fun k=>[k])).flatten=l:=by
 induction l with
 |nil=>rfl
 |cons a l ih=>simp[ih]
theorem xt {B:Nat} {ks:List V} (hks:∀k∈ks,∃p:C3,k=aa p) (hlen:ks.length<=1000000) (hm:MapAt m w g ks vs) (hr:Rd m w (.pointer (some ⟨B,0,none⟩)) (.ip [.x (.map (some g))])) (hKg:eu<=g) (hj:(au []).J w):
 Calls Tryz.prog 82 #[.slice none 0 0,.func (.func 83) #[] #[.pointer (some ⟨B,0,none⟩)]] w fun e w'=>∃v m' r,e= .returned v∧mL 3 ks r∧Rd m' w' v r∧(∀sz es k,r= .sl false sz es (some k)->∃g,RowIs m' w' v g sz es.length∧w.heap.size<=g)∧Step (fun _=>False) m w m' w'∧(au []).J w':=by
 have hgw:g<w.heap.size:=by obtain⟨_,_,hh,_⟩:=hm;exact ae hh
 have hE:EnvOK (aP [] (fun _=>false) [] (fun i=>i==2) (fun _=>false)):=eH _ _ _ _ _ trivial trivial;have hm':(aP [] (fun _=>false) [] (fun i=>i==2) (fun _=>false)).P.follows .mixedOrders=true:=by kernel_rfl
 refine kU (E:=aP [] (fun _=>false) [] (fun i=>i==2) (fun _=>false)) (n:=13) (k:=2) (us:=[.sl true 0 [] none,.x (.func (.func 83) #[] #[.pointer (some ⟨B,0,none⟩)])]) (Kn:=Kno.rd (.pointer (some ⟨B,0,none⟩)) (.ip [.x (.map (some g))])) hE Tryz.func82 rfl Tryz.ntmps82 (by decide) (by decide) ⟨.nil _ _,.x _,trivial⟩ rfl rfl hj (fun _=> .undef _) hr ?_;intro a h0;refine wpIn_seq (gH hE hm' [(1,.x (.func (.func 83) #[] #[.pointer (some ⟨B,0,none⟩)])),(2,.ptr 2 0)] [(2,[.sl true 0 [] none])] (by kernel_rfl) h0 (by simp +decide (maxDischargeDepth:=200) only[go_sem,Nat.reduceBEq]<;>(repeat' first|rfl|constructor)) ?_);clear h0 a;intro a w1 h1;replace h1:=h1.le (yZ 2 3 11 [] [] rfl);refine wpIn_seq (wpIn_seq (gH hE hm' [(2,.ptr 2 0),(6,.x (.func (.func 83) #[] #[.pointer (some ⟨B,0,none⟩)]))] [(2,[.sl true 3 [] (some 11)])] (by kernel_rfl) h1 (by simp +decide (maxDischargeDepth:=200) only[go_sem,Nat.reduceBEq]<;>(repeat' first|rfl|constructor)) ?_));clear h1 a w1;intro a w1 h1;have hfn:a.eval (.tmp 6)= .func (.func 83) #[] #[.pointer (some ⟨B,0,none⟩)]:=by obtain⟨m1,O1,hn,_⟩:=h1;exact hn.read_x 6 (by simp only[go_sem,Nat.reduceEqDiff,Vc,Vi,bL,aq])
 refine wpIn_block ?_
 refine nS hE hm' h1 (fun i=>i==7||(i==5||(i==8||(i==9||(i==10||i==11))))) hfn (fun a w=>Tryz.call83 a w) (Ok:=LH ks) (Done:=zi ks) (G:=fun k=>k=g) (fun k hk=>⟨by rw[hk];exact hgw,fun h=>h⟩) ?hit (by kernel_rfl) (by kernel_rfl) (by kernel_rfl) (by kernel_rfl) ?hps ?hlen
  (fun _=>True) (fun _=>[(2,.ptr 2 0)]) (fun pre=>[(2,[.sl pre.flatten.isEmpty 3 pre.flatten (some 11)])]) False [] [] trivial ?h0 (fun pre x=>[(2,.ptr 2 0),(5,.ptr 5 0)]) (fun pre x=>[(2,[.sl pre.flatten.isEmpty 3 pre.flatten (some 11)]),(5,x.flatMap V.cells)]) ?assign ?round ?done ?stop
 case hit=>intro m3 O3 hn3 hkn hs3 m4 w4 hs4 hj4;exact xq hks ((hm.step hs3).step hs4) ⟨hkn.mono hs4.ext,trivial⟩ hKg
 case hps=>intro p hp;simp at hp;subst hp;exact⟨rfl,by decide⟩
 case hlen=>
  rintro pre x ⟨l,hl,_⟩;have:x∈l.map (fun k=>[k]):=by rw[<-hl];simp
  obtain⟨k,_,rfl⟩:=U7.1 this;rfl
 case h0=>simp +decide (maxDischargeDepth:=200) only[go_sem,Nat.reduceBEq]<;>(repeat' first|rfl|constructor)
 case assign=>
  rintro pre x ⟨l,hl,hmem,hll⟩ _;have hx:x∈l.map (fun k=>[k]):=by rw[<-hl];simp
  obtain⟨kv,hkv,rfl⟩:=U7.1 hx;obtain⟨pc,rfl⟩:=hks kv (hmem kv hkv);simp +decide (maxDischargeDepth:=200) only[go_sem,Nat.reduceBEq,aa,VS,XH,Wq]<;>(repeat' first|rfl|constructor)
 case round=>
  rintro pre x ⟨l,hl,hmem,hll⟩ _;have hx:x∈l.map (fun k=>[k]):=by rw[<-hl];simp
  obtain⟨kv,hkv,rfl⟩:=U7.1 hx;obtain⟨pc,rfl⟩:=hks kv (hmem kv hkv);have hfl:(pre++[[aa pc]]).flatten=pre.flatten++[aa pc]:=by simp
  have hln:pre.flatten.length+1=l.length:=by have h2:=WP List.flatten hl;rw[kZ,hfl] at h2;rw[<-h2];simp
  generalize pre.flatten=q at hln hfl⊢;have hg:=cL (E:=aP [] (fun _=>false) [] (fun i=>i==2) (fun _=>false)) (el:=24) (n:=3) kL kM kN (by decide) rfl (es:=q) (v:=aa pc) (by rfl) (by omega) (by omega);have hg2:∀(st:St) (nl:Bool) (t':Option Nat),bi (aP [] (fun _=>false) [] (fun i=>i==2) (fun _=>false)) st (some 11) 24 (.sl q.isEmpty 3 q (some 11)) (.sl nl 3 [.agg [.x (.string pc.1),.x (.int .i64 pc.2.1),.x (.int .i64 pc.2.2)]] t')=some ⟨aD (strip 11 (strip 11 st.t)) 11 (.sl false 3 (q++[.agg [.x (.string pc.1),.x (.int .i64 pc.2.1),.x (.int .i64 pc.2.2)]]) (some 11)),aB (aP [] (fun _=>false) [] (fun i=>i==2) (fun _=>false)) 11 (aB (aP [] (fun _=>false) [] (fun i=>i==2) (fun _=>false)) 11 st.b)⟩:=fun st nl t'=>hg st 11 11 nl t'
  have hem:(q++[aa pc]).isEmpty=false:=by cases q<;>rfl
  simp only[aa] at hem hfl⊢;simp +decide (maxDischargeDepth:=200) only[go_sem,Nat.reduceBEq,hg2,hem,hfl,aa,VS,XH,Wq]<;>(repeat' first|rfl|constructor)
 case done=>intro xs b a' w' hd hinv h3;obtain⟨l,rfl,hp⟩:=hd;simp only[kZ] at h3;refine wpIn_seq (gH hE hm' [(4,.sl l.isEmpty 3 l (some 11))] [] (by kernel_rfl) h3 (by simp +decide (maxDischargeDepth:=200) only[go_sem,Nat.reduceBEq]<;>(repeat' first|rfl|constructor)) ?_);intro a4 w4 h4;exact wpIn_ret ⟨.inr rfl,_,_,_,_,_,_,h4,.inl (by simp only[Tryz.results82];rfl),l,hp,rfl⟩
 case stop=>intro b a' w' hrb h3;exact hrb.elim
def uL {α:Type} (L:List α):List V:=L.map fun _=> .agg []
section
variable {α:Type} [DecidableEq α] {P:Program} {enc:α->V} {kt:TypeId}
def bz (L:List α) (c:α):List α:=if c∈L then L else L++[c]
theorem oi (heq:∀a b,qk P 20 kt (enc a) (enc b)=some (decide (a=b))) (c:α):∀(L:List α) (i:Nat),(c∉L∧gm P kt (enc c) (L.map enc) i=some none)∨(c∈L∧∃j,gm P kt (enc c) (L.map enc) i=some (some (i+j))∧L[j]?=some c)
 |[],_=> .inl ⟨by simp,rfl⟩
 | p ::L,i=>by
   have e:gm P kt (enc c) ((p::L).map enc) i=(match qk P 20 kt (enc c) (enc p) with
    |some true=>some (some i)
    |some false=>gm P kt (enc c) (L.map enc) (i+1)
    |none=>none):=rfl
   rw[e,heq];by_cases h:c=p
   . right;rw[iO h];exact⟨by simp[h],0,rfl,by simp[h]⟩
   . rw[tl h];rcases oi heq c L (i+1) with⟨h1,h2⟩|⟨h1,j,h2,h3⟩
     . exact .inl ⟨by simp[h,h1],h2⟩
     . exact .inr ⟨by simp[h1],j+1,by show gm _ _ _ _ _=_;rw[h2];congr 2;omega,h3⟩
def zj (L:List α) (c:α):Bool:=decide (c∈L)
omit [DecidableEq α] in
theorem K6 (L:List α) (i:Nat):(uL L).set i (.agg [])=uL L:=by
 apply Wb;intro j;rw[XM];split
 . rename_i e;subst e;split
   . rename_i hl;have hl':i<L.length:=by simpa[uL] using hl
     simp[uL,io hl']
   . rename_i hl;rw[Vx (by omega)]
 . rfl
variable {t et:TypeId}
theorem qW (ht:P.underlying t=some (.map kt et)) (heq:∀a b,qk P 20 kt (enc a) (enc b)=some (decide (a=b))) (hok:∀a,dU P kt (enc a)=true) (L:List α) (c:α):
 kx P t (L.map enc) (uL L) (enc c) (.agg [])=some ((bz L c).map enc,uL (bz L c)):=by
 unfold kx;rw[ht];simp only;rw[Va ⟨hok c,rfl⟩];rcases oi heq c L 0 with⟨h1,h2⟩|⟨h1,j,h2,h3⟩
 . rw[h2];simp[bz,h1,uL]
 . have h3':L[0+j]?=some c:=by rw[Vt];exact h3
   rw[h2];simp only[];rw[Va (by rw[U5,h3'];rfl),K6];simp[bz,h1]
theorem uh (ht:P.underlying t=some (.map kt et)) (hz:aJ P et=some (.agg [])) (heq:∀a b,qk P 20 kt (enc a) (enc b)=some (decide (a=b))) (hok:∀a,dU P kt (enc a)=true) (s:Nat) (L:List α) (c:α):
 fE P t (.mp s (L.map enc) (uL L)) (enc c) true=some (.tup [.agg [],.x (.bool (zj L c))]):=by
 unfold zj;unfold fE;rw[ht,LW];simp only[hok,Vi];rcases oi heq c L 0 with⟨h1,h2⟩|⟨h1,j,h2,h3⟩
 . rw[h2];simp[hz,h1]
 . rw[h2];have:(uL L)[j]?=some (.agg []):=by simp[uL,h3]
   simp[this,h1]
end
variable {α:Type}
theorem qX [DecidableEq α] {L:List α} {c:α}:zj L c=true↔c∈L:=by simp[zj]
theorem oj [DecidableEq α] {L:List α} {c x:α}:x∈bz L c↔x∈L∨x=c:=by
 unfold bz;by_cases h:c∈L
 . rw[Va h];exact⟨.inl,fun hx=>hx.elim id (fun e=>e▸h)⟩
 . rw[Vh h];simp
theorem ol [DecidableEq α] {L:List α} {c:α} (hn:L.Nodup):(bz L c).Nodup:=by
 unfold bz;by_cases h:c∈L
 . rw[Va h];exact hn
 . rw[Vh h,Wy];exact⟨hn,by simp,fun a ha b hb=>by rw[Vo.1 hb];exact fun e=>h (e▸ha)⟩
theorem E6 [DecidableEq α] (L:List α) (c:α):(bz L c).length<=L.length+1:=by
 unfold bz;by_cases h:c∈L
 . rw[Va h];omega
 . rw[Vh h];simp
theorem BS (a b:C3):qk Tryz.prog 20 24 (aa a) (aa b)=some (decide (a=b)):=by
 obtain⟨s,c,r⟩:=a;obtain⟨s',c',r'⟩:=b;have e:decide (((s,c,r):C3)=(s',c',r'))=(decide (s=s')&&(decide (c=c')&&decide (r=r'))):=by rw[<-XZ,<-XZ];exact XU.2 (by simp)
 rw[e];simp +decide only[go_sem,aa]
theorem ui (a:C3):dU Tryz.prog 24 (aa a)=true:=by obtain⟨s,c,r⟩:=a;unfold dU;simp +decide [go_sem,aa,plainK,mX,dm]
theorem zk (a b:R2):qk Tryz.prog 20 105 (rgV a) (rgV b)=some (decide (a=b)):=by
 obtain⟨⟨s,c,r⟩,s2,c2,r2⟩:=a;obtain⟨⟨s',c',r'⟩,s2',c2',r2'⟩:=b;have e:decide ((((s,c,r),(s2,c2,r2)):R2)=((s',c',r'),(s2',c2',r2')))=((decide (s=s')&&(decide (c=c')&&decide (r=r')))&&(decide (s2=s2')&&(decide (c2=c2')&&decide (r2=r2')))):=by simp only[<-XZ];exact XU.2 (by simp[and_assoc])
 rw[e];simp +decide only[go_sem,rgV]
theorem pN (a:R2):dU Tryz.prog 105 (rgV a)=true:=by obtain⟨⟨s,c,r⟩,s2,c2,r2⟩:=a;unfold dU;simp +decide [go_sem,rgV,plainK,mX,dm]
theorem E7 (L:List C3) (c:C3):kx Tryz.prog 100 (L.map aa) (uL L) (aa c) (.agg [])=some ((bz L c).map aa,uL (bz L c)):=qW Tryz.underlying100 BS ui L c
theorem Ik (L:List R2) (c:R2):kx Tryz.prog 99 (L.map rgV) (uL L) (rgV c) (.agg [])=some ((bz L c).map rgV,uL (bz L c)):=qW Tryz.underlying99 zk pN L c
theorem E8 (s:Nat) (L:List R2) (c:R2):fE Tryz.prog 99 (.mp s (L.map rgV) (uL L)) (rgV c) true=some (.tup [.agg [],.x (.bool (zj L c))]):=uh Tryz.underlying99 JJ zk pN s L c
open Go Go.RowKit Go.Sort
theorem xu (g:Nat) (w:World):Calls Tryz.prog 55 #[.map (some g)] w fun e w'=>e= .returned (.func (.func 83) #[] #[.pointer (some ⟨w.heap.size,0,none⟩)])∧w'=w.alloc (.cells #[.map (some g)] 100):=by
 go_enter Tryz.func55,Tryz.ntmps55
 go_wp2
 go_ret
 exact⟨rfl,rfl⟩
theorem E9 {B:Nat} {ks:List V} (hks:∀k∈ks,∃p:C3,k=aa p) (hlen:ks.length<=1000000) (hm:MapAt m w g ks vs) (hr:Rd m w (.pointer (some ⟨B,0,none⟩)) (.ip [.x (.map (some g))])) (hKg:eu<=g) (hj:(au []).J w):
 Calls Tryz.prog 54 #[.func (.func 83) #[] #[.pointer (some ⟨B,0,none⟩)]] w fun e w'=>∃v m' r,e= .returned v∧mL 3 ks r∧Rd m' w' v r∧(∀sz es k,r= .sl false sz es (some k)->∃g,RowIs m' w' v g sz es.length∧w.heap.size<=g)∧Step (fun _=>False) m w m' w'∧(au []).J w':=by
 have H:=xt hks hlen hm hr hKg hj
 go_enter Tryz.func54,Tryz.ntmps54
 go_wp2_with (go_at_call 82;((with_reducible refine H.mono ?_);rintro e w1 ⟨v,m1,r,rfl,h1,h2,h3,h4,h5⟩))
 go_ret
 exact⟨v,m1,r,rfl,h1,h2,h3,h4,h5⟩
variable {i:Nat}
theorem Rd.cell1 {u:Value} {es:List V} {tok:Option Nat} {blk len cap:Nat} (h:Rd m w v (.sl false 1 es tok)) (hv:v= .slice (some ⟨blk,0,none⟩) len cap) (hi:es[i]?=some (.x u)):w.cell? ⟨blk,i,none⟩=some u:=by
 cases h with
 |emp a cap sz=>cases hi
 |sl blk' off cap' sz es tok c hb hcap hsz' hc hm' hr'=>cases hv;have hl:=(Io.1 hi).1;have h6:=hc i (by omega);have h7:=hr' i (.x u) hi 0 (.x u) rfl;rw[Vq,Wj] at h7;rw[Vt] at h6;rw[h6];generalize c i=x at h7;cases h7;rfl
mutual
theorem uj:∀a:Nd,(allN a).length<=jF a
 | .leaf h=>by simp only[allN,fh,jF];split<;>simp
 | .mk h l=>by
   have:=uk l;have h2:(fh h).length<=1:=by unfold fh;split<;>simp
   simp only[allN,jF,U4];omega
theorem uk:∀l:List Nd,(allL l).length<=cntL l
 |[]=>by simp[allL]
 |n::l=>by have:=uj n;have:=uk l;simp only[allL,cntL,U4];omega
end
theorem jz {E:Env} {ops:List Oper} {Q:Exit->Act->World->Prop} {a:Act} {rest:List Nat} {o:Oper} {d:Tmp} {f:FuncId} {args:Array Operand} {ts:Array TypeId} {R:Ending->World->Prop} (hi:ops[i]?=some o) (hop:o.op= .call {callee:= .value (.func f),args:=args,argTypes:=ts}) (hd:o.dst=some d) (hg:o.guard=none)
 (hcall:∀args w,(callFunc f args).run E.P w= .ok (.enter f args) w) (hc:Calls E.P f (args.map a.eval) w R)
 (hR:∀e w',R e w'->∃v,e= .returned v∧wpOpsIn (be none) 0 E.P ⟨ops⟩ Q rest (a.put (some d) v) w'):wpOpsIn (be none) 0 E.P ⟨ops⟩ Q (i::rest) a w:=by
 rw[wpOpsIn_cons];unfold wpOpIn;have hi':(⟨ops⟩:Array Oper)[i]?=some o:=by simpa using hi
 rw[hi'];simp only;rw[Va (by unfold Region.wanted;rw[hg])];refine⟨fun _ _=>trivial,?_⟩;rw[Oper.semAt_eq _ _ _ (by rw[hop];intro c e;cases e)];have hrun:(execOp a.eval o).run E.P w= .ok (.enter f (args.map a.eval)) w:=by simp only[execOp,hop,resolve,Sem.run_bind,Act.eval,Deferred.ofValue,Sem.run_pure,Result.andThen_ok,invoke];simpa using hcall _ _
 rw[hrun];refine⟨(fun e=>by cases e),cF.2 (hc.mono ?_)⟩;intro e w' hr;obtain⟨v,rfl,hK⟩:=hR e w' hr;show wpOpsIn (be none) 0 E.P ⟨ops⟩ Q rest (a.put o.dst v) w';rw[hd];exact hK
end Go.Proofs.YtalkmhjanlljhaaGreat

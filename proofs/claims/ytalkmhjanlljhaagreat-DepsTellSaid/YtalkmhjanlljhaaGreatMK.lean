/- slices.Collect, slices.Sorted of a map's keys that are numbers. -/
import Derived.Test.YtalkmhjanlljhaaGreatMJ
import Derived.Test.YtalkmhjanlljhaaGreatMQ
namespace Go.Proofs.YtalkmhjanlljhaaGreat
set_option linter.unusedSimpArgs false
set_option maxHeartbeats 32000000
set_option maxRecDepth 100000
open Go Go.RowKit Go.Sort
open Go.ChangeMaps (setBlock)
attribute [go_sem] Tryz.results18
variable {m:Lim} {w:World} {g:Nat} {vs:List V}
theorem xP {lb:Array Value} {ks:List V} (hks:∀k∈ks,∃s:Int,k= .x (.int .i64 s)) (hm:MapAt m w g ks vs) (hr:RdL m w lb.toList [.ip [.x (.map (some g))]]) (hKg:eu<=g):kg (au []) (fun k=>k=g) 62 lb (LH ks) (zi ks) m w:=by
 obtain⟨ents,clock,hh,hrd,hlt,hnd,_⟩:=hm;have hgw:=ae hh;obtain⟨ps,hps⟩:∃ps,ps=ents.toList.zip ks:=⟨_,rfl⟩;have hlen:=hrd.len.1;have hp1:ps.map (fun p=>p.1)=ents.toList:=by rw[hps];exact List.map_fst_zip (by omega)
 have hp2:ps.map (fun p=>p.2)=ks:=by rw[hps];exact XT (by omega)
 have hpb:(ps.map fun p=>p.1.born).Nodup:=by
  have:(ps.map fun p=>p.1.born)=(ps.map fun p=>p.1).map (·.born):=by rw[Wk];rfl
  rw[this,hp1];exact hnd
 have hpk:∀p∈ps,p.2.val=some p.1.key:=fun p hp=>by obtain⟨i,hi⟩:=VU hp;rw[hps,WI] at hi;obtain⟨k,v,q1,_,q2,_⟩:=hrd.get i p.1 hi.1;rw[q1] at hi;cases hi.2;exact q2.2
 refine qP (E:=au []) (n:=14) (us:=[.ip [.x (.map (some g))]]) Tryz.func62 rfl Tryz.ntmps62 Tryz.results62 (by simp) (by decide) hr rfl (fun g=> .undef _) ?_;intro l A Ax a0 O hA hX hy h0 hOG;have hE:EnvOK (au []):=aM _ trivial;have hm':(au []).P.follows .mixedOrders=true:=by kernel_rfl
 refine wpIn_seq (wpIn_region ?_);refine dX hE (hA []) 0 1 [(0,.x (.func (.yield l) #[] #[])),(4,.x (.map (some g)))] [] [1] (by decide) (by kernel_rfl) h0 (by simp +decide (maxDischargeDepth:=200) only[go_sem,Nat.reduceBEq]<;>(repeat' first|rfl|constructor)) ?_;clear h0 a0;intro a w1 h1;obtain⟨m1,Oi,O1,hn,ha,hdis,h4,h5,h6⟩:=h1;have hOg: ¬O g:=fun h=>hOG g h rfl
 have hsg:=h6.same g hgw hOg;have hh1:w1.heap[g]?=some (.map ents clock):=hsg.1.trans hh;have he4:a.eval (.tmp 4)= .map (some g):=hn.read_x 4 (by simp only[go_sem,Nat.reduceEqDiff,Vc,Vi,bL,aq]);have hO1g: ¬O1 g:=fun h=>by rcases h5 g h with h|h;exact hOg h;exact absurd hgw (VI.2 h)
 have hbl:Below w1.heap.size w1 (w1.alloc (.mapIter (some g) clock #[] clock)):=(Below.refl _ w1).alloc (Vb _) _;have hJ1:(au []).J (w1.alloc (.mapIter (some g) clock #[] clock)):=hE.keep [] _ _ (fun x hx=>by cases hx) hn.J ⟨hbl.os,hbl.tape,hbl.output,hbl.size,fun k hk _=>hbl.block k hk⟩;have hO1r: ¬O1 w1.heap.size:=fun h=>XV _ ((hA []).lt _ _ _ ha _ h).1
 have hKr:(au []).K<=w1.heap.size:=hE.high _ hn.J;have hgr:g≠w1.heap.size:=by have:=ae hh1;omega
 rw[wpOpsIn_cons]
 refine cY (v:= .pointer (some ⟨w1.heap.size,0,none⟩)) (w':=w1.alloc (.mapIter (some g) clock #[] clock)) rfl rfl (by intro c e;cases e) (by simp only[execOp,he4,Sem.run_bind,gt (P:=Tryz.prog) Tryz.underlying71 hh1,Result.andThen_ok,Sem.run_pure,dM]) ?_
 have hst:Step (fun _=>False) m1 w1 m1 (w1.alloc (.mapIter (some g) clock #[] clock)):=Step.of_below hbl (fun _ _=>rfl)
 have h2:Two (au []) 14 (fun k=>O k∨k=g) m w (KeyFr A g w1.heap.size ents clock (m g) [] []) ((aq [(0,.x (.func (.yield l) #[] #[])),(4,.x (.map (some g)))] []).put (some 5) (V.x (.pointer (some ⟨w1.heap.size,0,none⟩))).bare) (a.put (some 5) (.pointer (some ⟨w1.heap.size,0,none⟩))) (w1.alloc (.mapIter (some g) clock #[] clock)):=
  Two.raw (A':=KeyFr A g w1.heap.size ents clock (m g) [] []) (S:=fun _=>False) (O':=fun k=>O1 k∨k=g∨k=w1.heap.size) hn hst (fun _ _ h=>h) hJ1
   ⟨O1,(hA []).stab _ _ _ _ _ _ ha hst (fun _ _ h=>h) hJ1,hO1g,hO1r,hgr,fun _=>XY,(Below.heap_alloc _ _ _ (ae hh1)).trans hh1,hsg.2,World.heap_new _ _⟩
   (fun k hk ho=>by
    rcases hk with hk|rfl|rfl
    . exact hdis k hk ho
    . exact absurd hgw (VI.2 (h4 _ ho))
    . exact XV _ (hn.lt _ ho)) h4 (fun k hk=>by
    rcases hk with hk|rfl|rfl
    . rcases h5 k hk with h|h
      . exact .inl (.inl h)
      . exact .inr h
    . exact .inl (.inr rfl)
    . exact .inr h6.ext.size) (h6.mono (fun k _ h=> .inl h)) (fun _ _ h=>h.elim) (by decide) (.x _)
 generalize w1.heap.size=r at h2 hgr hKr;clear hn ha hdis h4 h5 h6 hO1g hO1r he4 hst hJ1 hbl hh1;generalize w1.alloc _=w2 at h2⊢;have hH:∀(B:List (List V)->(Nat->Prop)->Lim->World->Prop) (hB:∀pre,Holds (au []) (B pre)) (sp sq:List (MapEntry×V)),Holds (au []) (KeyFr B g r ents clock (m g) sp sq):=fun B hB sp sq=>KeyFr.holds hB hKg hKr
 replace h2:=h2.le (st':=aq [(0,.x (.func (.yield l) #[] #[])),(5,.x (.pointer (some ⟨r,0,none⟩)))] []) (aK (by simp +decide (maxDischargeDepth:=200) only[go_sem,Nat.reduceBEq]<;>(repeat' first|rfl|constructor)) trivial);refine(show wpOpsIn (be none) 0 _ _ _ [] _ _ from ?_);refine wpIn_block ?_;refine ce (X:=List (MapEntry×V)) (fun sp a' w'=>(∀p∈sp,p∈ps)∧(sp.map fun p=>p.1.born).Nodup∧Two (au []) 14 (fun k=>O k∨k=g) m w (KeyFr A g r ents clock (m g) sp sp) (aq [(0,.x (.func (.yield l) #[] #[])),(5,.x (.pointer (some ⟨r,0,none⟩)))] []) a' w') (fun sp=>(ents.toList.filter fun e=> !(sp.map fun p=>p.1.born).contains e.born).length) [] ⟨(fun p hp=>by cases hp),VV,h2⟩ ?_;clear h2 w2;rintro sp a2 w2 ⟨hsub,hspn,h2⟩;refine wpIn_seq (wpIn_region ?_);show wpOpsIn (be none) 0 _ _ _ (0::List.range' 1 1++[]) _ _;rw[VN,wpOpsIn_cons];obtain⟨m2,Oi,O2,hn,hfr,hdis,h4,h5,h6⟩:=h2;have hfr':=hfr;obtain⟨O1,k1,k2,k3,k4,k5,k6,k7,k8⟩:=hfr';have he5:a2.eval (.tmp 5)= .pointer (some ⟨r,0,none⟩):=hn.read_x 5 (by simp only[go_sem,Nat.reduceEqDiff,Vc,Vi,bL,aq]);have hcont:∀b:Nat,((sp.map fun p=>p.1.born).toArray.contains b)=(sp.map fun p=>p.1.born).contains b:=fun b=>by simp
 rcases run_next_at (P:=Tryz.prog) w2 0 r g clock clock _ ents clock k8 k6 hlt (Vb _) with⟨hz,hrun⟩|⟨e,he,w3,hw3,hrun⟩
 . --nothing is left
   refine cY (v:= .tuple #[.bool false]) (w':=w2) rfl rfl (by intro c e;cases e) (by simp only[execOp,he5,Sem.run_bind,dM];rw[hrun];rfl) ?_;have h3:=Two.raw (A':=KeyFr A g r ents clock (m g) sp sp) (S:=fun _=>False) (d:=6) (v:= .tuple #[.bool false]) (u:= .tup [.x (.bool false)]) hn (Step.refl _ _ _) (fun _ _ h=>h) hn.J hfr hdis h4 h5 h6 (fun _ _ h=>h.elim) (by decide) (Rd.tup_iff.2 ⟨_,rfl,.x _,trivial⟩);rw[cT] at h3;refine dX hE (hH A hA sp sp) 1 1 [(7,.x (.bool false))] [] [] (by decide) (by kernel_rfl) h3 (by simp +decide (maxDischargeDepth:=200) only[go_sem,Nat.reduceBEq]<;>(repeat' first|rfl|constructor)) ?_;clear h3;intro a3 w3 h3;refine wpIn_seq (yX hE hm' (hH A hA sp sp) 0 [] [] (by kernel_rfl) h3 (by simp +decide (maxDischargeDepth:=200) only[go_sem,Nat.reduceBEq]<;>(repeat' first|rfl|constructor)) ?_);clear h3 a3 w3;intro a3 w3 h3;have hperm:sp.Perm ps:=nU hpb hsub hspn (fun p hp=>by
    have hz':Go.leftOf ents (sp.map fun p=>p.1.born).toArray= #[]:=Wf hz;have:p.1∈ents.toList:=by rw[<-hp1];exact U7.2 ⟨p,hp,rfl⟩
    unfold Go.leftOf at hz';rw[XF] at hz';have:=hz' p.1 (by simpa using this);rw[hcont] at this;simpa using this)
   exact⟨.inl rfl,.inl ⟨_,_,⟨sp.map fun p=>p.2,by rw[Wk];rfl,by rw[<-hp2];exact hperm.map _⟩,Two.unframe h3 hh rfl hOg⟩⟩
 . --an entry has come
   obtain⟨hem,hnew⟩:=mem_left he;rw[hcont] at hnew;obtain⟨pe,hpe,rfl⟩:∃p∈ps,p.1=e:=by rw[<-hp1] at hem;obtain⟨p,hp,rfl⟩:=U7.1 hem;exact⟨p,hp,rfl⟩
   obtain⟨e,kv⟩:=pe;simp only at hem hnew hrun;have hkey:=hpk _ hpe;simp only at hkey;have hkin:kv∈ks:=by rw[<-hp2];exact U7.2 ⟨_,hpe,rfl⟩
   obtain⟨s,rfl⟩:=hks kv hkin;have hkrd:∀(m:Lim) (w:World),Rd m w e.key (V.x (.int .i64 s)):=fun m w=>by have hk2:(V.x (.int .i64 s)).val=some e.key:=hkey;simp only[V.val,Vu] at hk2;rw[<-hk2];exact .x _
   have hseen:(sp.map fun p=>p.1.born).toArray.push e.born=((sp++[(e,V.x (.int .i64 s))]).map fun p=>p.1.born).toArray:=by simp
   rw[hseen] at hrun;have hs3:Step (fun k=>k=r) m2 w2 m2 (setBlock w3 r (.mapIter (some g) clock ((sp++[(e,V.x (.int .i64 s))]).map fun p=>p.1.born).toArray clock)):=Step.iter hw3 k8;have hr3:=gr (o:= .mapIter (some g) clock ((sp++[(e,V.x (.int .i64 s))]).map fun p=>p.1.born).toArray clock) hw3 k8;have hJ3:(au []).J (setBlock w3 r (.mapIter (some g) clock ((sp++[(e,V.x (.int .i64 s))]).map fun p=>p.1.born).toArray clock)):=hE.keep [r] _ _ (fun x hx=>by rw[Vo.1 hx];exact hKr) hn.J (hs3.bel (fun k _ h=>Vo.2 h));refine cY (v:= .tuple #[.bool true,e.key,e.val]) (w':=setBlock w3 r (.mapIter (some g) clock ((sp++[(e,V.x (.int .i64 s))]).map fun p=>p.1.born).toArray clock)) rfl rfl (by intro c e;cases e) (by simp only[execOp,he5,Sem.run_bind,dM];rw[hrun];rfl) ?_;have hOr:O2 r:=(k5 r).2 (.inr (.inr rfl))
   have h3:=Two.raw (A':=KeyFr A g r ents clock (m g) sp (sp++[(e,V.x (.int .i64 s))])) (S:=fun k=>k=r) (d:=6) (v:= .tuple #[.bool true,e.key,e.val]) (u:= .tup [.x (.bool true),.undef,.undef]) hn hs3 (fun k hk h=>hdis r hOr (h▸hk)) hJ3
    ⟨O1,(hA _).stab _ _ _ _ _ _ k1 hs3 (fun k hk h=>k3 (h▸hk)) hJ3,k2,k3,k4,k5,(hs3.same g (ae k6) k4).1.trans k6,k7,hr3⟩ hdis h4 h5 h6 (fun i hi h=>by
     subst h;rcases h5 _ hOr with h|h
     . exact h
     . exact absurd hi (VI.2 h)) (by decide) (Rd.tup_iff.2 ⟨_,rfl,.x _,.undef _,.undef _,trivial⟩)
   rw[cT] at h3;clear hn hfr hdis h4 h5 h6 k1 k5 k6 k8 hs3 hr3 hJ3 hOr hrun he5 hw3 k2 k3 k7 k4;generalize setBlock w3 r _=w4 at h3;refine dX hE (hH A hA sp _) 1 1 [(0,.x (.func (.yield l) #[] #[])),(5,.x (.pointer (some ⟨r,0,none⟩))),(7,.x (.bool true))] [] [] (by decide) (by kernel_rfl) h3 (by simp +decide (maxDischargeDepth:=200) only[go_sem,Nat.reduceBEq]<;>(repeat' first|rfl|constructor)) ?_;clear h3;intro a3 w5 h3;refine wpIn_seq (dh hE hm' (hH A hA sp _) [(0,.x (.func (.yield l) #[] #[])),(5,.x (.pointer (some ⟨r,0,none⟩)))] [] (by kernel_rfl) h3 (by simp +decide (maxDischargeDepth:=200) only[go_sem,Nat.reduceBEq]<;>(repeat' first|rfl|constructor)) ?_);clear h3 a3 w5;intro a3 w5 h3;refine wpIn_block (wpIn_seq (wpIn_region ?_));show wpOpsIn (be none) 0 _ _ _ (0::List.range' 1 2++[]) _ _;rw[VN,wpOpsIn_cons];obtain⟨m2,Oi,O2,hn,hfr,hdis,h4,h5,h6⟩:=h3;have hfr':=hfr;obtain⟨O1,k1,k2,k3,k4,k5,k6,k7,k8⟩:=hfr';have he5:a3.eval (.tmp 5)= .pointer (some ⟨r,0,none⟩):=hn.read_x 5 (by simp only[go_sem,Nat.reduceEqDiff,Vc,Vi,bL,aq]);have hen:=run_entry_at (P:=Tryz.prog) w5 r g clock (sp.map fun p=>p.1.born).toArray ents clock e (by rw[hseen];exact k8) k6 hem hnd;refine cY (v:= .tuple #[e.key,e.val]) (w':=w5) rfl rfl (by intro c e;cases e) (by simp only[execOp,he5,Sem.run_bind,dM];rw[hen];rfl) ?_;have h3:=Two.raw (A':=KeyFr A g r ents clock (m g) sp (sp++[(e,V.x (.int .i64 s))])) (S:=fun _=>False) (d:=8) (v:= .tuple #[e.key,e.val]) (u:= .tup [V.x (.int .i64 s),.undef]) hn (Step.refl _ _ _) (fun _ _ h=>h) hn.J hfr hdis h4 h5 h6 (fun _ _ h=>h.elim) (by decide) (Rd.tup_iff.2 ⟨_,rfl,hkrd _ _,.undef _,trivial⟩);rw[cT] at h3;clear hn hfr hdis h4 h5 h6 k1 k5 k6 k8 he5 hen k2 k3 k4 k7;refine dX hE (hH A hA sp _) 1 2 [(0,.x (.func (.yield l) #[] #[])),(5,.x (.pointer (some ⟨r,0,none⟩))),(3,.x (.int .i64 s))] [] [] (by decide) (by kernel_rfl) h3 (by simp +decide (maxDischargeDepth:=200) only[go_sem,Nat.reduceBEq,Wl]<;>(repeat' first|rfl|constructor)) ?_;clear h3 a3 w5;intro a3 w5 h3;refine wpIn_seq (wpIn_region ?_);refine dX hE (hH A hA sp _) 0 2 [(0,.x (.func (.yield l) #[] #[])),(5,.x (.pointer (some ⟨r,0,none⟩))),(10,.x (.func (.yield l) #[] #[])),(11,V.x (.int .i64 s))] [] [2,3] (by decide) (by kernel_rfl) h3 (by simp +decide (maxDischargeDepth:=200) only[go_sem,Nat.reduceBEq,Wl]<;>(repeat' first|rfl|constructor)) ?_;clear h3 a3 w5;intro a3 w5 h3;rw[wpOpsIn_cons];have hsub2:∀p∈sp++[(e,V.x (.int .i64 s))],p∈ps:=fun p hp=>by
    rcases Vl.1 hp with hp|hp
    . exact hsub p hp
    . rw[Vo.1 hp];exact hpe
   have hspn2:((sp++[(e,V.x (.int .i64 s))]).map fun p=>p.1.born).Nodup:=by
    rw[Vy,Wy];refine⟨hspn,by simp,fun b hb c hc e1=>?_⟩;have hc1:c=e.born:=by simpa using hc
    subst hc1;subst e1;have:(sp.map fun p=>p.1.born).contains e.born=true:=by simpa using hb
    rw[this] at hnew;cases hnew
   have hokp:LH ks ((sp.map fun p=>[p.2])++[[V.x (.int .i64 s)]]):=⟨(sp++[(e,V.x (.int .i64 s))]).map (fun p=>p.2),by simp,fun k hk=>by obtain⟨p,hp,rfl⟩:=U7.1 hk;rw[<-hp2];exact U7.2 ⟨p,hsub2 p hp,rfl⟩,by rw[eq,<-hp2,eq];exact dY (dz _ hspn2) hsub2⟩
   have hmap:((sp++[(e,V.x (.int .i64 s))]).map fun p=>[p.2])=(sp.map fun p=>[p.2])++[[V.x (.int .i64 s)]]:=by simp
   refine js (n:=14) (A1:=KeyFr A g r ents clock (m g) (sp++[(e,V.x (.int .i64 s))]) (sp++[(e,V.x (.int .i64 s))])) (Ax:=KeyFr Ax g r ents clock (m g) (sp++[(e,V.x (.int .i64 s))]) (sp++[(e,V.x (.int .i64 s))])) (l:=l) rfl (d:=12) rfl (by decide) rfl rfl rfl h3 (u:=V.x (.int .i64 s)) rfl (by rw[dP];rfl) (fun Of m1 w6 vs hfr hv=>?_) ?_ ?_
   . obtain⟨O1,k1,k2,k3,k4,k5,k6,k7,k8⟩:=hfr;refine KeyFr.yield (fun O1 k1=>?_) O1 k1 k2 k3 k4 k5 k6 k7 k8;rw[hmap];exact hy _ _ O1 m1 w6 vs hokp k1 (by rw[dP] at hv;exact hv) rfl
   . clear h3 a3 w5;intro a3 w5 h3;refine dX hE (hH A hA _ _) 3 1 [(0,.x (.func (.yield l) #[] #[])),(5,.x (.pointer (some ⟨r,0,none⟩))),(13,.x (.bool false))] [] [] (by decide) (by kernel_rfl) h3 (by simp +decide (maxDischargeDepth:=200) only[go_sem,Nat.reduceBEq]<;>(repeat' first|rfl|constructor)) ?_;clear h3 a3 w5;intro a3 w5 h3;refine dh hE hm' (hH A hA _ _) [(0,.x (.func (.yield l) #[] #[])),(5,.x (.pointer (some ⟨r,0,none⟩)))] [] (by kernel_rfl) h3 (by simp +decide (maxDischargeDepth:=200) only[go_sem,Nat.reduceBEq]<;>(repeat' first|rfl|constructor)) ?_;clear h3 a3 w5;intro a3 w5 h3;refine⟨sp++[(e,V.x (.int .i64 s))],⟨hsub2,hspn2,h3⟩,?_⟩;refine ge (fun e'=> !(sp.map fun p=>p.1.born).contains e'.born) (fun e'=> !((sp++[(e,V.x (.int .i64 s))]).map fun p=>p.1.born).contains e'.born) (fun y hy=>?_) _ e hem (by rw[hnew];rfl) (by simp);simp only[Vy,List.contains_append,Bool.not_or,U6] at hy;exact hy.1
   . clear h3 a3 w5;intro a3 w5 h3;refine dX hE (hH Ax hX _ _) 3 1 [(13,.x (.bool true))] [] [] (by decide) (by kernel_rfl) h3 (by simp +decide (maxDischargeDepth:=200) only[go_sem,Nat.reduceBEq]<;>(repeat' first|rfl|constructor)) ?_;clear h3 a3 w5;intro a3 w5 h3;refine yY hE hm' (hH Ax hX _ _) [] [] (by kernel_rfl) h3 (by simp +decide (maxDischargeDepth:=200) only[go_sem,Nat.reduceBEq]<;>(repeat' first|rfl|constructor)) ?_;clear h3 a3 w5;intro a3 w5 h3;exact⟨.inr rfl,.inr ⟨_,_,Two.unframe h3 hh rfl hOg⟩⟩
theorem xQ {B:Nat} {ks:List V} (hks:∀k∈ks,∃s:Int,k= .x (.int .i64 s)) (hlen:ks.length<=1000000) (hm:MapAt m w g ks vs) (hr:Rd m w (.pointer (some ⟨B,0,none⟩)) (.ip [.x (.map (some g))])) (hKg:eu<=g) (hj:(au []).J w):
 Calls Tryz.prog 86 #[.slice none 0 0,.func (.func 62) #[] #[.pointer (some ⟨B,0,none⟩)]] w fun e w'=>∃v m' r,e= .returned v∧mL 1 ks r∧Rd m' w' v r∧(∀sz es k,r= .sl false sz es (some k)->∃g,RowIs m' w' v g sz es.length∧w.heap.size<=g)∧Step (fun _=>False) m w m' w'∧(au []).J w':=by
 have hgw:g<w.heap.size:=by obtain⟨_,_,hh,_⟩:=hm;exact ae hh
 have hE:EnvOK (aP [] (fun _=>false) [] (fun i=>i==2) (fun _=>false)):=eH _ _ _ _ _ trivial trivial;have hm':(aP [] (fun _=>false) [] (fun i=>i==2) (fun _=>false)).P.follows .mixedOrders=true:=by kernel_rfl
 refine kU (E:=aP [] (fun _=>false) [] (fun i=>i==2) (fun _=>false)) (n:=13) (k:=2) (us:=[.sl true 0 [] none,.x (.func (.func 62) #[] #[.pointer (some ⟨B,0,none⟩)])]) (Kn:=Kno.rd (.pointer (some ⟨B,0,none⟩)) (.ip [.x (.map (some g))])) hE Tryz.func86 rfl Tryz.ntmps86 (by decide) (by decide) ⟨.nil _ _,.x _,trivial⟩ rfl rfl hj (fun _=> .undef _) hr ?_;intro a h0;refine wpIn_seq (gH hE hm' [(1,.x (.func (.func 62) #[] #[.pointer (some ⟨B,0,none⟩)])),(2,.ptr 2 0)] [(2,[.sl true 0 [] none])] (by kernel_rfl) h0 (by simp +decide (maxDischargeDepth:=200) only[go_sem,Nat.reduceBEq]<;>(repeat' first|rfl|constructor)) ?_);clear h0 a;intro a w1 h1;replace h1:=h1.le (yZ 2 1 11 [] [] rfl);refine wpIn_seq (wpIn_seq (gH hE hm' [(2,.ptr 2 0),(6,.x (.func (.func 62) #[] #[.pointer (some ⟨B,0,none⟩)]))] [(2,[.sl true 1 [] (some 11)])] (by kernel_rfl) h1 (by simp +decide (maxDischargeDepth:=200) only[go_sem,Nat.reduceBEq]<;>(repeat' first|rfl|constructor)) ?_));clear h1 a w1;intro a w1 h1;have hfn:a.eval (.tmp 6)= .func (.func 62) #[] #[.pointer (some ⟨B,0,none⟩)]:=by obtain⟨m1,O1,hn,_⟩:=h1;exact hn.read_x 6 (by simp only[go_sem,Nat.reduceEqDiff,Vc,Vi,bL,aq])
 refine wpIn_block ?_
 refine nS hE hm' h1 (fun i=>i==7||(i==5||(i==8||(i==9||(i==10||i==11))))) hfn (fun a w=>Tryz.call62 a w) (Ok:=LH ks) (Done:=zi ks) (G:=fun k=>k=g) (fun k hk=>⟨by rw[hk];exact hgw,fun h=>h⟩) ?hit (by kernel_rfl) (by kernel_rfl) (by kernel_rfl) (by kernel_rfl) ?hps ?hlen
  (fun _=>True) (fun _=>[(2,.ptr 2 0)]) (fun pre=>[(2,[.sl pre.flatten.isEmpty 1 pre.flatten (some 11)])]) False [] [] trivial ?h0 (fun pre x=>[(2,.ptr 2 0),(5,x.headD .undef)]) (fun pre x=>[(2,[.sl pre.flatten.isEmpty 1 pre.flatten (some 11)])]) ?assign ?round ?done ?stop
 case hit=>intro m3 O3 hn3 hkn hs3 m4 w4 hs4 hj4;exact xP hks ((hm.step hs3).step hs4) ⟨hkn.mono hs4.ext,trivial⟩ hKg
 case hps=>intro p hp;simp at hp;subst hp;exact⟨rfl,by decide⟩
 case hlen=>
  rintro pre x ⟨l,hl,_⟩;have:x∈l.map (fun k=>[k]):=by rw[<-hl];simp
  obtain⟨k,_,rfl⟩:=U7.1 this;rfl
 case h0=>simp +decide (maxDischargeDepth:=200) only[go_sem,Nat.reduceBEq]<;>(repeat' first|rfl|constructor)
 case assign=>
  rintro pre x ⟨l,hl,hmem,hll⟩ _;have hx:x∈l.map (fun k=>[k]):=by rw[<-hl];simp
  obtain⟨kv,hkv,rfl⟩:=U7.1 hx;obtain⟨sx,rfl⟩:=hks kv (hmem kv hkv);simp +decide (maxDischargeDepth:=200) only[go_sem,Nat.reduceBEq,List.headD_cons]<;>(repeat' first|rfl|constructor)
 case round=>
  rintro pre x ⟨l,hl,hmem,hll⟩ _;have hx:x∈l.map (fun k=>[k]):=by rw[<-hl];simp
  obtain⟨kv,hkv,rfl⟩:=U7.1 hx;obtain⟨sx,rfl⟩:=hks kv (hmem kv hkv);have hfl:(pre++[[V.x (.int .i64 sx)]]).flatten=pre.flatten++[V.x (.int .i64 sx)]:=by simp
  have hln:pre.flatten.length+1=l.length:=by have h2:=WP List.flatten hl;rw[kZ,hfl] at h2;rw[<-h2];simp
  generalize pre.flatten=q at hln hfl⊢;have hg:=cL (E:=aP [] (fun _=>false) [] (fun i=>i==2) (fun _=>false)) (el:=3) (n:=1) LF L3 L4 (by decide) rfl (es:=q) (v:=V.x (.int .i64 sx)) (by rfl) (by omega) (by omega);have hg2:∀(st:St) (nl:Bool) (t':Option Nat),bi (aP [] (fun _=>false) [] (fun i=>i==2) (fun _=>false)) st (some 11) 3 (.sl q.isEmpty 1 q (some 11)) (.sl nl 1 [V.x (.int .i64 sx)] t')=some ⟨aD (strip 11 (strip 11 st.t)) 11 (.sl false 1 (q++[V.x (.int .i64 sx)]) (some 11)),aB (aP [] (fun _=>false) [] (fun i=>i==2) (fun _=>false)) 11 (aB (aP [] (fun _=>false) [] (fun i=>i==2) (fun _=>false)) 11 st.b)⟩:=fun st nl t'=>hg st 11 11 nl t'
  have hem:(q++[V.x (.int .i64 sx)]).isEmpty=false:=by cases q<;>rfl
  skip
  simp +decide (maxDischargeDepth:=200) only[go_sem,Nat.reduceBEq,hg2,hem,hfl,List.headD_cons]<;>(repeat' first|rfl|constructor)
 case done=>intro xs b a' w' hd hinv h3;obtain⟨l,rfl,hp⟩:=hd;simp only[kZ] at h3;refine wpIn_seq (gH hE hm' [(4,.sl l.isEmpty 1 l (some 11))] [] (by kernel_rfl) h3 (by simp +decide (maxDischargeDepth:=200) only[go_sem,Nat.reduceBEq]<;>(repeat' first|rfl|constructor)) ?_);intro a4 w4 h4;exact wpIn_ret ⟨.inr rfl,_,_,_,_,_,_,h4,.inl (by simp only[Tryz.results86];rfl),l,hp,rfl⟩
 case stop=>intro b a' w' hrb h3;exact hrb.elim
theorem xR (g:Nat) (w:World):Calls Tryz.prog 35 #[.map (some g)] w fun e w'=>e= .returned (.func (.func 62) #[] #[.pointer (some ⟨w.heap.size,0,none⟩)])∧w'=w.alloc (.cells #[.map (some g)] 71):=by
 go_enter Tryz.func35,Tryz.ntmps35
 go_wp2
 go_ret
 exact⟨rfl,rfl⟩
theorem FO {B:Nat} {ks:List V} (hks:∀k∈ks,∃s:Int,k= .x (.int .i64 s)) (hlen:ks.length<=1000000) (hm:MapAt m w g ks vs) (hr:Rd m w (.pointer (some ⟨B,0,none⟩)) (.ip [.x (.map (some g))])) (hKg:eu<=g) (hj:(au []).J w):
 Calls Tryz.prog 60 #[.func (.func 62) #[] #[.pointer (some ⟨B,0,none⟩)]] w fun e w'=>∃v m' r,e= .returned v∧mL 1 ks r∧Rd m' w' v r∧(∀sz es k,r= .sl false sz es (some k)->∃g,RowIs m' w' v g sz es.length∧w.heap.size<=g)∧Step (fun _=>False) m w m' w'∧(au []).J w':=by
 have H:=xQ hks hlen hm hr hKg hj
 go_enter Tryz.func60,Tryz.ntmps60
 go_wp2_with (go_at_call 86;((with_reducible refine H.mono ?_);rintro e w1 ⟨v,m1,r,rfl,h1,h2,h3,h4,h5⟩))
 go_ret
 exact⟨v,m1,r,rfl,h1,h2,h3,h4,h5⟩
variable {n:Nat}
theorem xS {enc:Int->Value} {w1:World} {off:Nat} {d:Array Int} {os:Array Obj} {cur:Array Value} {ty:TypeId} {fr:Nat×Nat} (hh:w1.heap[g]?=some (.cells cur ty fr)):
 (Sort.grow (putRow enc (Sort.ahead w1 n) g off d) os).heap[g]?=some (.cells (putCells enc off d cur) ty fr)∧∀k,k<w1.heap.size->k≠g->(Sort.grow (putRow enc (Sort.ahead w1 n) g off d) os).heap[k]?=w1.heap[k]?:=by
 have hsz:(putRow enc (Sort.ahead w1 n) g off d).heap.size=w1.heap.size:=by simp
 refine⟨?_,fun k hk hn=>?_⟩
 . rw[Sort.heap_grow_old _ _ (by rw[hsz];exact ae hh)];show(w1.heap.modify g (onCells (putCells enc off d)))[g]?=_;rw[WO,Va rfl,hh];rfl
 . rw[Sort.heap_grow_old _ _ (by rw[hsz];exact hk)];show(w1.heap.modify g (onCells (putCells enc off d)))[k]?=_;rw[WO,Vh (fun e=>hn e.symm)]
theorem Ch {lv ks:List V} (hks:∀k∈ks,∃s:Int,k= .x (.int .i64 s)) (hp:lv.Perm ks):∃ss:List Int,lv=ss.map fun i=>V.x (.int .i64 i):=by
 have:∀l:List V,(∀k∈l,k∈ks)->∃ss:List Int,l=ss.map fun i=>V.x (.int .i64 i):=by
  intro l
  induction l with
  |nil=>exact fun _=>⟨[],rfl⟩
  |cons x l ih=>intro h;obtain⟨ss,rfl⟩:=ih (fun k hk=>h k (Vr _ hk));obtain⟨s,rfl⟩:=hks x (h x (Vv ..));exact⟨s::ss,rfl⟩
 exact this lv (fun k hk=>hp.mem_iff.1 hk)
theorem IP {B:Nat} {ks:List V} (hks:∀k∈ks,∃s:Int,k= .x (.int .i64 s)) (hlen:ks.length<=1000000) (hm:MapAt m w g ks vs) (hr:Rd m w (.pointer (some ⟨B,0,none⟩)) (.ip [.x (.map (some g))])) (hKg:eu<=g) (hj:(au []).J w)
 (hkeep:∀w',Below w.heap.size w w'->(au []).J w'):
 Calls Tryz.prog 34 #[.func (.func 62) #[] #[.pointer (some ⟨B,0,none⟩)]] w fun e w'=>∃(v:Value) (m':Lim) (l:List Int),e= .returned v∧(l.map fun i=>V.x (.int .i64 i)).Perm ks∧l.Pairwise (fun a b=>a<=b)∧(au []).J w'∧Step (fun _=>False) m w m' w'∧Rd m' w' v (.sl l.isEmpty 1 (l.map fun i=>V.x (.int .i64 i)) none):=by
 have H:=FO hks hlen hm hr hKg hj
 go_enter Tryz.func34,Tryz.ntmps34
 go_wp2_with (go_at_call 60;((with_reducible refine H.mono ?_);rintro e w1 ⟨v,m1,r,rfl,⟨lv,hp,rfl⟩,h2,h3,h4,h5⟩))
 have hlv:=hp.length_eq;obtain⟨ss,rfl⟩:=Ch hks hp;by_cases hss:ss=[]
 . subst hss;have hv:v= .slice none 0 0:=by cases h2;rfl
   subst hv
   go_wp2_with (go_at_call 61;((with_reducible refine(Tryz.slices_Sort_int_none none 0 w1).mono ?_);rintro e w2 ⟨rfl,rfl⟩))
   go_ret
   exact⟨_,m1,[],rfl,hp,List.Pairwise.nil,h5,h4,.nil 1 none⟩
 . have hne:(ss.map fun i=>V.x (.int .i64 i)).isEmpty=false:=by cases ss with
    |nil=>exact absurd rfl hss
    |cons x l=>rfl
   rw[hne] at h2 h3;obtain⟨g2,⟨lim,cap,cur,ty,hv,hh,hle,hsz⟩,hge⟩:=h3 _ _ _ rfl;subst hv;have hcell:∀j,j<ss.length->w1.cell? ⟨g2,0+j,none⟩=some (.int .i64 (ss.toArray[j]!)):=by intro j hj;have h6:=h2.cell1 rfl (i:=j) (u:= .int .i64 ss[j]) (by rw[U5,io hj];rfl);rw[Vt,h6];simp[hj]
   have hH:Go.Sort.Holds (Value.int .i64) w1 g2 0 ss.toArray:=fun j hj=>by refine⟨hcell j (by simpa using hj),?_⟩;simp[World.frozen?,hh]
   rw[eq] at hle;have hS:=Tryz.slices_Sort_int g2 0 cap ss w1 hH (ae hh) (by simp at hlv;omega);have hl:(ss.map fun i=>V.x (.int .i64 i)).length=ss.length:=eq ..;rw[hl]
   go_wp2_with (go_at_call 61;((with_reducible refine hS.mono ?_);rintro e w2 ⟨rfl,n,os,rfl⟩))
   go_ret
   generalize hso:ss.mergeSort (fun x y=>decide (x<=y))=so;have hsp:so.Perm ss:=by rw[<-hso];exact List.mergeSort_perm _ _
   have hsl:=hsp.length_eq;obtain⟨r1,r2⟩:=xS (enc:=Value.int .i64) (n:=n) (off:=0) (d:=so.toArray) (os:=os) hh;have hsz2:w1.heap.size<=(Sort.grow (putRow (Value.int .i64) (Sort.ahead w1 n) g2 0 so.toArray) os).heap.size:=by simp
   have hbel:Below w.heap.size w (Sort.grow (putRow (Value.int .i64) (Sort.ahead w1 n) g2 0 so.toArray) os):=⟨h4.os,h4.tape,h4.output,VA h4.ext.size hsz2,fun k hk=>(r2 k (VD hk h4.ext.size) (by omega)).trans (h4.same k hk (fun h=>h)).1⟩;generalize Sort.grow (putRow (Value.int .i64) (Sort.ahead w1 n) g2 0 so.toArray) os=w2 at r1 r2 hsz2 hbel;have hsn:so≠[]:=fun e=>hss (by rw[e] at hsl;exact Wa.1 hsl.symm)
   have hem:so.isEmpty=false:=by cases so with
    |nil=>exact absurd rfl hsn
    |cons x l=>rfl
   refine⟨.slice (some ⟨g2,0,none⟩) ss.length cap,aD m1 g2 none,so,rfl,?_,?_,hkeep _ hbel,Step.of_below hbel (fun k hk=>by rw[ah _ _ (by omega)];exact(h4.same k hk (fun h=>h)).2),?_⟩
   . exact(hsp.map _).trans hp
   . have hpw:so.Pairwise fun x y=>decide (x<=y)=true:=by
      rw[<-hso];exact List.pairwise_mergeSort (le:=fun x y=>decide (x<=y)) (fun a b c h1 h2=>iO (Int.le_trans (Vw h1) (Vw h2))) (fun a b=>by
       rw[We];rcases Int.le_total a b with h|h
       . exact .inl (iO h)
       . exact .inr (iO h)) ss
     exact hpw.imp (fun h=>Vw h)
   . rw[hem];have hlm:(so.map fun i=>V.x (.int .i64 i)).length=so.length:=eq ..;have:=Rd.sl (m:=aD m1 g2 none) (w:=w2) g2 0 cap 1 (so.map fun i=>V.x (.int .i64 i)) none (fun j=> .int .i64 ((so[j]?).getD 0)) (ae r1) (by rw[hlm];omega) (fun i e hi=>by
      rw[U5,U9] at hi;obtain⟨y,_,rfl⟩:=hi;rfl) (fun k hk=>by
      rw[hlm,Vq] at hk;have hkc:k<cur.size:=by omega
      rw[Vt,Box.cell r1,putCells,Array.getElem?_mapIdx,Vn hkc];simp[hk]) (fun fr hf=>by rw[ai] at hf;cases hf) (fun i e hi j d hd=>by
      rw[U5,U9] at hi;obtain⟨y,hy,rfl⟩:=hi;cases j with
      |succ j=>simp[V.cells] at hd
      |zero=>simp only[V.cells,WQ,Vu] at hd;subst hd;rw[Vq,Wj,hy];exact .x _)
     rw[hlm,hsl] at this;exact this
open Go Go.RowKit
def rowS (S:List (List Int)) (i:Int):List Int:=(S[i.toNat]?).getD []
inductive ReachI (S:List (List Int)) (i:Int):Int->Prop
 |one {r:Int} (h:r∈rowS S i):ReachI S i r
 |step {x r:Int} (h:ReachI S i x) (k:r∈rowS S x):ReachI S i r
def DInv (S:List (List Int)) (n:Nat) (p:Int) (seen opn:List Int):Prop:=
 seen.Nodup∧(∀x∈seen,0<=x∧x.toNat<n)∧(∀x∈seen,ReachI S p x)∧(∀x,(x=p∨x∈seen)->x∈opn∨∀r∈rowS S x,r∈seen)∧∀x∈opn,x=p∨x∈seen
def DIn (S:List (List Int)) (n:Nat) (p l:Int) (k:Nat) (seen opn:List Int):Prop:=
 seen.Nodup∧(∀x∈seen,0<=x∧x.toNat<n)∧(∀x∈seen,ReachI S p x)∧(∀x,(x=p∨x∈seen)->x∈opn∨x=l∨∀r∈rowS S x,r∈seen)∧(∀x∈opn,x=p∨x∈seen)∧(l=p∨l∈seen)∧∀r∈(rowS S l).take k,r∈seen
theorem DInv.start (S:List (List Int)) (n:Nat) (p:Int):DInv S n p [] [p]:=
 ⟨VV,fun _ h=>(by cases h),fun _ h=>(by cases h),fun x hx=> .inl (by
  rcases hx with rfl|hx
  . simp
  . cases hx),fun x hx=> .inl (by simpa using hx)⟩
variable {S:List (List Int)} {p l:Int} {seen o:List Int}
theorem DInv.pop (h:DInv S n p seen (o++[l])):DIn S n p l 0 seen o:=by
 obtain⟨h1,h2,h3,h4,h5⟩:=h;refine⟨h1,h2,h3,fun x hx=>?_,fun x hx=>h5 x (VQ _ hx),h5 l (by simp),fun r hr=>by simp at hr⟩;rcases h4 x hx with h|h
 . rcases Vl.1 h with h|h
   . exact .inl h
   . exact .inr (.inl (by simpa using h))
 . exact .inr (.inr h)
variable {k:Nat} {r:Int}
theorem DIn.skip (h:DIn S n p l k seen o) (hr:(rowS S l)[k]?=some r) (hs:r∈seen):DIn S n p l (k+1) seen o:=by
 obtain⟨h1,h2,h3,h4,h5,h6,h7⟩:=h;refine⟨h1,h2,h3,h4,h5,h6,fun x hx=>?_⟩;rw[aS hr] at hx;rcases Vl.1 hx with hx|hx
 . exact h7 x hx
 . rw[Vo.1 hx];exact hs
theorem DIn.push (h:DIn S n p l k seen o) (hr:(rowS S l)[k]?=some r) (hs:r∉seen) (hn:0<=r∧r.toNat<n):DIn S n p l (k+1) (seen++[r]) (o++[r]):=by
 obtain⟨h1,h2,h3,h4,h5,h6,h7⟩:=h;have hm:=Vd hr;refine⟨Wy.2 ⟨h1,by simp,fun a ha b hb e=>hs (by rw[<-Vo.1 hb,<-e];exact ha)⟩,fun x hx=>?_,fun x hx=>?_,fun x hx=>?_,fun x hx=>?_,h6.imp id (VQ _),fun x hx=>?_⟩
 . rcases Vl.1 hx with hx|hx
   . exact h2 x hx
   . rw[Vo.1 hx];exact hn
 . rcases Vl.1 hx with hx|hx
   . exact h3 x hx
   . rw[Vo.1 hx];rcases h6 with e|e
     . rw[e] at hm;exact .one hm
     . exact .step (h3 l e) hm
 . have old:∀x,(x=p∨x∈seen)->x∈o++[r]∨x=l∨∀q∈rowS S x,q∈seen++[r]:=fun x hx=>by
    rcases h4 x hx with h|h|h
    . exact .inl (VQ _ h)
    . exact .inr (.inl h)
    . exact .inr (.inr fun q hq=>VQ _ (h q hq))
   rcases hx with hx|hx
   . exact old x (.inl hx)
   . rcases Vl.1 hx with hx|hx
     . exact old x (.inr hx)
     . exact .inl (V7 _ hx)
 . rcases Vl.1 hx with hx|hx
   . exact(h5 x hx).imp id (VQ _)
   . exact .inr (V7 _ hx)
 . rw[aS hr] at hx;rcases Vl.1 hx with hx|hx
   . exact VQ _ (h7 x hx)
   . exact V7 _ hx
theorem DIn.done (h:DIn S n p l k seen o) (hk:(rowS S l).length<=k):DInv S n p seen o:=by
 obtain⟨h1,h2,h3,h4,h5,h6,h7⟩:=h;refine⟨h1,h2,h3,fun x hx=>?_,h5⟩;rcases h4 x hx with h|h|h
 . exact .inl h
 . right;subst h
   rwa [Vp hk] at h7
 . exact .inr h
theorem gV:∀{n:Nat} {l:List Int},l.Nodup->(∀x∈l,0<=x∧x.toNat<n)->l.length<=n:=by
 intro n l hn hl;have h1:(l.map Int.toNat).Nodup:=List.Pairwise.map _ (fun a b hab=>hab) ((List.pairwise_iff_forall_sublist.2 fun {a b} hs=>by have hp:=List.pairwise_iff_forall_sublist.1 hn hs;have ha:=hl a (hs.subset (by simp));have hb:=hl b (hs.subset (by simp));show a.toNat≠b.toNat;intro e;exact hp (by omega)):l.Pairwise fun a b=>a.toNat≠b.toNat)
 have h2:=dY h1 (l':=List.range n) (fun x hx=>by obtain⟨y,hy,rfl⟩:=U7.1 hx;exact VM.2 (hl y hy).2)
 simpa using h2
theorem DInv.all (h:DInv S n p seen []):∀x,x∈seen↔ReachI S p x:=by
 obtain⟨h1,h2,h3,h4,h5⟩:=h;refine fun x=>⟨h3 x,fun hx=>?_⟩
 induction hx with
 | one hr=>
   rcases h4 p (.inl rfl) with h|h
   . cases h
   . exact h _ hr
 | step _ hr ih=>
   rcases h4 _ (.inr ih) with h|h
   . cases h
   . exact h _ hr
open Classical in
noncomputable def fU (S:List (List Int)) (n:Nat) (p:Int):List Int:=((List.range n).filter fun j=>decide (ReachI S p ((j:Nat):Int))).map fun j=>((j:Nat):Int)
open Classical in
theorem eG {x:Int}:x∈fU S n p↔(0<=x∧x.toNat<n)∧ReachI S p x:=by
 unfold fU;rw[U7];constructor
 . rintro⟨j,hj,rfl⟩;obtain⟨h1,h2⟩:=VG.1 hj;exact⟨⟨by omega,by simpa using h1⟩,Vw h2⟩
 . rintro⟨⟨h1,h2⟩,h3⟩;have e:((x.toNat:Nat):Int)=x:=Int.toNat_of_nonneg h1;refine⟨x.toNat,VG.2 ⟨by simpa using h2,iO ?_⟩,e⟩;rw[e];exact h3
def T9 (a b:Int):Bool:=decide (a<b)
theorem IQ:Tot T9:=⟨fun a=>tl (by omega),fun a b c h k=>iO (by have:=Vw h;have:=Vw k;omega),fun a b h k=>by have:=WE h;have:=WE k;omega⟩
theorem xT (S:List (List Int)) (n:Nat) (p:Int):fp T9 (fU S n p):=by unfold fU fp;rw[Xz];refine List.Pairwise.imp (fun {a b} h=>iO (by omega)) (Wt WN (Xr (n:=n)))
theorem Ci {l:List Int} (h:DInv S n p seen []) (hp:l.Perm seen) (hl:l.Pairwise fun a b=>a<=b):l=fU S n p:=by
 have hn:l.Nodup:=hp.nodup_iff.2 h.1;have hs:fp T9 l:=(hl.and hn).imp (fun {a b} hab=>iO (by have:=hab.1;have:=hab.2;omega));refine iW IQ hs (xT S n p) (fun x=>?_);rw[hp.mem_iff,eG];constructor
 . exact fun hx=>⟨h.2.1 x hx,(h.all x).1 hx⟩
 . exact fun hx=>(h.all x).2 hx.2
theorem zH (a b:Int):qk Tryz.prog 20 3 (fc a) (fc b)=some (decide (a=b)):=by simp +decide only[go_sem]
theorem qc (a:Int):dU Tryz.prog 3 (fc a)=true:=by unfold dU;simp +decide [go_sem,plainK,mX]
theorem zI (L:List Int) (c:Int):kx Tryz.prog 71 (L.map fc) (uL L) (fc c) (.agg [])=some ((bz L c).map fc,uL (bz L c)):=qW Tryz.underlying71 zH qc L c
theorem uT (s:Nat) (L:List Int) (c:Int):fE Tryz.prog 71 (.mp s (L.map fc) (uL L)) (fc c) true=some (.tup [.agg [],.x (.bool (zj L c))]):=uh Tryz.underlying71 JJ zH qc s L c
abbrev QJ (C:List C3) (R S:List (List Int)):V:= .ip [.sl false 3 (C.map aa) none,.fm (ksI (plI 0 C)) (vsI (plI 0 C)),.sl false 1 (R.map rI) none,.sl false 1 (S.map rI) none]
def Ua (C:List C3) (R S:List (List Int)) (p:Int):Out->St->Prop
 | .normal,st=>∃seen,DInv S C.length p seen []∧gY st [(0,.ip [.sl false 3 (C.map aa) none,.fm (ksI (plI 0 C)) (vsI (plI 0 C)),.sl false 1 (R.map rI) none,.sl false 1 (S.map rI) none]),(7,.mp 23 (seen.map fc) (uL seen))]
 |_,_=>False
variable {G:List V}
theorem Lu {A:List Int} {i:Nat} {x:Int} (h:A[i]?=some x):(A.map fc++G)[i]?=some (fc x):=by have hi:=(Io.1 h).1;rw[Vg (by rw[eq];exact hi),U5,h];rfl
variable {i:Int}
theorem IR (h:i.toNat<S.length):(S.map rI)[i.toNat]?=some (rI (rowS S i)):=by unfold rowS;rw[U5,io h];rfl
theorem uU (h:r∈rowS S i):rowS S i∈S:=by
 unfold rowS at h⊢;cases hs:S[i.toNat]? with
 |none=>rw[hs] at h;cases h
 |some l=>exact Vd hs
theorem uV:(o.map fc++G).take o.length++[fc r]=(o++[r]).map fc++[]:=by rw[WJ (by simp),Vp (by simp),Vy,Wq];rfl
open Classical in
noncomputable def rp (p:PD×C3):Option V:=if xJ p.1 then some (if gN p.2 p.1.1=true then .sl false 3 (((fU p.1.2.2 p.1.1.length (cz (plI 0 p.1.1) p.2)).map (mu p.1.1)).map aa) none else .sl true 0 [] none) else none
theorem xU : bM 18 (FE dZ rp):=by
 have hE:EnvOK (cG [(32,FE gi lJ),(33,FE fi xH)] (fun d=>d==25)):=qH _ _ ⟨lK,jc,trivial⟩;have hm:(cG [(32,FE gi lJ),(33,FE fi xH)] (fun d=>d==25)).P.follows .mixedOrders=true:=by kernel_rfl
 refine kh (E:=(cG [(32,FE gi lJ),(33,FE fi xH)] (fun d=>d==25))) (n:=72) (k:=2) hE Tryz.func18 rfl (fun a w=>Tryz.call18 a w) Tryz.ntmps18 (by decide) (by decide) ?_;intro us r m w a0 hF hdat h1;obtain⟨⟨⟨C,R,S⟩,ws,wc,wr⟩,hus,hG⟩:=aZ hF;clear hF;subst hus;unfold rp at hG;split at hG
 case isFalse=>cases hG
 rename_i hok;cases hG;clear hdat;replace h1:=h1 rfl;refine⟨rfl,?_⟩;have k1:=ou hok (ws,wc,wr);obtain⟨hn,h4,hR,hS,hrr,hss⟩:=hok;simp only at hn h4 hR hS hrr hss k1;have hcx:aa (ws,wc,wr)= .agg [.x (.string ws),.x (.int .i64 wc),.x (.int .i64 wr)]:=rfl;have hpd:jR (C,R,S)=QJ C R S:=rfl;simp only[dZ] at h1;rw[hcx,hpd] at k1 h1;simp only[QJ] at k1 h1;simp only;refine wpIn_seq (gH hE hm [(0,.ip [.sl false 3 (C.map aa) none,.fm (ksI (plI 0 C)) (vsI (plI 0 C)),.sl false 1 (R.map rI) none,.sl false 1 (S.map rI) none]),(3,.ptr 3 0),(4,.sl true 0 [] none)] [(3,[.x (.string ws),.x (.int .i64 wc),.x (.int .i64 wr)])] (by kernel_rfl) h1 (by simp +decide (maxDischargeDepth:=200) only[go_sem,Nat.reduceBEq]<;>(repeat' first|rfl|constructor)) ?_);clear h1 a0;intro a0 w1 h1;refine wpIn_seq (gH hE hm [(0,.ip [.sl false 3 (C.map aa) none,.fm (ksI (plI 0 C)) (vsI (plI 0 C)),.sl false 1 (R.map rI) none,.sl false 1 (S.map rI) none]),(4,.sl true 0 [] none),(5,.x (.int .i64 (cz (plI 0 C) (ws,wc,wr)))),(6,.x (.bool (gN (ws,wc,wr) C)))] [] (by kernel_rfl) h1 (by simp +decide (maxDischargeDepth:=200) only[go_sem,Nat.reduceBEq,U2,Vq,k1]<;>(repeat' first|rfl|constructor)) ?_);clear h1 a0 w1;intro a0 w1 h1;cases hb:gN (ws,wc,wr) C with
 | false=>
   rw[hb] at h1;rw[Vh (by decide)];refine wpIn_seq (wpIn_mono (kR hE hm (K:=Bt [(4,.sl true 0 [] none)] []) (by kernel_rfl) (by kernel_rfl) h1 (by simp +decide (maxDischargeDepth:=200) only[go_sem,Nat.reduceBEq]<;>(repeat' first|rfl|constructor))) ?_);rintro e a8 w8 ⟨o,st8,ho,hK,h8⟩;cases o with
   |normal=>exact hK.elim
   |exit i=>exact hK.elim
   |ret=>cases e<;>simp only[fM,Vu,reduceCtorEq] at ho;exact⟨.inr rfl,_,_,_,_,_,h8.le (aK hK.1 hK.2),by simp +decide (maxDischargeDepth:=200) only[go_sem,Nat.reduceBEq,U2,Vq]⟩
 | true =>
   rw[hb] at h1;rw[Va rfl];obtain⟨ci,hci⟩:=lO hb;have hz:=pT (k:=0) hn hci;rw[Vt] at hz;have hil:=(Io.1 hci).1;have hp:0<=cz (plI 0 C) (ws,wc,wr)∧(cz (plI 0 C) (ws,wc,wr)).toNat<C.length:=by rw[hz];exact⟨by omega,by simpa using hil⟩
   generalize cz (plI 0 C) (ws,wc,wr)=p at h1 hp;refine wpIn_seq (gH hE hm [(0,.ip [.sl false 3 (C.map aa) none,.fm (ksI (plI 0 C)) (vsI (plI 0 C)),.sl false 1 (R.map rI) none,.sl false 1 (S.map rI) none]),(4,.sl true 0 [] none),(5,.x (.int .i64 p))] [] (by kernel_rfl) h1 (by simp +decide (maxDischargeDepth:=200) only[go_sem,Nat.reduceBEq]<;>(repeat' first|rfl|constructor)) ?_);clear h1 a0 w1;intro a0 w1 h1;refine wpIn_seq (gH hE hm [(0,.ip [.sl false 3 (C.map aa) none,.fm (ksI (plI 0 C)) (vsI (plI 0 C)),.sl false 1 (R.map rI) none,.sl false 1 (S.map rI) none]),(5,.x (.int .i64 p)),(7,.mp 23 [] [])] [] (by kernel_rfl) h1 (by simp +decide (maxDischargeDepth:=200) only[go_sem,Nat.reduceBEq]<;>(repeat' first|rfl|constructor)) ?_);clear h1 a0 w1;intro a0 w1 h1;refine wpIn_seq (gH hE hm [(0,.ip [.sl false 3 (C.map aa) none,.fm (ksI (plI 0 C)) (vsI (plI 0 C)),.sl false 1 (R.map rI) none,.sl false 1 (S.map rI) none]),(7,.mp 23 [] []),(8,.row 25 1 1)] [(25,[fc p])] (by kernel_rfl) h1 (by simp +decide (maxDischargeDepth:=200) only[go_sem,Nat.reduceBEq]<;>(repeat' first|rfl|constructor)) ?_);clear h1 a0 w1;intro a0 w1 h1;refine wpIn_seq (wpIn_mono (kR hE hm (K:=Ua C R S p) (by kernel_rfl) (by kernel_rfl) h1 ?run) ?after)
   case run =>
    simp +decide (maxDischargeDepth:=200) only[go_sem,Nat.reduceBEq,U2,Vq];refine aI (X:={q:(List Int×List Int)×List V×Bool//DInv S C.length p q.1.1 q.1.2∧q.1.2.length<=q.1.1.length+1}) (fun q=>[(0,.ip [.sl false 3 (C.map aa) none,.fm (ksI (plI 0 C)) (vsI (plI 0 C)),.sl false 1 (R.map rI) none,.sl false 1 (S.map rI) none]),(7,.mp 23 (q.1.1.1.map fc) (uL q.1.1.1)),(8,.row (if q.1.2.2=true then 25 else 65) 1 q.1.1.2.length)]) (fun q=>[((if q.1.2.2=true then 25 else 65),q.1.1.2.map fc++q.1.2.1)]) (fun q=>2*(C.length-q.1.1.1.length)+q.1.1.2.length) ⟨(([],[p]),[],true),DInv.start S C.length p,by simp⟩ (by simp +decide (maxDischargeDepth:=200) only[go_sem,Nat.reduceBEq]<;>(repeat' first|rfl|constructor)) (by simp +decide (maxDischargeDepth:=200) only[go_sem,Nat.reduceBEq]<;>(repeat' first|rfl|constructor)) (fun⟨⟨⟨seen,opn⟩,G,b⟩,hinv,hol0⟩=>?_);simp only at hinv hol0⊢;have hsl:=gV hinv.1 hinv.2.1;rcases List.eq_nil_or_concat opn with e|⟨o,l,e⟩
    . subst e;have d0:decide ((0:Int)<((([]:List Int).length:Nat):Int))=false:=rfl;cases b
      . simp +decide (maxDischargeDepth:=200) only[go_sem,Nat.reduceBEq,U2,Vq,d0];exact⟨seen,hinv,by simp +decide (maxDischargeDepth:=200) only[go_sem,Nat.reduceBEq,U2,Vq],by simp +decide (maxDischargeDepth:=200) only[go_sem,Nat.reduceBEq,U2,Vq],trivial⟩
      . simp +decide (maxDischargeDepth:=200) only[go_sem,Nat.reduceBEq,U2,Vq,d0];exact⟨seen,hinv,by simp +decide (maxDischargeDepth:=200) only[go_sem,Nat.reduceBEq,U2,Vq],by simp +decide (maxDischargeDepth:=200) only[go_sem,Nat.reduceBEq,U2,Vq],trivial⟩
    . rw [List.concat_eq_append] at e;subst e;have hol:(o++[l]).length=o.length+1:=by simp
      have hd:=hinv.pop;have hl:0<=l∧l.toNat<C.length:=by
       rcases hd.2.2.2.2.2.1 with e|e
       . rw[e];exact hp
       . exact hinv.2.1 l e
      rw[hol] at hol0;have d0:decide ((0:Int)<((o.length+1:Nat):Int))=true:=iO (by omega);have w1:ax .i64 (((o.length+1:Nat):Int)-1)=(o.length:Int):=by rw[gw,IntKind.wrap_i64];omega
      have c1:(0:Int)<=(o.length:Int):=by omega
      have c2:(o.length:Int)<((o.length+1:Nat):Int):=by omega
      have c3:(o.length:Int)<=((o.length+1:Nat):Int):=by omega
      have r1:((o++[l]).map fc++G)[o.length]?=some (fc l):=Lu (by simp);have r2:=IR (S:=S) (i:=l) (by omega);have l0:=hl.1;have hrs:∀r∈rowS S l,0<=r∧r.toNat<C.length:=fun r hr=>(hss _ (uU hr)).2 r hr
      have hrl:(rowS S l).length<=100000000:=by
       cases hh:rowS S l with
       |nil=>simp
       |cons x t=>rw[<-hh];exact(hss _ (uU (by rw[hh];exact Vv ..))).1
      have hsz:rowS S l≠[]->Ln (rowS S l)=1:=fun h=>by
       unfold Ln;cases hh:rowS S l with
       |nil=>exact absurd hh h
       |cons x t=>rfl
      have hbox:∃G',(o++[l]).map fc++G=o.map fc++G':=⟨fc l::G,by simp⟩;obtain⟨G',hG'⟩:=hbox;rw[hG'] at r1;obtain⟨rs,hrse⟩:∃rs,rs=rowS S l:=⟨_,rfl⟩;simp only[rI] at r2;rw[<-hrse] at r2 hrs hrl hsz;have inner:∀(nm:Nat) (b':Bool),nm=(if b'=true then 25 else 65)->True:=fun _ _ _=>trivial
      cases b
      . simp +decide (maxDischargeDepth:=200) only[go_sem,Nat.reduceBEq,U2,Vq,hol,hG',d0,w1,c1,c2,c3,r1,r2,l0,eq];refine aI (X:={q:(List Int×List Int)×(Nat×List V)×Bool//DIn S C.length p l q.2.1.1 q.1.1 q.1.2∧q.1.2.length<=q.1.1.length∧q.2.1.1<=rs.length∧2*(C.length-q.1.1.length)+q.1.2.length<=2*(C.length-seen.length)+o.length}) (fun q=>[(0,.ip [.sl false 3 (C.map aa) none,.fm (ksI (plI 0 C)) (vsI (plI 0 C)),.sl false 1 (R.map rI) none,.sl false 1 (S.map rI) none]),(7,.mp 23 (q.1.1.1.map fc) (uL q.1.1.1)),(8,.row (if q.1.2.2=true then 25 else 65) 1 q.1.1.2.length),(45,.sl rs.isEmpty (Ln rs) (rs.map fc) none),(46,.x (.int .i64 (rs.length:Int))),(47,.x (.int .i64 ((q.1.2.1.1:Nat):Int)))]) (fun q=>[((if q.1.2.2=true then 25 else 65),q.1.1.2.map fc++q.1.2.1.2)]) (fun q=>rs.length-q.1.2.1.1) ⟨((seen,o),(0,G'),false),hd,by simp only;omega,VJ _,Vb _⟩ (by simp +decide (maxDischargeDepth:=200) only[go_sem,Nat.reduceBEq,VO]<;>(repeat' first|rfl|constructor)) (by simp +decide (maxDischargeDepth:=200) only[go_sem,Nat.reduceBEq]<;>(repeat' first|rfl|constructor)) (fun⟨⟨⟨sn,op⟩,⟨k,H⟩,c⟩,hdn,hop,hk,hmu⟩=>?_);simp only at hdn hop hk hmu⊢;have hsl2:=gV hdn.1 hdn.2.1;by_cases hkl:k<rs.length
        . have e0:decide ((k:Int)<(rs.length:Int))=true:=iO (by omega);have e1:(0:Int)<=(k:Int):=by omega
          have e4:=aF (i:=k) (by omega);have q1:rs[k]?=some rs[k]:=io hkl;have q2:(rs.map fc)[k]?=some (fc rs[k]):=by rw[U5,q1];rfl
          have q3:=hrs rs[k] (V4 hkl);have q4:(rowS S l)[k]?=some rs[k]:=by rw[<-hrse];exact q1
          have hs1:=hsz (fun h=>by rw[h] at hkl;simp at hkl);rw[hs1];generalize rs[k]=y at q1 q2 q3 q4;have k2:=uT 23 sn y;by_cases hin:y∈sn
          . have hi:zj sn y=true:=iO hin;rw[hi] at k2;cases c
            . simp +decide (maxDischargeDepth:=200) only[go_sem,Nat.reduceBEq,U2,Vq,eq,e0,e1,e4,q2,k2];refine⟨⟨((sn,op),(k+1,H),false),hdn.skip q4 hin,hop,hkl,hmu⟩,?_,?_,?_⟩
              . simp +decide (maxDischargeDepth:=200) only[go_sem,Nat.reduceBEq,U2,Vq,hs1]
              . simp +decide (maxDischargeDepth:=200) only[go_sem,Nat.reduceBEq,U2,Vq]
              . simp only;omega
            . simp +decide (maxDischargeDepth:=200) only[go_sem,Nat.reduceBEq,U2,Vq,eq,e0,e1,e4,q2,k2];refine⟨⟨((sn,op),(k+1,H),true),hdn.skip q4 hin,hop,hkl,hmu⟩,?_,?_,?_⟩
              . simp +decide (maxDischargeDepth:=200) only[go_sem,Nat.reduceBEq,U2,Vq,hs1]
              . simp +decide (maxDischargeDepth:=200) only[go_sem,Nat.reduceBEq,U2,Vq]
              . simp only;omega
          . have hi:zj sn y=false:=tl hin;rw[hi] at k2;have k3:=zI sn y;have hps:bz sn y=sn++[y]:=Vh hin;rw[hps] at k3;have hnew:=hdn.push q4 hin q3;have hsl3:=gV hnew.1 hnew.2.1;rw[U4,WB] at hsl3;have m1:(op++[y]).length<=(sn++[y]).length:=by rw[U4,U4,WB];omega
            have m2:2*(C.length-(sn++[y]).length)+(op++[y]).length<=2*(C.length-seen.length)+o.length:=by rw[U4,U4,WB];omega
            have g1:∀(st:St) (d s:Nat) (nl:Bool) (t':Option Nat),bi (cG [(32,FE gi lJ),(33,FE fi xH)] (fun d=>d==25)) st (some d) 3 (.row s 1 op.length) (.sl nl 1 [fc y] t')=match st.b s with
             |some cs=>some ⟨aD (kill s (kill d st.t)) d (.row d 1 (op.length+1)),aD (aD st.b s none) d (some (cs.take (op.length*1)++(fc y).cells))⟩
             |none=>none:=fun st d s nl t'=>jn (E:=(cG [(32,FE gi lJ),(33,FE fi xH)] (fun d=>d==25))) LF L3 L4 (by decide) rfl rfl (by omega) (by omega) st d s nl t'
            have g2:=uV (o:=op) (G:=H) (r:=y);have hln:(op++[y]).length=op.length+1:=by simp
            cases c
            . simp +decide (maxDischargeDepth:=200) only[go_sem,Nat.reduceBEq,U2,Vq,eq,e0,e1,e4,q2,k2,k3,g1,g2];refine⟨⟨((sn++[y],op++[y]),(k+1,[]),false),hnew,m1,hkl,m2⟩,?_,?_,?_⟩
              . simp +decide (maxDischargeDepth:=200) only[go_sem,Nat.reduceBEq,U2,Vq,hs1,hln]
              . simp +decide (maxDischargeDepth:=200) only[go_sem,Nat.reduceBEq,U2,Vq,g2]
              . simp only;omega
            . simp +decide (maxDischargeDepth:=200) only[go_sem,Nat.reduceBEq,U2,Vq,eq,e0,e1,e4,q2,k2,k3,g1,g2];refine⟨⟨((sn++[y],op++[y]),(k+1,[]),false),hnew,m1,hkl,m2⟩,?_,?_,?_⟩
              . simp +decide (maxDischargeDepth:=200) only[go_sem,Nat.reduceBEq,U2,Vq,hs1,hln]
              . simp +decide (maxDischargeDepth:=200) only[go_sem,Nat.reduceBEq,U2,Vq,g2]
              . simp only;omega
        . have e0:decide ((k:Int)<(rs.length:Int))=false:=tl (by omega);have hfin:=hdn.done (by rw[<-hrse];omega);cases c
          . simp +decide (maxDischargeDepth:=200) only[go_sem,Nat.reduceBEq,U2,Vq,eq,e0];refine⟨⟨((sn,op),H,false),hfin,by simp only;omega⟩,?_,?_,?_⟩
            . simp +decide (maxDischargeDepth:=200) only[go_sem,Nat.reduceBEq,U2,Vq]
            . simp +decide (maxDischargeDepth:=200) only[go_sem,Nat.reduceBEq,U2,Vq]
            . simp only[hol];omega
          . simp +decide (maxDischargeDepth:=200) only[go_sem,Nat.reduceBEq,U2,Vq,eq,e0];refine⟨⟨((sn,op),H,true),hfin,by simp only;omega⟩,?_,?_,?_⟩
            . simp +decide (maxDischargeDepth:=200) only[go_sem,Nat.reduceBEq,U2,Vq]
            . simp +decide (maxDischargeDepth:=200) only[go_sem,Nat.reduceBEq,U2,Vq]
            . simp only[hol];omega
      . simp +decide (maxDischargeDepth:=200) only[go_sem,Nat.reduceBEq,U2,Vq,hol,hG',d0,w1,c1,c2,c3,r1,r2,l0,eq];refine aI (X:={q:(List Int×List Int)×(Nat×List V)×Bool//DIn S C.length p l q.2.1.1 q.1.1 q.1.2∧q.1.2.length<=q.1.1.length∧q.2.1.1<=rs.length∧2*(C.length-q.1.1.length)+q.1.2.length<=2*(C.length-seen.length)+o.length}) (fun q=>[(0,.ip [.sl false 3 (C.map aa) none,.fm (ksI (plI 0 C)) (vsI (plI 0 C)),.sl false 1 (R.map rI) none,.sl false 1 (S.map rI) none]),(7,.mp 23 (q.1.1.1.map fc) (uL q.1.1.1)),(8,.row (if q.1.2.2=true then 25 else 65) 1 q.1.1.2.length),(45,.sl rs.isEmpty (Ln rs) (rs.map fc) none),(46,.x (.int .i64 (rs.length:Int))),(47,.x (.int .i64 ((q.1.2.1.1:Nat):Int)))]) (fun q=>[((if q.1.2.2=true then 25 else 65),q.1.1.2.map fc++q.1.2.1.2)]) (fun q=>rs.length-q.1.2.1.1) ⟨((seen,o),(0,G'),true),hd,by simp only;omega,VJ _,Vb _⟩ (by simp +decide (maxDischargeDepth:=200) only[go_sem,Nat.reduceBEq,VO]<;>(repeat' first|rfl|constructor)) (by simp +decide (maxDischargeDepth:=200) only[go_sem,Nat.reduceBEq]<;>(repeat' first|rfl|constructor)) (fun⟨⟨⟨sn,op⟩,⟨k,H⟩,c⟩,hdn,hop,hk,hmu⟩=>?_);simp only at hdn hop hk hmu⊢;have hsl2:=gV hdn.1 hdn.2.1;by_cases hkl:k<rs.length
        . have e0:decide ((k:Int)<(rs.length:Int))=true:=iO (by omega);have e1:(0:Int)<=(k:Int):=by omega
          have e4:=aF (i:=k) (by omega);have q1:rs[k]?=some rs[k]:=io hkl;have q2:(rs.map fc)[k]?=some (fc rs[k]):=by rw[U5,q1];rfl
          have q3:=hrs rs[k] (V4 hkl);have q4:(rowS S l)[k]?=some rs[k]:=by rw[<-hrse];exact q1
          have hs1:=hsz (fun h=>by rw[h] at hkl;simp at hkl);rw[hs1];generalize rs[k]=y at q1 q2 q3 q4;have k2:=uT 23 sn y;by_cases hin:y∈sn
          . have hi:zj sn y=true:=iO hin;rw[hi] at k2;cases c
            . simp +decide (maxDischargeDepth:=200) only[go_sem,Nat.reduceBEq,U2,Vq,eq,e0,e1,e4,q2,k2];refine⟨⟨((sn,op),(k+1,H),false),hdn.skip q4 hin,hop,hkl,hmu⟩,?_,?_,?_⟩
              . simp +decide (maxDischargeDepth:=200) only[go_sem,Nat.reduceBEq,U2,Vq,hs1]
              . simp +decide (maxDischargeDepth:=200) only[go_sem,Nat.reduceBEq,U2,Vq]
              . simp only;omega
            . simp +decide (maxDischargeDepth:=200) only[go_sem,Nat.reduceBEq,U2,Vq,eq,e0,e1,e4,q2,k2];refine⟨⟨((sn,op),(k+1,H),true),hdn.skip q4 hin,hop,hkl,hmu⟩,?_,?_,?_⟩
              . simp +decide (maxDischargeDepth:=200) only[go_sem,Nat.reduceBEq,U2,Vq,hs1]
              . simp +decide (maxDischargeDepth:=200) only[go_sem,Nat.reduceBEq,U2,Vq]
              . simp only;omega
          . have hi:zj sn y=false:=tl hin;rw[hi] at k2;have k3:=zI sn y;have hps:bz sn y=sn++[y]:=Vh hin;rw[hps] at k3;have hnew:=hdn.push q4 hin q3;have hsl3:=gV hnew.1 hnew.2.1;rw[U4,WB] at hsl3;have m1:(op++[y]).length<=(sn++[y]).length:=by rw[U4,U4,WB];omega
            have m2:2*(C.length-(sn++[y]).length)+(op++[y]).length<=2*(C.length-seen.length)+o.length:=by rw[U4,U4,WB];omega
            have g1:∀(st:St) (d s:Nat) (nl:Bool) (t':Option Nat),bi (cG [(32,FE gi lJ),(33,FE fi xH)] (fun d=>d==25)) st (some d) 3 (.row s 1 op.length) (.sl nl 1 [fc y] t')=match st.b s with
             |some cs=>some ⟨aD (kill s (kill d st.t)) d (.row d 1 (op.length+1)),aD (aD st.b s none) d (some (cs.take (op.length*1)++(fc y).cells))⟩
             |none=>none:=fun st d s nl t'=>jn (E:=(cG [(32,FE gi lJ),(33,FE fi xH)] (fun d=>d==25))) LF L3 L4 (by decide) rfl rfl (by omega) (by omega) st d s nl t'
            have g2:=uV (o:=op) (G:=H) (r:=y);have hln:(op++[y]).length=op.length+1:=by simp
            cases c
            . simp +decide (maxDischargeDepth:=200) only[go_sem,Nat.reduceBEq,U2,Vq,eq,e0,e1,e4,q2,k2,k3,g1,g2];refine⟨⟨((sn++[y],op++[y]),(k+1,[]),false),hnew,m1,hkl,m2⟩,?_,?_,?_⟩
              . simp +decide (maxDischargeDepth:=200) only[go_sem,Nat.reduceBEq,U2,Vq,hs1,hln]
              . simp +decide (maxDischargeDepth:=200) only[go_sem,Nat.reduceBEq,U2,Vq,g2]
              . simp only;omega
            . simp +decide (maxDischargeDepth:=200) only[go_sem,Nat.reduceBEq,U2,Vq,eq,e0,e1,e4,q2,k2,k3,g1,g2];refine⟨⟨((sn++[y],op++[y]),(k+1,[]),false),hnew,m1,hkl,m2⟩,?_,?_,?_⟩
              . simp +decide (maxDischargeDepth:=200) only[go_sem,Nat.reduceBEq,U2,Vq,hs1,hln]
              . simp +decide (maxDischargeDepth:=200) only[go_sem,Nat.reduceBEq,U2,Vq,g2]
              . simp only;omega
        . have e0:decide ((k:Int)<(rs.length:Int))=false:=tl (by omega);have hfin:=hdn.done (by rw[<-hrse];omega);cases c
          . simp +decide (maxDischargeDepth:=200) only[go_sem,Nat.reduceBEq,U2,Vq,eq,e0];refine⟨⟨((sn,op),H,false),hfin,by simp only;omega⟩,?_,?_,?_⟩
            . simp +decide (maxDischargeDepth:=200) only[go_sem,Nat.reduceBEq,U2,Vq]
            . simp +decide (maxDischargeDepth:=200) only[go_sem,Nat.reduceBEq,U2,Vq]
            . simp only[hol];omega
          . simp +decide (maxDischargeDepth:=200) only[go_sem,Nat.reduceBEq,U2,Vq,eq,e0];refine⟨⟨((sn,op),H,true),hfin,by simp only;omega⟩,?_,?_,?_⟩
            . simp +decide (maxDischargeDepth:=200) only[go_sem,Nat.reduceBEq,U2,Vq]
            . simp +decide (maxDischargeDepth:=200) only[go_sem,Nat.reduceBEq,U2,Vq]
            . simp only[hol];omega
   case after=>
    rintro e a4 w4 ⟨o,st8,ho,hK,h3⟩;cases o with
    |ret=>exact hK.elim
    |exit i=>exact hK.elim
    | normal=>
      cases e<;>simp only[fM,Vu,reduceCtorEq] at ho;obtain⟨seen,hfin,hT⟩:=hK;replace h3:=h3.le (aK (bs:=[]) hT trivial);refine(show Code.wpIn _ _ _ _ _ _ _ from wpIn_seq (wpIn_region ?_));refine ei hE 0 2 [(67,.ip [.sl false 3 (C.map aa) none,.fm (ksI (plI 0 C)) (vsI (plI 0 C)),.sl false 1 (R.map rI) none,.sl false 1 (S.map rI) none]),(68,.mp 23 (seen.map fc) (uL seen))] [] [2,3,4,5] (by decide) (by kernel_rfl) (by kernel_rfl) h3 (by simp +decide (maxDischargeDepth:=200) only[go_sem,Nat.reduceBEq]<;>(repeat' first|rfl|constructor)) ?_;clear h3 hT h1;intro a4 w4 h4;obtain⟨g,hg68⟩:=h4.map_ptr (i:=68) (s:=23) (ks:=seen.map fc) (vs:=uL seen) (by simp only[go_sem,Nat.reduceEqDiff,Vc,Vi,bL,aq]);refine kS (n:=72) (d:=69) (f:=35) (Kno.rd (.pointer (some ⟨w4.heap.size,0,none⟩)) (.ip [.x (.map (some g))])) rfl rfl rfl (by decide) rfl (fun a w=>Tryz.call35 a w) h4 (R:=fun e w'=>e= .returned (.func (.func 62) #[] #[.pointer (some ⟨w4.heap.size,0,none⟩)])∧w'=w4.alloc (.cells (Value.map (some g)).cells 71)) ?keys ?then2
      case keys=>intro m7 O7 hn7 _;have e1:a4.eval (.tmp 68)= .map (some g):=hg68;rw[show Array.map a4.eval #[.tmp 68]= #[a4.eval (.tmp 68)] from by simp,e1];exact xR g w4
      intro m7 O7 hn7 _ e w5 he;obtain⟨rfl,rfl⟩:=he;obtain⟨hs5,hr5⟩:=Jk (m:=m7) (w:=w4) (v:= .map (some g)) (ty:=71) rfl;refine⟨_,_,.undef,rfl,hs5,hE.keep [] _ _ (fun x hx=>by cases hx) hn7.J (hs5.bel (fun k _ h=>h.elim)),.undef _,hr5,fun h5=>?_⟩;have hz:a4.tmps.size=72:=by obtain⟨_,_,hr⟩:=hn7.rel;exact hr.size
      have hf69:(a4.put (some 69) (.func (.func 62) #[] #[.pointer (some ⟨w4.heap.size,0,none⟩)])).eval (.tmp 69)= .func (.func 62) #[] #[.pointer (some ⟨w4.heap.size,0,none⟩)]:=by show((a4.put (some 69) _).tmps.getD 69 Go.undef)=_;simp[Act.put,Ve,hz]
      have hf68:(a4.put (some 69) (.func (.func 62) #[] #[.pointer (some ⟨w4.heap.size,0,none⟩)])).tmps.getD 68 Go.undef= .map (some g):=by rw[show(a4.put (some 69) (.func (.func 62) #[] #[.pointer (some ⟨w4.heap.size,0,none⟩)])).tmps=a4.tmps.setIfInBounds 69 _ from rfl,bn _ _ _ _ (by rw[hz];decide),Vh (by decide)];exact hg68
      clear hn7 hs5 hr5 h4 hz hg68;generalize (a4.put (some 69) (.func (.func 62) #[] #[.pointer (some ⟨w4.heap.size,0,none⟩)]))=a5 at h5 hf69 hf68;generalize w4.alloc _=w5 at h5;obtain⟨m5,O5,q1,q2,q3,q4,q5,q6⟩:=h5;obtain⟨hmp,hO⟩:=q1.map_at (i:=68) (s:=23) (ks:=seen.map fc) (vs:=uL seen) (by simp only[go_sem,St.put,Nat.reduceEqDiff,Vc,Vi,bL,aq]) hf68;have hsl:=gV hfin.1 hfin.2.1;have hks:∀k∈seen.map fc,∃s:Int,k= .x (.int .i64 s):=by intro k hk;obtain⟨s,_,rfl⟩:=U7.1 hk;exact⟨s,rfl⟩
      have hS:=IP hks (by rw[eq];omega) hmp q5 (q1.K g hO) q1.J (fun w' hb=>hE.keep [] _ _ (fun x hx=>by cases hx) q1.J ⟨hb.os,hb.tape,hb.output,hb.size,fun k hk _=>hb.block k hk⟩);refine jz (i:=3) (rest:=[4,5]) rfl rfl rfl rfl (fun a w=>Tryz.call34 a w) (by rw[show Array.map a5.eval #[.tmp 69]= #[a5.eval (.tmp 69)] from by simp,hf69];exact hS) ?_;rintro e w6 ⟨v,m6,l,rfl,hperm,hpw,hj6,hst6,hrd6⟩;refine⟨v,rfl,?_⟩;have hpi:l.Perm seen:=by have:=hperm.map (fun u:V=>match u with| .x (.int .i64 i)=>i|_=>0);rw[Wk,Wk] at this;simpa[Function.comp_def] using this
      have hla:=Ci hfin hpi hpw;have h6:=One.after (Kn':=Kno.top) (d:=70) (by decide) (v:=v) (u:= .sl l.isEmpty 1 (l.map fc) none) q1 q2 q3 q4 q6 rfl hst6 hj6 hrd6 trivial;rw[dc] at h6;have k3:FE fi xH [.ip [.sl false 3 (C.map aa) none,.fm (ksI (plI 0 C)) (vsI (plI 0 C)),.sl false 1 (R.map rI) none,.sl false 1 (S.map rI) none],.sl l.isEmpty 1 (l.map fc) none]=some (.sl false 3 ((l.map (mu C)).map aa) none):=(bC pS xH ((C,.fm (ksI (plI 0 C)) (vsI (plI 0 C)),.sl false 1 (R.map rI) none,.sl false 1 (S.map rI) none),l.isEmpty,1,l)).trans (Va ⟨fun _=>rfl,by have:=hpi.length_eq;show l.length<=100000000;omega,fun i hi=>hfin.2.1 i (hpi.mem_iff.1 hi)⟩);rw[<-hla];clear hla hpi hpw hperm hS hmp hf69 hf68 q1 q2 q3 q4 q5 q6 hfin;refine ei hE 4 2 [(4,.sl false 3 ((l.map (mu C)).map aa) none)] [] [] (by decide) (by kernel_rfl) (by kernel_rfl) h6 (by simp +decide (maxDischargeDepth:=200) only[go_sem,Nat.reduceBEq,U2,Vq,k3]<;>(repeat' first|rfl|constructor)) ?_;clear h6;intro a7 w7 h7;exact wpIn_ret ⟨.inr rfl,_,_,_,_,_,h7,by simp +decide (maxDischargeDepth:=200) only[go_sem,Nat.reduceBEq,U2,Vq]⟩
end Go.Proofs.YtalkmhjanlljhaaGreat

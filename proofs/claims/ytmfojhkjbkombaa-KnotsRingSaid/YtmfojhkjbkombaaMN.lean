/- Chapter 12: package deps: the cells of a map, sorted. -/
import Derived.Test.YtmfojhkjbkombaaMQ
import Derived.Test.YtmfojhkjbkombaaMH
import Derived.Test.YtmfojhkjbkombaaMU
import Derived.Test.YtmfojhkjbkombaaMD
namespace Go.Proofs.Ytmfojhkjbkombaa
set_option linter.unusedSimpArgs false
set_option maxHeartbeats 16000000
set_option maxRecDepth 100000
open Go Go.RowKit
open Go.Sort (PermIn SortedIn)
open Go.ChangeMaps (setBlock)
attribute [go_sem] Try.results15 Try.results26
def bG (L:List CI):List C3:=(L.map fun p=>p.1).foldl fy []
theorem kH (L:List CI):iF ab (bG L):=nV _ List.Pairwise.nil
theorem gG (L:List CI) (c:C3):c∈bG L↔c∈L.map fun p=>p.1:=by unfold bG;rw[nU];simp
def mr (L:List CI):List V:=[.fm (ksI L) (vsI L)]
theorem D9 (p q:List CI) (e:mr p=mr q):p=q:=by
 simp only[mr,Z2,V.fm.injEq,aaZ] at e;obtain⟨h1,h2⟩:=e;have h3:(p.map fun p=>p.1)=q.map fun p=>p.1:=bm cA h1
 have h4:(p.map fun p=>p.2)=q.map fun p=>p.2:=by
  have e1:∀L:List CI,vsI L=(L.map fun p=>p.2).map fun i=>V.x (.int .i64 i):=fun L=>by unfold vsI;rw[aat];rfl
  rw[e1,e1] at h2;exact bm (fun a b e=>by cases e;rfl) h2
 apply aaz;intro i;have a1:=abo (fun l=>l[i]?) h3;have a2:=abo (fun l=>l[i]?) h4;simp only[Io] at a1 a2;cases hp:p[i]? with
 | none=>rw[hp] at a1;cases hq:q[i]? with
   |none=>rfl
   |some y=>rw[hq] at a1;cases a1
 | some y=>rw[hp] at a1 a2;cases hq:q[i]? with
   |none=>rw[hq] at a1;cases a1
   |some z=>rw[hq] at a1 a2;obtain⟨y1,y2⟩:=y;obtain⟨z1,z2⟩:=z;simp only[aah,ZR] at a1 a2;rw[a1,a2]
def Ir (L:List CI):Prop:=sv L∧L.length<=400∧∀p∈L,p.1.1.size<=281474976710656
open Classical in
noncomputable def OV (L:List CI):Option V:=if Ir L then some (.sl false 3 ((bG L).map aa) none) else none
def YB:V->C3
 | .agg [.x (.string s),.x (.int _ c),.x (.int _ r)]=>(s,c,r)
 |_=>(⟨#[]⟩,0,0)
def r9 (sp:List (MapEntry×V)):Nat:=if sp.isEmpty then 8 else 18
theorem Ea (sp:List (MapEntry×V)) (p:MapEntry×V):r9 (sp++[p])=18:=by unfold r9;cases sp<;>rfl
def Kno.map (g:Nat) (ents:Array MapEntry) (clock:Nat):Kno:=⟨fun m w=>w.heap[g]?=some (.map ents clock)∧m g=none,fun _ _ _ _ h he=>⟨he.map _ _ _ h.2 h.1,he.noLim (dF h.1) h.2⟩⟩
theorem oC:EnvOK (bZ [(39,bS)] (fun _=>false) [] (fun i=>i==3) (fun _=>false)):=kq _ _ _ _ _ ⟨lf,trivial⟩ trivial
theorem Eb:∀l:List V,(∀k∈l,∃p:C3,k=aa p)->∃ss:List C3,l=ss.map aa:=by
 intro l
 induction l with
 |nil=>exact fun _=>⟨[],rfl⟩
 |cons x l ih=>intro h;obtain⟨ss,rfl⟩:=ih (fun k hk=>h k (ZI _ hk));obtain⟨s,rfl⟩:=h x (ZP ..);exact⟨s::ss,rfl⟩
def Tv:Option Code->Code
 |some (Code.seq _ (Code.seq _ (Code.seq _ c)))=>c
 |_=>Code.skip
noncomputable def Tw:Code:=Tv Try.f26.body
theorem pu:∀{a b:List C3},(a.map aa).Perm (b.map aa)->a.Perm b:=by
 intro a b h;have e:∀l:List C3,(l.map aa).map YB=l:=fun l=>by
  rw[aat]
  conv=>rhs;rw[<-List.map_id l]
  exact aaN fun p _=>rfl
 have:=h.map YB
 rwa [e,e] at this
def Bj (L:List CI):Prop:=∀(m:Lim) (w:World) (a':Act) (w':World) (l:List C3) (tok:Nat),l.Perm (L.map fun p=>p.1)->One (bZ [(39,bS)] (fun _=>false) [] (fun i=>i==3) (fun _=>false)) 40 ⟨[],Kno.top,fun _=>true,#[],fun _=>False,m,w⟩ (am [(3,.ptr 3 0)] [(3,[.sl false 3 (l.map aa) (some tok)])]) a' w'->Tw.wpIn (aX none) 0 Try.prog (fun e a' w'=>(e=Exit.normal∨e=Exit.ret)∧∃D' Kn W' t' st',One (bZ [(39,bS)] (fun _=>false) [] (fun i=>i==3) (fun _=>false)) 40 ⟨D',Kn,W',t',fun _=>False,m,w⟩ st' a' w'∧dW (bZ [(39,bS)] (fun _=>false) [] (fun i=>i==3) (fun _=>false)) st' Try.f26.results.toList=some (.sl false 3 ((bG L).map aa) none)) a' w'
theorem Ec (hrest:∀L,Ir L->Bj L):dA 26 (FE mr OV):=by
 have hE:EnvOK (bZ [(39,bS)] (fun _=>false) [] (fun i=>i==3) (fun _=>false)):=oC;have hm:(bZ [(39,bS)] (fun _=>false) [] (fun i=>i==3) (fun _=>false)).P.follows .mixedOrders=true:=A0a
 refine nH (E:=(bZ [(39,bS)] (fun _=>false) [] (fun i=>i==3) (fun _=>false))) (n:=40) (k:=1) hE Try.func26 rfl (fun a w=>Try.call26 a w) Try.ntmps26 A0b A0b ?_;intro us r m w a hF hdat h0;obtain⟨L,hus,hG⟩:=bL hF;clear hF;subst hus;unfold OV at hG;split at hG
 case isFalse=>cases hG
 rename_i hok;cases hG;have hrest:=hrest L hok;obtain⟨hn,h400,hsz⟩:=hok;replace h0:=h0 rfl;refine⟨rfl,?_⟩;simp only[mr] at h0;refine wpIn_seq (t8 hE hm [(0,.fm (ksI L) (vsI L))] [] A0a h0 A0d ?_);clear h0 a;intro a w1 h1;refine wpIn_seq (wpIn_region ?_);refine AH hE 0 1 [(0,.fm (ksI L) (vsI L)),(6,.fm (ksI L) (vsI L))] [] [1,2,3,4] A0b A0a h1 A0d ?_;clear h1 a w1;intro a w1 h1;obtain⟨g,ents,clock,he6,hh1,hrd1,hlt,hnd⟩:∃g ents clock,a.tmps.getD 6 Go.undef= .map (some g)∧w1.heap[g]?=some (.map ents clock)∧ents.size=L.length∧(∀e∈ents.toList,e.born<clock)∧(ents.toList.map (·.born)).Nodup:=by obtain⟨m1,O1,hn1,_⟩:=h1;have hrd:=dJ hn1 6 (u:= .fm (ksI L) (vsI L)) A0g rfl;obtain⟨g,ents,clock,e,q1,q2,q3,q4,_⟩:=hrd.fm_at;refine⟨g,ents,clock,e,q1,?_,q3,q4⟩;have:=q2.len.1;simp only[ksI,io,ZH] at this;exact this
 refine rE (i:=1) (rest:=[2,3,4]) (d:=7) rfl (fun c e=>by cases e) rfl A0b rfl rfl h1 (.int .i64 (ents.size:Int)) ?_ ?_
 . have e6:a.eval (.tmp 6)= .map (some g):=he6;have hu:Try.prog.underlying 58=some (.map (Try.prog.mapKeyOf 58) (Try.prog.mapElemOf 58)):=A0a
   have hl:=run_len_map (P:=Try.prog) w1 58 3 g ents clock hu hh1;simp only[execOp,resolve,Sem.run_bind,Sem.run_pure,Result.andThen_ok,invoke,builtin,List.map_toArray,ZN,aba,e6,fW,jT];rw[hl];rfl
 clear h1;intro a2 h1 ha2;rw[hrd1] at h1;have c0:(0:Int)<=(L.length:Int):=A0c
 have c1:(16*2:Int)*(L.length:Int)<=281474976710656:=A0c
 have c6:(L.length:Int)<=9223372036854775807:=A0c
 have c7:((32:Nat):Int)*(L.length:Int)<=281474976710656:=A0c
 refine AH hE 2 3 [(0,.fm (ksI L) (vsI L)),(3,.ptr 3 0)] [(3,[.sl false 3 [] (some 8)])] [] A0b A0a h1 (by simp +decide (maxDischargeDepth:=200) only[go_sem,Nat.reduceBEq,St.put,c0,c6,c7]<;>(repeat' first|rfl|constructor)) ?_;clear h1 hh1 he6 ha2 a a2 w1 hlt hnd hrd1 ents clock g;intro a w1 h1;refine wpIn_seq (wpIn_seq (wpIn_region ?_));refine AH hE 0 1 [(3,.ptr 3 0),(9,.fm (ksI L) (vsI L))] [(3,[.sl false 3 [] (some 8)])] [1] A0b A0a h1 A0d ?_;clear h1 a w1;intro a w1 h1;obtain⟨m1,O1,hn1,g2,g3,g4,g5,g6⟩:=h1;obtain⟨g,ents,clock,he9,hh1,hrd1,hlt,hnd,hmg⟩:=(dJ hn1 9 (u:= .fm (ksI L) (vsI L)) A0g rfl).fm_at;rw[wpOpsIn_cons];have he9':a.eval (.tmp 9)= .map (some g):=he9
 refine eB (v:= .pointer (some ⟨w1.heap.size,0,none⟩)) (w':=w1.alloc (.mapIter (some g) clock #[] clock)) rfl rfl A0J (by simp only[execOp,he9',Sem.run_bind,jF (P:=Try.prog) Try.underlying58 hh1,Result.andThen_ok,Sem.run_pure,jT]) ?_
 have hbl:Below w1.heap.size w1 (w1.alloc (.mapIter (some g) clock #[] clock)):=(Below.refl _ w1).alloc (Zt _) _;have hst:Step (fun _=>False) m1 w1 m1 (w1.alloc (.mapIter (some g) clock #[] clock)):=Step.of_below hbl (fun _ _=>rfl);have hJ1:(bZ [(39,bS)] (fun _=>false) [] (fun i=>i==3) (fun _=>false)).J (w1.alloc (.mapIter (some g) clock #[] clock)):=hE.keep [] _ _ (fun x hx=>by cases hx) hn1.J ⟨hbl.os,hbl.tape,hbl.output,hbl.size,fun k hk _=>hbl.block k hk⟩;have hKr:(bZ [(39,bS)] (fun _=>false) [] (fun i=>i==3) (fun _=>false)).K<=w1.heap.size:=hE.high _ hn1.J;have hws:w.heap.size<=w1.heap.size:=g3.ext.size;have hgr:g≠w1.heap.size:=by have:=ae hh1;omega
 have h2:=OneG.after (E:=(bZ [(39,bS)] (fun _=>false) [] (fun i=>i==3) (fun _=>false))) (n:=40) (Kn':=Kno.map g ents clock) (d:=10) (g:=w1.heap.size) (ob:= .mapIter (some g) clock #[] clock) A0b (v:= .pointer (some ⟨w1.heap.size,0,none⟩)) hn1 g2 g3 g4 g6 rfl hst hJ1 ⟨(Below.heap_alloc _ _ _ (ae hh1)).trans hh1,by rw[ag _ _ hgr];exact hmg⟩ (Zt _) (World.heap_new _ _);generalize w1.heap.size=rr at h2 hKr hws hgr;generalize w1.alloc _=w2 at h2⊢;clear hst hJ1 hbl hn1 g2 g3 g4 g5 g6 he9 he9' hmg;replace h2:=h2.le (st':=am [(3,.ptr 3 0),(10,.x (.pointer (some ⟨rr,0,none⟩)))] [(3,[.sl false 3 [] (some 8)])]) (aG A0X A0X);obtain⟨ps,hps⟩:∃ps,ps=ents.toList.zip (ksI L):=⟨_,rfl⟩;have hlen:=hrd1.len.1;have hp1:ps.map (fun p=>p.1)=ents.toList:=by rw[hps];exact List.map_fst_zip A0c
 have hp2:ps.map (fun p=>p.2)=ksI L:=by rw[hps];exact List.map_snd_zip A0c
 have hpb:(ps.map fun p=>p.1.born).Nodup:=by
  have:(ps.map fun p=>p.1.born)=(ps.map fun p=>p.1).map (·.born):=by rw[aat];rfl
  rw[this,hp1];exact hnd
 have hpk:∀p∈ps,p.2.val=some p.1.key:=fun p hp=>by obtain⟨i,hi⟩:=aaO hp;rw[hps,List.getElem?_zip_eq_some] at hi;obtain⟨k,v,q1,_,q2,_⟩:=hrd1.get i p.1 hi.1;rw[q1] at hi;cases hi.2;exact q2.2
 have hks:∀k∈ksI L,∃p:C3,k=aa p:=fun k hk=>by obtain⟨p,_,rfl⟩:=ZA.1 hk;exact⟨p,rfl⟩
 clear hrd1 hh1;refine(show wpOpsIn (aX none) 0 _ _ _ [] _ _ from ?_);refine wpIn_block ?_;refine cm (X:=List (MapEntry×V)) (fun sp a' w'=>(∀p∈sp,p∈ps)∧(sp.map fun p=>p.1.born).Nodup∧OneG (bZ [(39,bS)] (fun _=>false) [] (fun i=>i==3) (fun _=>false)) 40 ⟨[],Kno.map g ents clock,fun _=>true,#[],fun _=>False,m,w⟩ (am [(3,.ptr 3 0),(10,.x (.pointer (some ⟨rr,0,none⟩)))] [(3,[.sl false 3 (sp.map fun p=>p.2) (some (r9 sp))])]) a' w' rr (.mapIter (some g) clock (sp.map fun p=>p.1.born).toArray clock) (some 0)) (fun sp=>(ents.toList.filter fun e=> !(sp.map fun p=>p.1.born).contains e.born).length) [] ⟨(fun p hp=>by cases hp),Z8,h2⟩ ?_;clear h2 w2 a w1;rintro sp a2 w2 ⟨hsub,hspn,h2⟩;refine wpIn_seq (wpIn_region ?_);show wpOpsIn (aX none) 0 _ _ _ (0::List.range' 1 1++[]) _ _;rw[aan,wpOpsIn_cons];have h2':=h2;obtain⟨m2,O2,hn2,-,-,-,⟨k6,-⟩,-,-,k8,-⟩:=h2';have he10:a2.eval (.tmp 10)= .pointer (some ⟨rr,0,none⟩):=hn2.read_x 10 A0g;have hcont:∀b:Nat,((sp.map fun p=>p.1.born).toArray.contains b)=(sp.map fun p=>p.1.born).contains b:=fun b=>by simp
 rcases run_next_at (P:=Try.prog) w2 0 rr g clock clock _ ents clock k8 k6 hlt (Zt _) with⟨hz,hrun⟩|⟨e,he,w3,hw3,hrun⟩
 . --nothing is left
   refine eB (v:= .tuple #[.bool false]) (w':=w2) rfl rfl A0J A1a ?_;have h3:=OneG.putV (d:=11) (v:= .tuple #[.bool false]) (u:= .tup [.x (.bool false)]) A0b rfl h2 (fun _ _=>Rd.tup_iff.2 ⟨_,rfl,.x _,trivial⟩);rw[dM] at h3;refine fZ hE 1 1 [(3,.ptr 3 0),(12,.x (.bool false))] [(3,[.sl false 3 (sp.map fun p=>p.2) (some (r9 sp))])] [] A0b A0a A0a h3 A0d ?_;clear h3 h2 hn2;intro a3 w3 h3;refine wpIn_seq (A5 hE hm 0 [(3,.ptr 3 0)] [(3,[.sl false 3 (sp.map fun p=>p.2) (some (r9 sp))])] A0a A0a h3 A0d ?_);clear h3 a3 w3;intro a3 w3 h3;have hperm:sp.Perm ps:=ua hpb hsub hspn (fun p hp=>by
    have hz':Go.leftOf ents (sp.map fun p=>p.1.born).toArray= #[]:=aaR hz;have:p.1∈ents.toList:=by rw[<-hp1];exact ZA.2 ⟨p,hp,rfl⟩
    unfold Go.leftOf at hz';rw[Array.filter_eq_empty_iff] at hz';have:=hz' p.1 (by simpa using this);rw[hcont] at this;simpa using this)
   have hpk2:(sp.map fun p=>p.2).Perm (ksI L):=by rw[<-hp2];exact hperm.map _
   obtain⟨l,hl⟩:=Eb (sp.map fun p=>p.2) (fun k hk=>hks k (hpk2.mem_iff.1 hk));have hlp:l.Perm (L.map fun p=>p.1):=by rw[hl] at hpk2;exact pu hpk2
   have h4:=h3.one;rw[hl] at h4;obtain⟨m4,O4,r1,r2,r3,r4,_,r6⟩:=h4;exact hrest m w a3 w3 l (r9 sp) hlp ⟨m4,O4,r1,r2,r3,r4,trivial,r6⟩
 . --an entry has come
   obtain⟨hem,hnew⟩:=mem_left he;rw[hcont] at hnew;obtain⟨pe,hpe,rfl⟩:∃p∈ps,p.1=e:=by rw[<-hp1] at hem;obtain⟨p,hp,rfl⟩:=ZA.1 hem;exact⟨p,hp,rfl⟩
   obtain⟨e,kv⟩:=pe;simp only at hem hnew hrun;have hkey:=hpk _ hpe;simp only at hkey;have hkin:kv∈ksI L:=by rw[<-hp2];exact ZA.2 ⟨_,hpe,rfl⟩
   obtain⟨pc,rfl⟩:=hks kv hkin;have hkrd:∀(m:Lim) (w:World),Rd m w e.key (aa pc):=fun m w=>by have hk2:(aa pc).val=some e.key:=hkey;simp only[V.val,aa,abq,V.one,List.mapM_nil,abU,abt,aaH,aah,ZR] at hk2;rw[<-hk2];exact Rd.agg_iff.2 ⟨_,rfl,.x _,.x _,.x _,trivial⟩
   have hseen:(sp.map fun p=>p.1.born).toArray.push e.born=((sp++[(e,aa pc)]).map fun p=>p.1.born).toArray:=A0l
   rw[hseen] at hrun;have hs3:Step (fun k=>k=rr) m2 w2 m2 (setBlock w3 rr (.mapIter (some g) clock ((sp++[(e,aa pc)]).map fun p=>p.1.born).toArray clock)):=Step.iter hw3 k8;have hr3:=jE (o:= .mapIter (some g) clock ((sp++[(e,aa pc)]).map fun p=>p.1.born).toArray clock) hw3 k8;refine eB (v:= .tuple #[.bool true,e.key,e.val]) (w':=setBlock w3 rr (.mapIter (some g) clock ((sp++[(e,aa pc)]).map fun p=>p.1.born).toArray clock)) rfl rfl A0J A1a ?_;have h3:=(OneG.wrote hE h2 (fun l e=>by cases e) hws hKr (hs3.bel (fun k _ h=>Zn.2 h)) hr3).putV (d:=11) (v:= .tuple #[.bool true,e.key,e.val]) (u:= .tup [.x (.bool true),.undef,.undef]) A0b rfl (fun _ _=>Rd.tup_iff.2 ⟨_,rfl,.x _,.undef _,.undef _,trivial⟩);rw[dM] at h3;clear hn2 h2 k6 k8 hs3 hr3 hrun he10 hw3;generalize setBlock w3 rr _=w4 at h3;refine fZ hE 1 1 [(3,.ptr 3 0),(10,.x (.pointer (some ⟨rr,0,none⟩))),(12,.x (.bool true))] [(3,[.sl false 3 (sp.map fun p=>p.2) (some (r9 sp))])] [] A0b A0a A0a h3 A0d ?_;clear h3;intro a3 w5 h3;refine wpIn_seq (ii hE hm [(3,.ptr 3 0),(10,.x (.pointer (some ⟨rr,0,none⟩)))] [(3,[.sl false 3 (sp.map fun p=>p.2) (some (r9 sp))])] A0a A0a h3 A0d ?_);clear h3 a3 w5;intro a3 w5 h3;refine wpIn_block (wpIn_seq (wpIn_region ?_));show wpOpsIn (aX none) 0 _ _ _ (0::List.range' 1 3++[]) _ _;rw[aan,wpOpsIn_cons];have h3':=h3;obtain⟨m5,O5,hn5,-,-,-,⟨k6,-⟩,-,-,k8,-⟩:=h3';have he10:a3.eval (.tmp 10)= .pointer (some ⟨rr,0,none⟩):=hn5.read_x 10 A0g;have hen:=run_entry_at (P:=Try.prog) w5 rr g clock (sp.map fun p=>p.1.born).toArray ents clock e (by rw[hseen];exact k8) k6 hem hnd;refine eB (v:= .tuple #[e.key,e.val]) (w':=w5) rfl rfl A0J (by simp only[execOp,he10,Sem.run_bind,jT];rw[hen];rfl) ?_;have h4:=h3.putV (d:=13) (v:= .tuple #[e.key,e.val]) (u:= .tup [aa pc,.undef]) A0b rfl (fun _ _=>Rd.tup_iff.2 ⟨_,rfl,hkrd _ _,.undef _,trivial⟩);rw[dM] at h4;clear hn5 h3 k6 k8 he10 hen;refine fZ hE 1 3 [(3,.ptr 3 0),(10,.x (.pointer (some ⟨rr,0,none⟩))),(4,.ptr 4 0)] [(3,[.sl false 3 (sp.map fun p=>p.2) (some (r9 sp))]),(4,[.x (.string pc.1),.x (.int .i64 pc.2.1),.x (.int .i64 pc.2.2)])] [] A0b A0a A0a h4 A0E ?_;clear h4 a3 w5;intro a3 w5 h3;have hsub2:∀p∈sp++[(e,aa pc)],p∈ps:=fun p hp=>by
    rcases Zv.1 hp with hp|hp
    . exact hsub p hp
    . rw[Zn.1 hp];exact hpe
   have hspn2:((sp++[(e,aa pc)]).map fun p=>p.1.born).Nodup:=by
    rw[ZY,aaI];refine⟨hspn,A0l,fun b hb c hc e1=>?_⟩;have hc1:c=e.born:=by simpa using hc
    subst hc1;subst e1;have:(sp.map fun p=>p.1.born).contains e.born=true:=by simpa using hb
    rw[this] at hnew;cases hnew
   have hspl:sp.length<=400:=by
    have:=d8 (dP _ hspn) hsub;have h5:ps.length=L.length:=by have:=abo List.length hp2;simpa[ksI] using this
    omega
   have gg:=Bg (E:=(bZ [(39,bS)] (fun _=>false) [] (fun i=>i==3) (fun _=>false))) (el:=25) (n:=3) Cf Cg Ch A0b rfl (es:=sp.map fun p=>p.2) (es':=[aa pc]) (m:=3) (fun _=>rfl) rfl (by simp only[io,ZB,Z5];omega) (by simp only[io,ZB,Z5];omega);simp only[aa] at gg;refine ii hE hm [(3,.ptr 3 0),(10,.x (.pointer (some ⟨rr,0,none⟩)))] [(3,[.sl false 3 ((sp.map fun p=>p.2)++[aa pc]) (some 18)])] A0a A0a h3 (by simp +decide (maxDischargeDepth:=200) only[go_sem,Nat.reduceBEq,aa,gg]<;>(repeat' first|rfl|constructor)) ?_;clear h3 a3 w5 gg;intro a3 w5 h3;refine⟨sp++[(e,aa pc)],⟨hsub2,hspn2,?_⟩,?_⟩
   . rw[Ea,ZY];exact h3
   . refine iT (fun e'=> !(sp.map fun p=>p.1.born).contains e'.born) (fun e'=> !((sp++[(e,aa pc)]).map fun p=>p.1.born).contains e'.born) (fun y hy=>?_) _ e hem (by rw[hnew];rfl) A0l;simp only[ZY,List.contains_append,Bool.not_or,Zq] at hy;exact hy.1
variable {st:St} {ops:List Oper} {L:Nat}
theorem i6 {val:Nat->Value} {k:Nat} (h:(ops.all fun o=>o.dst !=some k)=true):(uT st val ops L).t k=st.t k:=by
 show(if ce ops L k=true then V.x (val k) else st.t k)=_;rw[Zs];unfold ce;intro hd;obtain⟨i,_,hi⟩:=aaF.1 hd;rw[Zq] at hi;split at hi
 . rename_i o ho;have:=Zw.1 h o (Zo ho);rw[eq_of_beq hi.2] at this;simp at this
 . cases hi.2
def Yq (V0:Value) (g i:Nat) (s:ByteArray) (k:Nat):Value:=
 if k=28 then V0 else if k=29 then .int .i64 (i:Int) else if k=30 then V0 else if k=31 then .int .i64 (i:Int) else if k=34 then .string s else if k=35 then .string s else .pointer (some ⟨g,i*3,none⟩)
def Tx:Nat->List Nat
 |4=>[30,31]
 |5=>[32]
 |6=>[33]
 |7=>[34]
 |8=>[28,29]
 |9=>[36]
 |10=>[35,37]
 |_=>[]
theorem Ed (l:List C3):(l.flatMap ci).length=l.length*3:=by
 induction l with
 |nil=>rfl
 |cons c l ih=>rw[aag,Zr,ih,ZB,show(ci c).length=3 from rfl];omega
theorem OD:∃fs fd,Try.prog.underlying 25=some (.struct fs)∧fs[0]?=some fd∧fd.offset=0∧aY Try.prog fd.type=some 1:=⟨_,_,Try.underlying25,rfl,rfl,A0a⟩
theorem Is (L:List CI) (hok:Ir L):Bj L:=by
 have hE:EnvOK (bZ [(39,bS)] (fun _=>false) [] (fun i=>i==3) (fun _=>false)):=oC;have hm:(bZ [(39,bS)] (fun _=>false) [] (fun i=>i==3) (fun _=>false)).P.follows .mixedOrders=true:=A0a
 intro m w a1 w1 l tok hp h1;obtain⟨hn,h400,hsz⟩:=hok;have hll:l.length=L.length:=hp.length_eq.trans A0l;have hnd:l.Nodup:=hp.nodup_iff.2 hn;obtain⟨g,cap,cur,ty,m0,h2,hcap,hgs,hKg,hrd⟩:=One.shedB (E:=(bZ [(39,bS)] (fun _=>false) [] (fun i=>i==3) (fun _=>false))) (fun _=>rfl) rfl (fun _ h=>h) rfl h1;have hlen:(l.map aa).length=l.toArray.size:=A0l
 rw[hlen] at h2 hcap hrd;replace h2:OneG (bZ [(39,bS)] (fun _=>false) [] (fun i=>i==3) (fun _=>false)) 40 ⟨[],Kno.top,fun _=>true,#[],fun _=>False,m,w⟩ (am [(3,.ptr 3 0)] [(3,[.x (.slice (some ⟨g,0,none⟩) l.toArray.size cap)])]) a1 w1 g (.cells cur ty (0,0)) (some 0):=h2;have hhg:w1.heap[g]?=some (.cells cur ty (0,0)):=by obtain⟨m5,O5,_,_,_,_,_,_,_,hh9,_⟩:=h2;exact hh9
 have hcur:=Hh rfl hrd hhg;clear h1 hrd hhg;refine wpIn_seq (wpIn_region ?_);refine fZ hE 0 1 [(3,.ptr 3 0),(19,.x (.slice (some ⟨g,0,none⟩) l.toArray.size cap))] [(3,[.x (.slice (some ⟨g,0,none⟩) l.toArray.size cap)])] [1,2,3] A0b A0a A0a h2 A0d ?_;clear h2 a1 w1;intro a7 w7 h7;have e19:a7.eval (.tmp 19)=(.slice (some ⟨g,0,none⟩) l.toArray.size cap):=h7.read_x 19 A0g;refine iW (i:=1) (rest:=[2,3]) (d:=20) rfl (fun c e=>by cases e) rfl A0b rfl rfl h7 (.iface 35 (.slice (some ⟨g,0,none⟩) l.toArray.size cap)) ?_ ?_
 . have hmi:(Instr.makeInterface 35 (.slice (some ⟨g,0,none⟩) l.toArray.size cap)).run Try.prog w7= .ok (.iface 35 (.slice (some ⟨g,0,none⟩) l.toArray.size cap)) w7:=run_makeInterface _ _ _ A0a;simp only[execOp,Sem.run_bind,e19,jT,hmi,Result.andThen_ok,Sem.run_pure]
 intro a8 h8 ha8;obtain⟨Bk,valsB,tyB,frB,e3,hB,hB0,hne⟩:∃Bk vals tyB frB,a8.tmps.getD 3 Go.undef= .pointer (some ⟨Bk,0,none⟩)∧w7.heap[Bk]?=some (.cells vals tyB frB)∧vals[0]?=some (.slice (some ⟨g,0,none⟩) l.toArray.size cap)∧Bk≠g:=by obtain⟨m5,O5,hn5,_,_,_,_,_,hng,_⟩:=h8;obtain⟨b,vals,ty,fr,e,e2,e3,e4⟩:=hn5.box_at (i:=3) (s:=3) (v:=(.slice (some ⟨g,0,none⟩) l.toArray.size cap)) A0i A0U;exact⟨b,vals,ty,fr,e,e2,e3,fun e=>hng (e▸e4)⟩
 refine iW (i:=2) (rest:=[3]) (d:=21) rfl (fun c e=>by cases e) rfl A0b rfl rfl h8 (.func (.func 37) #[] #[.pointer (some ⟨Bk,0,none⟩)]) ?_ ?_
 . have e3':a8.eval (.tmp 3)= .pointer (some ⟨Bk,0,none⟩):=e3;simp only[execOp,Sem.run_bind,Instr.makeFunc,Sem.run_pure,Result.andThen_ok];simp[e3']
 intro a9 h9 ha9;have e20:a9.tmps.getD 20 Go.undef= .iface 35 (.slice (some ⟨g,0,none⟩) l.toArray.size cap):=h9.read_x 20 A0i;have e21:a9.tmps.getD 21 Go.undef= .func (.func 37) #[] #[.pointer (some ⟨Bk,0,none⟩)]:=h9.read_x 21 A0i;obtain⟨hj9,hh9⟩:(aF []).J w7∧w7.heap[g]?=some (.cells cur ty (0,0)):=by obtain⟨m5,O5,hn5,_,_,_,_,_,_,hh9,_⟩:=h9;exact⟨hn5.J,hh9⟩
 have hS:=Og (blk:=g) (Bk:=Bk) (cap:=cap) (d:=l.toArray) hh9 (by simpa using hcur) hB hB0 hne hcap (by simp only[aaX];unfold MX;omega) hKg hj9;refine lw (i:=3) (rest:=[]) rfl rfl rfl rfl (fun a w=>Try.call36 a w) (by rw[show Array.map a9.eval #[.tmp 20,.tmp 21]= #[a9.tmps.getD 20 Go.undef,a9.tmps.getD 21 Go.undef] from by simp[Act.eval],e20,e21];exact hS) ?_;rintro e w8 ⟨rfl,d',hp',hs8,hb8,m8,hbx⟩;refine⟨_,rfl,?_⟩;obtain⟨hsrt,hpm⟩:=Hg hp' hs8 (by simpa using hnd);have hrn:d'.toList=bG L:=nT bQ hsrt (kH L) (fun c=>by rw[gG,hpm.mem_iff];exact hp.mem_iff)
 have hds:d'.size=l.toArray.size:=hp'.1;obtain⟨_,vals,ty8,xs,rest,hh8,hx8,hr8⟩:=hbx;rw[cH,hrn] at hr8;have hxs:=mi hr8;subst hxs;have hC:(bG L).length=l.toArray.size:=by rw[<-hrn,ZH,hds]
 have hmC:∀c∈bG L,c.1.size<=281474976710656:=fun c hc=>by rw[gG] at hc;obtain⟨p,hp,rfl⟩:=ZA.1 hc;exact hsz p hp
 have hN4:l.toArray.size<=400:=by simp only[aaX];omega
 generalize bG L=C at*;have h10:=(OneG.wrote hE h9 (fun l e=>by cases e) hgs hKg hb8 hh8).putV (d:=22) (v:= .tuple #[]) (u:= .undef) A0b rfl (fun _ _=> .undef _);show Exit.then _ _ Exit.normal _ _;generalize a9.put (some 22) _=a10 at h10;clear e19 h7 h8 ha8 e3 hB hB0 hne h9 ha9 e20 e21 hj9 hh9 hS hs8 hb8 hr8 hsrt hpm hcur hp' hh8;generalize hNN:l.toArray.size=N at*;have hvs:vals.toList=C.flatMap ci++rest:=hx8;clear hx8 hrn;refine wpIn_seq (wpIn_seq (wpIn_region ?_));refine fZ hE 0 1 [(3,.ptr 3 0),(23,.x (.slice (some ⟨g,0,none⟩) N cap))] [(3,[.x (.slice (some ⟨g,0,none⟩) N cap)])] [1,2] A0b A0a A0a h10 (by simp +decide (maxDischargeDepth:=200) only[go_sem,Nat.reduceBEq,St.put,dZ]<;>(repeat' first|rfl|constructor)) ?_;clear h10 a10;intro a1 w1 h1;have e23:a1.eval (.tmp 23)=(.slice (some ⟨g,0,none⟩) N cap):=h1.read_x 23 A0g;refine iW (i:=1) (rest:=[2]) (d:=24) rfl (fun c e=>by cases e) rfl A0b rfl rfl h1 (.int .i64 (N:Int)) ?_ ?_
 . have hu:(bZ [(39,bS)] (fun _=>false) [] (fun i=>i==3) (fun _=>false)).P.underlying 35=some (.slice 25):=A0a
   simp[execOp,resolve,invoke,builtin,Builtin.len_,e23,ax hu,goInt]
 clear h1;intro a2 h1 ha2;refine fZ hE 2 1 [(3,.ptr 3 0),(24,.x (.int .i64 (N:Int))),(25,.x (.int .i64 ((0:Nat):Int)))] [(3,[.x (.slice (some ⟨g,0,none⟩) N cap)])] [] A0b A0a A0a h1 (by simp +decide (maxDischargeDepth:=200) only[go_sem,Nat.reduceBEq,St.put,ZC]<;>(repeat' first|rfl|constructor)) ?_;clear h1 e23 ha2 a1 a2 w1;intro a1 w1 h1;refine wpIn_block ?_;refine cm (X:={i:Nat//i<=N}) (fun i a' w'=>OneG (bZ [(39,bS)] (fun _=>false) [] (fun i=>i==3) (fun _=>false)) 40 ⟨[],Kno.top,fun _=>true,#[],fun _=>False,m,w⟩ (am [(3,.ptr 3 0),(24,.x (.int .i64 (N:Int))),(25,.x (.int .i64 ((i.1:Nat):Int)))] [(3,[.x (.slice (some ⟨g,0,none⟩) N cap)])]) a' w' g (.cells vals ty8.ty ty8.fz) (some 0)) (fun i=>N-i.1) ⟨0,Z0 _⟩ h1 ?_;clear h1 a1 w1;rintro⟨i,hi0⟩ a1 w1 h1;simp only at hi0 h1⊢;by_cases hi:i<N
 . have c1:decide ((i:Int)<(N:Int))=true:=Zk A0c;have c4:=aQ (i:=i) A0c;refine wpIn_seq (ii hE hm [(3,.ptr 3 0),(24,.x (.int .i64 (N:Int))),(25,.x (.int .i64 (i:Int))),(26,.x (.bool true))] [(3,[.x (.slice (some ⟨g,0,none⟩) N cap)])] A0a A0a h1 A0w ?_);clear h1 a1 w1;intro a1 w1 h1;refine wpIn_seq (ii hE hm [(3,.ptr 3 0),(24,.x (.int .i64 (N:Int))),(25,.x (.int .i64 (i:Int)))] [(3,[.x (.slice (some ⟨g,0,none⟩) N cap)])] A0a A0a h1 A0d ?_);clear h1 a1 w1;intro a1 w1 h1;refine wpIn_seq (wpIn_block (wpIn_seq (ii hE hm [(3,.ptr 3 0),(24,.x (.int .i64 (N:Int))),(25,.x (.int .i64 (i:Int))),(5,.x (.int .i64 (i:Int)))] [(3,[.x (.slice (some ⟨g,0,none⟩) N cap)])] A0a A0a h1 A0d ?_)));clear h1 a1 w1;intro a1 w1 h1;have hiC:i<C.length:=A0c
   obtain⟨s,hs⟩:∃s,s=C[i].1:=⟨_,rfl⟩;have hs8:s.size<=281474976710656:=by rw[hs];exact hmC _ (Z1 hiC)
   have hcell:vals[i*3]?=some (.string s):=by rw[<-ZG,hvs,Zy (by rw[Ed];omega),mJ,show i*3/3=i by omega,eq hiC,show i*3%3=0 by omega,hs];rfl
   have hFC:bS [.x (.string s)]=some (.x (.string s)):=by show(if s.size<=281474976710656 then some (V.x (.string s)) else none)=_;rw[Zp hs8]
   obtain⟨fs,fd,f1,f2,f3,f4⟩:=OD;have h3o:g*0=0:=Nat.mul_zero g;refine Hj (ps:=[(0,0,1),(0,1,2),(0,2,4),(0,3,8),(1,1,3),(1,2,5),(1,3,9),(2,0,3),(2,2,6),(2,3,10),(4,0,5),(4,1,6),(4,3,12),(8,0,9),(8,1,10),(8,2,12),(3,2,7),(3,3,11),(5,1,7),(5,3,13),(9,1,11),(9,2,13),(6,0,7),(6,3,14),(10,0,11),(10,2,14),(12,0,13),(12,1,14),(12,4,28),(7,3,15),(11,2,15),(13,1,15),(13,4,29),(14,0,15),(14,4,30),(28,0,29),(28,1,30),(28,5,60),(15,4,31),(29,1,31),(29,5,61),(30,0,31),(30,5,62),(60,0,61),(60,1,62),(60,6,124),(31,5,63),(61,1,63),(61,6,125),(62,0,63),(62,6,126),(124,0,125),(124,1,126),(124,7,252),(63,6,127),(125,1,127),(125,7,253),(126,0,127),(126,7,254),(252,0,253),(252,1,254),(127,7,255),(253,1,255),(254,0,255),(255,8,511),(511,9,1023),(1023,10,2047)]) hE hm A0a (Yq (.slice (some ⟨g,0,none⟩) N cap) g i s) Tx A0a ?_ ?_ h1
   . intro j o L a w2 K hj hJ hneed hK;have hgw:w2.heap[g]?=some (.cells vals ty8.ty ty8.fz):=by obtain⟨m5,O5,_,_,_,_,_,_,_,hh9,_⟩:=hJ;exact hh9
     have t5:a.eval (.tmp 5)= .int .i64 (i:Int):=hJ.read_x 5 ((i6 A0a).trans A0g);have t3:∃Bk,a.eval (.tmp 3)= .pointer (some ⟨Bk,0,none⟩)∧w2.cell? ⟨Bk,0,none⟩=some (.slice (some ⟨g,0,none⟩) N cap):=by obtain⟨m5,O5,hn5,_⟩:=hJ;obtain⟨b,vals,ty,fr,e,e2,e3,e4⟩:=hn5.box_at (i:=3) (s:=3) (v:=(.slice (some ⟨g,0,none⟩) N cap)) ((i6 A0a).trans A0g) (by simp only[uT,go_sem,Nat.reduceEqDiff,Zz,ZD,tU,am]);exact⟨b,e,(Box.cell e2 _).trans e3⟩
     obtain⟨Bk,t3,t3c⟩:=t3;rcases j with _|_|_|_|_|_|_|_|_|_|_|j
     . cases hj;exact du rfl (fun c e=>by cases e) rfl A0b rfl rfl hJ (bW rfl A0a t3 t3c) (fun h=>hK _ _ h)
     . cases hj;exact du rfl (fun c e=>by cases e) rfl A0b rfl rfl hJ (bh rfl t5) (fun h=>hK _ _ h)
     . cases hj;exact du rfl (fun c e=>by cases e) rfl A0b rfl rfl hJ (bW rfl A0a t3 t3c) (fun h=>hK _ _ h)
     . cases hj;exact du rfl (fun c e=>by cases e) rfl A0b rfl rfl hJ (bh rfl t5) (fun h=>hK _ _ h)
     . cases hj;exact du rfl (fun c e=>by cases e) rfl A0b rfl rfl hJ (lx (sz:=3) (el:=25) rfl A0a A0a (hneed 30 A0b) (hneed 31 A0b) (aaM i) A0c) (fun h=>hK _ _ h)
     . cases hj;exact du rfl (fun c e=>by cases e) rfl A0b rfl rfl hJ (bC rfl f1 f2 f4 A0b (hneed 32 A0b) (by rw[f3,aas])) (fun h=>hK _ _ h)
     . cases hj;exact du rfl (fun c e=>by cases e) rfl A0b rfl rfl hJ (bW rfl A0a (hneed 33 A0b) ((Box.cell hgw _).trans hcell)) (fun h=>hK _ _ h)
     . cases hj;refine yT hE rfl rfl rfl A0b rfl rfl (fun _=>rfl) lf hFC rfl hJ (fun _=>?_) (fun v w' h=>hK _ _ (by rw[cM] at h;exact h));have e34:a.eval (.tmp 34)= .string s:=hneed 34 A0b;rw[show Array.map a.eval #[.tmp 34]= #[a.eval (.tmp 34)] from by simp,e34];exact⟨.x _,trivial⟩
     . cases hj;exact du rfl (fun c e=>by cases e) rfl A0b rfl rfl hJ (lx (sz:=3) (el:=25) rfl A0a A0a (hneed 28 A0b) (hneed 29 A0b) (aaM i) A0c) (fun h=>hK _ _ h)
     . cases hj;exact du rfl (fun c e=>by cases e) rfl A0b rfl rfl hJ (bC rfl f1 f2 f4 A0b (hneed 36 A0b) (by rw[f3,aas])) (fun h=>hK _ _ h)
     . cases hj;exact yU rfl (fun c e=>by cases e) rfl rfl (yS rfl A0a (hneed 37 A0b) (hneed 35 A0b) rfl rfl hgw ty8.ok hcell) (hK _ _ hJ)
     . simp at hj
   . intro a2 w2 h2;have h3:=h2.le (st':=am [(3,.ptr 3 0),(24,.x (.int .i64 (N:Int))),(25,.x (.int .i64 (i:Int)))] [(3,[.x (.slice (some ⟨g,0,none⟩) N cap)])]) (aG ⟨(i6 A0a).trans A0g,(i6 A0a).trans A0g,(i6 A0a).trans A0g,trivial⟩ (by simp +decide only[uT,go_sem]<;>(repeat' first|rfl|constructor)));refine ii hE hm [(3,.ptr 3 0),(24,.x (.int .i64 (N:Int))),(25,.x (.int .i64 ((i+1:Nat):Int)))] [(3,[.x (.slice (some ⟨g,0,none⟩) N cap)])] A0a A0a h3 A0s ?_;intro a3 w3 h4;exact⟨⟨i+1,hi⟩,h4,by simp only;omega⟩
 . have c1:decide ((i:Int)<(N:Int))=false:=Zl A0c;refine wpIn_seq (ii hE hm [(3,.ptr 3 0),(26,.x (.bool false))] [(3,[.x (.slice (some ⟨g,0,none⟩) N cap)])] A0a A0a h1 A0w ?_);clear h1 a1 w1;intro a1 w1 h1;refine wpIn_seq (A5 hE hm 2 [(3,.ptr 3 0)] [(3,[.x (.slice (some ⟨g,0,none⟩) N cap)])] A0a A0a h1 A0d ?_);clear h1 a1 w1;intro a1 w1 h1;have hgw:w1.heap[g]?=some (.cells vals ty8.ty ty8.fz):=by obtain⟨m5,O5,_,_,_,_,_,_,_,hh9,_⟩:=h1;exact hh9
   have hCs:C.toArray.size=N:=by simpa using hC
   have h2:=OneG.done (v:=(.slice (some ⟨g,0,none⟩) N cap)) (u:= .sl false 3 (C.map aa) none) hE h1 ⟨_,_,_,rfl⟩ hgs hKg (Bel.refl _ _) (fun m hm=>by have hb:BoxAt (fun _=>some 0) w1 g (ay C.toArray):=⟨rfl,vals,ty8,C.flatMap ci,rest,hgw,hvs,by rw[cH];exact jX _⟩;have:=Hc hb (by rw[hCs];exact hcap) m hm;rw[hCs] at this;exact this)
   refine wpIn_seq (d7 hE hm [(2,.x (.slice (some ⟨g,0,none⟩) N cap))] [] A0a A0a h2 A0d ?_);clear h1 h2 hgw;intro a2 w2 h2;have e2:a2.tmps.getD 2 Go.undef=(.slice (some ⟨g,0,none⟩) N cap):=by obtain⟨m5,O5,hn5,_⟩:=h2;exact hn5.read_x 2 A0g
   have h3:=One.know (n:=40) (d:=2) A0b h2 e2 (dq _ _ _ _);exact wpIn_ret ⟨.inr rfl,_,_,_,_,_,h3,by simp +decide (maxDischargeDepth:=200) only[go_sem]⟩
theorem vX:dA 26 (FE mr OV):=Ec Is
noncomputable def aR:Env:=fu [(26,FE mr OV),(27,FE kF DO),(28,FE eD nQ)] [] [(25,zx)] (fun _=>false) (fun _=>false) (fun d=>d==3) (fun _=>false)
theorem dT:EnvOK aR:=AB _ _ _ _ _ _ _ ⟨vX,rV,yR,trivial⟩ trivial ⟨zy,trivial⟩
theorem j5:aR.P.follows .mixedOrders=true:=A0a
def MapX (ents:Array MapEntry) (clock:Nat) (ks vs:List V):Prop:=(∀m w,MapRd m w ents.toList ks vs)∧(∀e∈ents.toList,e.born<clock)∧(ents.toList.map (·.born)).Nodup
theorem qo:∀{es:List MapEntry} {ks vs:List V} {m m':Lim} {w w':World},(∀v∈vs,∃x,v= .x x)->MapRd m w es ks vs->MapRd m' w' es ks vs
 |[],[],[],_,_,_,_,_,_=>trivial
 |e::es,k::ks,v::vs,_,_,_,_,hv,h=>by obtain⟨x,rfl⟩:=hv v (ZP ..);refine⟨h.1,⟨h.2.1.1,?_⟩,qo (fun u hu=>hv u (ZI _ hu)) h.2.2⟩;rw[Rd.x_iff.1 h.2.1.2];exact .x _
theorem Ty (L:List CI):∀v∈vsI L,∃x,v= .x x:=fun v hv=>by obtain⟨p,_,rfl⟩:=ZA.1 hv;exact⟨_,rfl⟩
theorem Bl:∀(C:List C3) (k:Nat) (c:C3),plI k (C++[c])=plI k C++[(c,((k+C.length:Nat):Int))]
 |[],k,c=>by simp[plI]
 |d::C,k,c=>by have:=Bl C (k+1) c;rw[show k+1+C.length=k+(C.length+1) by omega] at this;simp only[aan,plI,this,ZB]
variable {C:List C3} {c:C3}
theorem It {i:Nat} (hn:C.Nodup) (hi:C[i]?=some c):kQ Try.prog 58 (ksI (plI 0 (C.take i))) (vsI (plI 0 (C.take i))) (aa c) (.x (.int .i64 (i:Int)))=some (ksI (plI 0 (C.take (i+1))),vsI (plI 0 (C.take (i+1)))):=by
 have hil:=(tl.1 hi).1;have hnt:(C.take i).Nodup:=List.Nodup.sublist (List.take_sublist i C) hn;rw[Th (rY hnt 0),aO hi,Bl];have hno:ct (plI 0 (C.take i)) c=false:=by
  rw[mO];cases h:jH c (C.take i) with
  |false=>rfl
  | true=>
    obtain⟨j,hj⟩:=rZ h;have hjl:=(tl.1 hj).1;rw[Z9] at hj;split at hj
    . rename_i hji;have h1:=(tl.1 hj).2;have h2:=(tl.1 hi).2;have:=(acr hn).1 (h1.trans h2.symm);omega
    . cases hj
 have e:fF (plI 0 (C.take i)) c (i:Int)=plI 0 (C.take i)++[(c,(i:Int))]:=by unfold fF;rw[Zs (by rw[hno];exact fun h=>by cases h)]
 rw[e,ZS,aaW A0c,Zm]
abbrev obD (v15:Value) (gP:Nat) (r s:Value):Obj:= .cells #[v15,.map (some gP),r,s] 71 (0,0)
def HP (v15:Value) (C:List C3) (gP bD i:Nat) (H:Nat->Option Obj):Prop:=H bD=some (obD v15 gP (.slice none 0 0) (.slice none 0 0))∧(∃ents clock,H gP=some (.map ents clock)∧MapX ents clock (ksI (plI 0 (C.take i))) (vsI (plI 0 (C.take i))))∧gP≠bD
theorem i7 (f:Nat) (hf:f<4):∃fs fd,Try.prog.underlying 71=some (.struct fs)∧fs[f]?=some fd∧fd.offset=f∧aY Try.prog fd.type=some 1:=by
 rcases f with _|_|_|_|f
 . exact⟨_,_,Try.underlying71,rfl,rfl,A0a⟩
 . exact⟨_,_,Try.underlying71,rfl,rfl,A0a⟩
 . exact⟨_,_,Try.underlying71,rfl,rfl,A0a⟩
 . exact⟨_,_,Try.underlying71,rfl,rfl,A0a⟩
 . omega
def Ee (c:C3) (i gP bD:Nat) (k:Nat):V:=
 if k=31 then .x (.pointer (some ⟨bD,1,none⟩)) else if k=32 then .x (.map (some gP)) else if k=33 then aa c else if k=34 then .x (.int .i64 (i:Int)) else .x (.pointer (some ⟨bD,0,none⟩))
def MA:Nat->List Nat
 |1=>[29]
 |2=>[30]
 |3=>[31]
 |6=>[32,33,34]
 |_=>[]
variable {E:Env} {o:Oper}
theorem sa {ops:Array Oper} {st1:St} (h:bw E ops [o] st fun st'=>st'=st1):gv E ops o st=some st1:=by
 obtain⟨st',hs,rfl⟩:=cF _ _ h;unfold dY at hs;split at hs
 . rename_i s1 h1;unfold dY at hs;rw[h1];exact hs
 . cases hs
def MC:Code->Code
 | .seq a _=>a
 |c=>c
def kI:Code->Code
 | .seq _ b=>b
 |c=>c
def vY:Code->Code
 | .block _ c=>c
 |c=>c
def LF:Code->Code
 | .loop c=>c
 |c=>c
noncomputable def Iu:Code:=(Try.f15.body).getD .skip
def OF:Code->List Oper
 | .region _ ops _=>ops.toList
 |_=>[]
noncomputable def Tz:Code:=kI (vY (MC (kI (kI (LF (vY (kI (MC (kI (kI (kI Iu)))))))))))
noncomputable def TB:List Oper:=OF Tz
variable {gP bD sz:Nat} {m:Lim} {w:World} {H:Nat->Option Obj} {nl:Bool} {l:List En} {Q:Exit->Act->World->Prop}
theorem vZ {v15:Value} {i:Nat} {w1:World} {a1:Act} {ks vs:List V} (hn:C.Nodup) (hi:C[i]?=some c)
 (h1:HoldH aR 118 ⟨Kno.rd v15 (.sl false 3 (C.map aa) none),fun _=>true,#[],m,w⟩ H (am [(0,.sl nl sz (l.map dv) none),(3,.fm ks vs),(4,.x (.pointer (some ⟨bD,0,none⟩))),(22,.sl false 3 (C.map aa) none),(23,.x (.int .i64 (C.length:Int))),(24,.x (.int .i64 (i:Int))),(5,.x (.int .i64 (i:Int))),(6,.ptr 6 0)] [(6,[.x (.string c.1),.x (.int .i64 c.2.1),.x (.int .i64 c.2.2)])]) a1 w1) (hH:HP v15 C gP bD i H)
 (hQ:∀a' w' H',HP v15 C gP bD (i+1) H'->HoldH aR 118 ⟨Kno.rd v15 (.sl false 3 (C.map aa) none),fun _=>true,#[],m,w⟩ H' (am [(0,.sl nl sz (l.map dv) none),(3,.fm ks vs),(4,.x (.pointer (some ⟨bD,0,none⟩))),(22,.sl false 3 (C.map aa) none),(23,.x (.int .i64 (C.length:Int))),(24,.x (.int .i64 (i:Int)))] []) a' w'->Q .normal a' w'):
 Tz.wpIn (aX none) 0 aR.P Q a1 w1:=by
 obtain⟨fs,fd,f1,f2,f3,f4⟩:=i7 1 A0b;refine yV dT j5 A0a MA A0a (fun L H' val=>val=Ee c i gP bD∧if L.testBit 6=true then HP v15 C gP bD (i+1) H' else H'=H) ?_ (Ee c i gP bD) ⟨rfl,rfl⟩ ?_ h1
 . intro L j o H2 val a w2 K hj hb _ hcl hIv hJ hneed hK;obtain⟨rfl,hIL⟩:=hIv;have hjl:j<7:=(tl.1 hj).1;have hL:L.testBit 6=false:=rH hcl rfl A0a A0c hb;rw[Zs (by rw[hL];exact fun h=>by cases h)] at hIL;subst hIL;have t4:a.eval (.tmp 4)= .pointer (some ⟨bD,0,none⟩):=hJ.read_x 4 ((aq A0a).trans A0g);have t5:a.eval (.tmp 5)= .int .i64 (i:Int):=hJ.read_x 5 ((aq A0a).trans A0g);have hx:∀k∈MA j,∀v,Ee c i gP bD k= .x v->a.eval (.tmp k)=v:=fun k hk v hv=>hJ.read_x k ((hneed k hk).trans hv)
   have hL':j≠6-> ¬(L|||2^j).testBit 6=true:=fun h=>by rw[ar L h,hL];exact fun h=>by cases h
   have hbD:w2.heap[bD]?=some (obD v15 gP (.slice none 0 0) (.slice none 0 0)):=hJ.at hH.1;rcases j with _|_|_|_|_|_|_|j
   . cases hj;exact aM rfl (fun c e=>by cases e) rfl rfl (bh rfl t4) (hK _ _ _ _ (fun _ _=>rfl) ⟨rfl,by rw[Zs (hL' A0b)]⟩ (hJ.putX A0b rfl _))
   . cases hj;exact aM rfl (fun c e=>by cases e) rfl rfl (cW rfl (hx 29 A0b _ rfl)) (hK _ _ _ _ (fun _ _=>rfl) ⟨rfl,by rw[Zs (hL' A0b)]⟩ (hJ.putX A0b rfl _))
   . cases hj;exact aM rfl (fun c e=>by cases e) rfl rfl (bC rfl f1 f2 f4 A0b (hx 30 A0b _ rfl) (by rw[f3])) (hK _ _ _ _ (fun _ _=>rfl) ⟨rfl,by rw[Zs (hL' A0b)]⟩ (hJ.putX A0b rfl _))
   . cases hj;exact aM rfl (fun c e=>by cases e) rfl rfl (bW rfl A0a (hx 31 A0b _ rfl) (Box.cell hbD _)) (hK _ _ _ _ (fun _ _=>rfl) ⟨rfl,by rw[Zs (hL' A0b)]⟩ (hJ.putX A0b rfl _))
   . cases hj;have h6:=(aq (st:=am [(0,.sl nl sz (l.map dv) none),(3,.fm ks vs),(4,.x (.pointer (some ⟨bD,0,none⟩))),(22,.sl false 3 (C.map aa) none),(23,.x (.int .i64 (C.length:Int))),(24,.x (.int .i64 (i:Int))),(5,.x (.int .i64 (i:Int))),(6,.ptr 6 0)] [(6,[.x (.string c.1),.x (.int .i64 c.2.1),.x (.int .i64 c.2.2)])]) (val:=Ee c i gP bD) (ops:=TB) (L:=L) (k:=6) A0a).trans (show _=V.ptr 6 0 by simp only[go_sem,Nat.reduceEqDiff,Zz,ZD,bM,am]);have h6b:(fh (am [(0,.sl nl sz (l.map dv) none),(3,.fm ks vs),(4,.x (.pointer (some ⟨bD,0,none⟩))),(22,.sl false 3 (C.map aa) none),(23,.x (.int .i64 (C.length:Int))),(24,.x (.int .i64 (i:Int))),(5,.x (.int .i64 (i:Int))),(6,.ptr 6 0)] [(6,[.x (.string c.1),.x (.int .i64 c.2.1),.x (.int .i64 c.2.2)])]) (Ee c i gP bD) TB L).b 6=some [.x (.string c.1),.x (.int .i64 c.2.1),.x (.int .i64 c.2.2)]:=by simp only[fh,go_sem,Nat.reduceEqDiff,Zz,ZD,tU,am]
     refine A6 dT rfl A0a A0a hJ (st1:=(fh _ (Ee c i gP bD) _ L).put (some 33) (aa c)) ?_ (fun a' w' h'=>hK _ _ _ _ (fun _ _=>rfl) ⟨rfl,by rw[Zs (hL' A0b)]⟩ h');generalize hS:fh _ _ _ _=ST;have h7:ST.t 6= .ptr 6 0:=by rw[<-hS];exact h6
     have h7b:ST.b 6=some [.x (.string c.1),.x (.int .i64 c.2.1),.x (.int .i64 c.2.2)]:=by rw[<-hS];exact h6b
     refine sa ?_;simp +decide only[go_sem,aR,Nat.reduceBEq,h7,h7b,aa]
   . cases hj;exact aM rfl (fun c e=>by cases e) rfl rfl (bh rfl t5) (hK _ _ _ _ (fun _ _=>rfl) ⟨rfl,by rw[Zs (hL' A0b)]⟩ (hJ.putX A0b rfl _))
   . cases hj;obtain⟨hD,⟨ents,clock,hP,hMX,hMb,hMn⟩,hne⟩:=hH;have e32:a.eval (.tmp 32)= .map (some gP):=hx 32 A0b _ rfl;have e34:a.eval (.tmp 34)= .int .i64 (i:Int):=hx 34 A0b _ rfl;obtain⟨m33,r33⟩:=hJ.read 33 (u:=aa c) (hneed 33 A0b) rfl;have e33:a.eval (.tmp 33)= .agg #[.string c.1,.int .i64 c.2.1,.int .i64 c.2.2]:=r33.val_is rfl;obtain⟨ents',clock',hrun,hMA,_⟩:=mU (P:=Try.prog) (t:=58) (x:=a.eval (.tmp 33)) (y:=a.eval (.tmp 34)) (m:=fun _=>some 0) ⟨ents,clock,hJ.at hP,hMX _ _,hMb,hMn,rfl⟩ (k:=aa c) (v:= .x (.int .i64 (i:Int))) (by rw[e33];exact Rd.agg_iff.2 ⟨_,rfl,.x _,.x _,.x _,trivial⟩) (by rw[e34];exact .x _) (It hn hi);refine iX rfl (fun c e=>by cases e) rfl rfl (w':={w2 with heap:=w2.heap.setIfInBounds gP (.map ents' clock')}) ?_ ?_
     . simp only[execOp,e32,Sem.run_bind];have hrun':=hrun;rw[show aR.P=Try.prog from rfl,hrun'];rfl
     . obtain⟨ents2,clock2,hh2,hrd2,hb2,hn2,_⟩:=hMA;have hPl:=ae (hJ.at hP);have hset:({w2 with heap:=w2.heap.setIfInBounds gP (.map ents' clock')}:World).heap[gP]?=some (.map ents' clock'):=by show(w2.heap.setIfInBounds gP _)[gP]?=_;rw[Array.getElem?_setIfInBounds_self_of_lt hPl]
       rw[hset] at hh2;cases hh2;refine hK _ _ (upd H2 gP (some (.map ents' clock'))) _ (fun _ _=>rfl) ⟨rfl,?_⟩ (hJ.wrote dT rfl rfl rfl A0l (fun k _ hk=>?_) (fun g ob hg=>?_))
       . rw[Zp (bR L 6)];exact⟨by rw[ag _ _ (aaJ hne)];exact hD,⟨ents',clock',ai _ _ _,⟨fun _ _=>qo (Ty _) hrd2,hb2,hn2⟩⟩,hne⟩
       . show(w2.heap.setIfInBounds gP _)[k]?=_;rw[abM (fun e=>by rw[<-e,hP] at hk;cases hk)]
       . by_cases e:g=gP
         . subst e;rw[ai] at hg;cases hg;exact⟨hset,.inl (by rw[hP];exact fun h=>by cases h)⟩
         . rw[ag _ _ e] at hg;refine⟨?_,.inl A0H ⟩;show(w2.heap.setIfInBounds gP _)[g]?=_;rw[abM (aaJ e)];exact hJ.at hg
   . simp at hj
 . rintro a w2 H2 val ⟨_,hI⟩ hJ;rw[Zp A0a] at hI;refine hQ a w2 H2 hI (hJ.le (aG ⟨(aq A0a).trans A0g,(aq A0a).trans A0g,(aq A0a).trans A0g,(aq A0a).trans A0g,(aq A0a).trans A0g,(aq A0a).trans A0g,trivial⟩ trivial))
noncomputable def zK:Code:=kI (kI (kI (kI Iu)))
variable {ob:Obj} {w':World} {n:Nat} {a:Act}
theorem iq {x:Nat} {B:Hb} (hE:EnvOK E) (h:HoldH E n B H st a w) (hos:w'.os=w.os) (htp:w'.tape=w.tape) (hou:w'.output=w.output) (hsz:w.heap.size<=w'.heap.size) (hx:H x≠none∨w.heap.size<=x) (hb:∀k,k<w.heap.size->k≠x->w'.heap[k]?=w.heap[k]?) (hn:w'.heap[x]?=some ob):HoldH E n B (upd H x (some ob)) st a w':=by
 refine h.wrote hE hos htp hou hsz (fun k hk hH=>hb k hk (fun e=>?_)) (fun g o hg=>?_)
 . rcases hx with hx|hx
   . exact hx (e▸hH)
   . omega
 . by_cases e:g=x
   . subst e;rw[ai] at hg;cases hg;exact⟨hn,hx⟩
   . rw[ag _ _ e] at hg;exact⟨(hb g (ae (h.at hg)) e).trans (h.at hg),.inl A0H ⟩
theorem kJ {B:Hb} (hE:EnvOK E) (h:HoldH E n B H st a w):HoldH E n B (upd H w.heap.size (some ob)) st a (w.alloc ob):=
 iq hE h rfl rfl rfl (Nat.le_of_lt (ae (World.heap_new w ob))) (.inr (Zt _)) (fun k hk _=>Below.heap_alloc w ob k hk) (World.heap_new w ob)
variable {v:Value} {es:List V} {tok:Option Nat}
theorem v6 (h:Rd m w v (.sl false sz es tok)):∃ao ln cp,v= .slice ao ln cp:=by cases h<;>exact⟨_,_,_,rfl⟩
theorem Iv (h:Rd m w v (.sl true sz es tok)):v= .slice none 0 0:=by cases h;rfl
theorem TC {a:Act} (hok:HX (nl,sz,l)) (_hsz:∀e∈l,e.1.1.size<=281474976710656) (hC:C=bG (ak l)) (h400:C.length<=400) (hn:C.Nodup) (hso:Ir (ak l))
 (h1:Hold aR 118 1 ⟨Kno.top,fun _=>true,#[],m,w⟩ [] (start [.sl nl sz (l.map dv) none]) a w)
 (hrest:∀v15 gP bD H a' w',HP v15 C gP bD C.length H->HoldH aR 118 ⟨Kno.rd v15 (.sl false 3 (C.map aa) none),fun _=>true,#[],m,w⟩ H (am [(0,.sl nl sz (l.map dv) none),(3,.fm (ksI (ak l)) (vsI (ak l))),(4,.x (.pointer (some ⟨bD,0,none⟩)))] []) a' w'->zK.wpIn (aX none) 0 aR.P Q a' w'):Iu.wpIn (aX none) 0 aR.P Q a w:=by
 have hE:=dT;have hm:=j5;have h0:=HoldH.of h1;clear h1;refine wpIn_seq (fK hE hm [(0,.sl nl sz (l.map dv) none)] [] A0a A0a h0 A0k ?_);clear h0 a;intro a w1 h1;have e1:zx [.sl nl sz (l.map dv) none]=some (ksI (ak l),vsI (ak l)):=Lq (p:=(nl,sz,l)) hok;refine wpIn_seq (fK hE hm [(0,.sl nl sz (l.map dv) none),(3,.fm (ksI (ak l)) (vsI (ak l)))] [] A0a A0a h1 (by simp +decide (maxDischargeDepth:=200) only[go_sem,aR,Nat.reduceBEq,e1]<;>(repeat' first|rfl|constructor)) ?_);clear h1 a w1;intro a w1 h1;have e2:FE mr OV [.fm (ksI (ak l)) (vsI (ak l))]=some (.sl false 3 (C.map aa) none):=by rw[hC];exact(cL D9 OV (ak l)).trans (Zp hso)
 refine wpIn_seq (wpIn_region ?_);refine rG hE 0 2 [(0,.sl nl sz (l.map dv) none),(3,.fm (ksI (ak l)) (vsI (ak l))),(15,.sl false 3 (C.map aa) none)] [] [2,3,4,5] A0b A0a A0a h1 (by simp +decide (maxDischargeDepth:=200) only[go_sem,aR,Nat.reduceBEq,e2]<;>(repeat' first|rfl|constructor)) ?_;clear h1 a w1;intro a w1 h1;obtain⟨v15,hv15⟩:∃v,v=a.tmps.getD 15 Go.undef:=⟨_,rfl⟩;have h2:HoldH aR 118 ⟨Kno.rd v15 (.sl false 3 (C.map aa) none),fun _=>true,#[],m,w⟩ (fun _=>none) (am [(0,.sl nl sz (l.map dv) none),(3,.fm (ksI (ak l)) (vsI (ak l))),(15,.sl false 3 (C.map aa) none)] []) a w1:=h1.learn (Kn':=Kno.rd v15 (.sl false 3 (C.map aa) none)) (fun m O hn _=>by rw[hv15];exact dJ hn 15 A0g rfl)
 have h3:=h2.know (d:=15) (u:= .x v15) A0b (fun _ _=>by rw[<-hv15];exact .x _);rw[cM] at h3;obtain⟨ao,ln,cp,hsh⟩:∃ao ln cp,v15= .slice ao ln cp:=by obtain⟨m5,r5⟩:=h2.read 15 (u:= .sl false 3 (C.map aa) none) A0g rfl;rw[<-hv15] at r5;exact v6 r5
 clear h1 h2 hv15;subst hsh
 --the map
 rw[wpOpsIn_cons];refine aM rfl (fun c e=>by cases e) rfl rfl (Ho rfl) ?_;have h4:=(kJ hE h3 (ob:= .map #[] 0)).putX (d:=16) A0b rfl (.map (some w1.heap.size));have hl1:=ae (World.heap_new w1 (.map #[] 0));generalize hgP:w1.heap.size=gP at h4 hl1;generalize w1.alloc _=w2 at h4 hl1;clear h3;refine rG hE 3 1 [(0,.sl nl sz (l.map dv) none),(3,.fm (ksI (ak l)) (vsI (ak l))),(17,.agg [.x (.slice ao ln cp),.x (.map (some gP)),.sl true 0 [] none,.sl true 0 [] none])] [] [4,5] A0b A0a A0a h4 A0p ?_;clear h4 a;intro a w3 h4;have hl3:gP<w3.heap.size:=ae (h4.at (ai _ _ _));obtain⟨m17,r17⟩:=h4.read 17 (u:= .agg [.x (.slice ao ln cp),.x (.map (some gP)),.sl true 0 [] none,.sl true 0 [] none]) A0g rfl;have e17:a.eval (.tmp 17)= .agg #[(.slice ao ln cp),.map (some gP),.slice none 0 0,.slice none 0 0]:=by
  obtain⟨cs,hcs,hr⟩:=Rd.agg_iff.1 r17;show a.tmps.getD 17 Go.undef=_;rw[hcs];congr 1;obtain⟨L⟩:=cs
  match L,hr with
  |[c1,c2,c3,c4],⟨q1,q2,q3,q4,_⟩=>rw[Rd.x_iff.1 q1,Rd.x_iff.1 q2,Iv q3,Iv q4]
 rw[wpOpsIn_cons];refine aM rfl (fun c e=>by cases e) rfl rfl (uU rfl) ?_;rw[e17];have h5:=(kJ hE h4 (ob:=obD (.slice ao ln cp) gP (.slice none 0 0) (.slice none 0 0))).putX (d:=18) A0b rfl (.pointer (some ⟨w3.heap.size,0,none⟩));change HoldH _ _ _ _ _ _ (w3.alloc (.cells (Value.agg #[(.slice ao ln cp),.map (some gP),.slice none 0 0,.slice none 0 0]).cells 71)) at h5;have hHP:HP (.slice ao ln cp) C gP w3.heap.size 0 (upd (upd (fun _=>none) gP (some (.map #[] 0))) w3.heap.size (some (obD (.slice ao ln cp) gP (.slice none 0 0) (.slice none 0 0)))):=by refine⟨ai _ _ _,⟨#[],0,?_,fun _ _=>trivial,fun e he=>(by cases he),Z8⟩,A0c⟩;rw[ag _ _ A0c,ai]
 generalize hH3:upd (upd (fun _=>none) gP (some (.map #[] 0))) w3.heap.size (some (obD (.slice ao ln cp) gP (.slice none 0 0) (.slice none 0 0)))=H3 at h5 hHP;generalize w3.heap.size=bD at h5 hHP;generalize w3.alloc _=w4 at h5;clear h4 hl3 r17 e17 hH3 hl1;refine rG hE 5 1 [(0,.sl nl sz (l.map dv) none),(3,.fm (ksI (ak l)) (vsI (ak l))),(4,.x (.pointer (some ⟨bD,0,none⟩)))] [] [] A0b A0a A0a h5 A0p ?_;clear h5 a;intro a w5 h5
 --the places
 refine wpIn_seq (wpIn_seq (wpIn_region ?_));obtain⟨fs,fd,f1,f2,f3,f4⟩:=i7 0 A0b;have t4:a.eval (.tmp 4)= .pointer (some ⟨bD,0,none⟩):=h5.read_x 4 A0g;have hbD:=h5.at hHP.1;refine cu (i:=0) (rest:=[1,2,3,4,5]) (d:=19) rfl (fun c e=>by cases e) rfl A0b rfl rfl h5 (bh rfl t4) ?_;intro a1 h6;refine cu (i:=1) (rest:=[2,3,4,5]) (d:=20) rfl (fun c e=>by cases e) rfl A0b rfl rfl h6 (cW (p:=⟨bD,0,none⟩) rfl (h6.read_x 19 (v:= .pointer (some ⟨bD,0,none⟩)) A0i)) ?_;intro a2 h7;refine cu (i:=2) (rest:=[3,4,5]) (d:=21) rfl (fun c e=>by cases e) rfl A0b rfl rfl h7 (bC rfl f1 f2 f4 A0b (h7.read_x 20 (v:= .pointer (some ⟨bD,0,none⟩)) A0i) (by rw[f3])) ?_;intro a3 h8;refine cu (i:=3) (rest:=[4,5]) (d:=22) rfl (fun c e=>by cases e) rfl A0b rfl rfl h8 (bW (v:= .slice ao ln cp) rfl A0a (h8.read_x 21 (v:= .pointer (some ⟨bD,0,none⟩)) A0i) ((Box.cell hbD _).trans rfl)) ?_;intro a4 h9;have h10:=h9.know (d:=22) (u:= .sl false 3 (C.map aa) none) A0b (fun m hk=>by rw[show a4.tmps.getD 22 Go.undef=(.slice ao ln cp) from h9.read_x 22 (v:=(.slice ao ln cp)) A0i];exact hk)
 rw[dq] at h10;clear h5 h6 h7 h8 h9 t4 hbD a a1 a2 a3;refine rG hE 4 2 [(0,.sl nl sz (l.map dv) none),(3,.fm (ksI (ak l)) (vsI (ak l))),(4,.x (.pointer (some ⟨bD,0,none⟩))),(22,.sl false 3 (C.map aa) none),(23,.x (.int .i64 (C.length:Int))),(24,.x (.int .i64 ((0:Nat):Int)))] [] [] A0b A0a A0a h10 A0B ?_;clear h10 a4;intro a w6 h6;refine wpIn_block ?_;refine cm (X:={i:Nat//i<=C.length}) (fun i a' w'=>∃H,HP (.slice ao ln cp) C gP bD i.1 H∧HoldH aR 118 ⟨Kno.rd (.slice ao ln cp) (.sl false 3 (C.map aa) none),fun _=>true,#[],m,w⟩ H (am [(0,.sl nl sz (l.map dv) none),(3,.fm (ksI (ak l)) (vsI (ak l))),(4,.x (.pointer (some ⟨bD,0,none⟩))),(22,.sl false 3 (C.map aa) none),(23,.x (.int .i64 (C.length:Int))),(24,.x (.int .i64 ((i.1:Nat):Int)))] []) a' w') (fun i=>C.length-i.1) ⟨0,Z0 _⟩ ⟨_,hHP,h6⟩ ?_;clear h6 a w6 hHP w5;rintro⟨i,hi0⟩ a w6 ⟨H,hH,h1⟩;simp only at hi0 hH h1⊢;by_cases hi:i<C.length
 . have c1:decide ((i:Int)<(C.length:Int))=true:=Zk A0c;have c1':(i:Int)<(C.length:Int):=A0c
   have c2:(0:Int)<=(i:Int):=A0c
   have c4:=aQ (i:=i) A0c;have q1:C[i]?=some C[i]:=eq hi;have q2:(C.map aa)[i]?=some (aa C[i]):=by rw[Io,q1];rfl
   generalize C[i]=c at q1 q2;simp only[aa] at q2;refine wpIn_seq (fK hE hm [(0,.sl nl sz (l.map dv) none),(3,.fm (ksI (ak l)) (vsI (ak l))),(4,.x (.pointer (some ⟨bD,0,none⟩))),(22,.sl false 3 (C.map aa) none),(23,.x (.int .i64 (C.length:Int))),(24,.x (.int .i64 (i:Int))),(25,.x (.bool true))] [] A0a A0a h1 A0r ?_);clear h1 a w6;intro a w6 h1;refine wpIn_seq (fK hE hm [(0,.sl nl sz (l.map dv) none),(3,.fm (ksI (ak l)) (vsI (ak l))),(4,.x (.pointer (some ⟨bD,0,none⟩))),(22,.sl false 3 (C.map aa) none),(23,.x (.int .i64 (C.length:Int))),(24,.x (.int .i64 (i:Int)))] [] A0a A0a h1 A0k ?_);clear h1 a w6;intro a w6 h1;refine wpIn_seq (wpIn_block (wpIn_seq (fK hE hm [(0,.sl nl sz (l.map dv) none),(3,.fm (ksI (ak l)) (vsI (ak l))),(4,.x (.pointer (some ⟨bD,0,none⟩))),(22,.sl false 3 (C.map aa) none),(23,.x (.int .i64 (C.length:Int))),(24,.x (.int .i64 (i:Int))),(5,.x (.int .i64 (i:Int))),(6,.ptr 6 0)] [(6,[.x (.string c.1),.x (.int .i64 c.2.1),.x (.int .i64 c.2.2)])] A0a A0a h1 A0A ?_)));clear h1 a w6;intro a w6 h1;refine vZ hn q1 h1 hH ?_;intro a7 w7 H' hH' h7;refine fK hE hm [(0,.sl nl sz (l.map dv) none),(3,.fm (ksI (ak l)) (vsI (ak l))),(4,.x (.pointer (some ⟨bD,0,none⟩))),(22,.sl false 3 (C.map aa) none),(23,.x (.int .i64 (C.length:Int))),(24,.x (.int .i64 ((i+1:Nat):Int)))] [] A0a A0a h7 A0D ?_;intro a8 w8 h8;exact⟨⟨i+1,hi⟩,⟨H',hH',h8⟩,by simp only;omega⟩
 . have c1:decide ((i:Int)<(C.length:Int))=false:=Zl A0c;have e:i=C.length:=A0c
   subst e;refine wpIn_seq (fK hE hm [(0,.sl nl sz (l.map dv) none),(3,.fm (ksI (ak l)) (vsI (ak l))),(4,.x (.pointer (some ⟨bD,0,none⟩))),(25,.x (.bool false))] [] A0a A0a h1 A0r ?_);clear h1 a w6;intro a w6 h1;refine wpIn_seq (Lf hE hm 0 [(0,.sl nl sz (l.map dv) none),(3,.fm (ksI (ak l)) (vsI (ak l))),(4,.x (.pointer (some ⟨bD,0,none⟩)))] [] A0a A0a h1 A0k ?_);clear h1 a w6;intro a w6 h1;exact hrest (.slice ao ln cp) gP bD H a w6 hH h1
noncomputable def sc:Code:=kI (kI zK)
noncomputable def Bm:TypeInfo:=(Try.prog.info? 43).get A0a
theorem v7:Try.prog.info? 43=some Bm:=A0a
theorem oD:Bm.size=1:=A0a
theorem oE:Bm.zero=some (.slice none 0 0):=A0a
theorem mu:Bm.bytes=24:=A0a
theorem v8 (N:Nat):madeCells (Value.slice none 0 0).cells (N*1)=(List.replicate N (Value.slice none 0 0)).toArray:=by
 apply aae.1;apply aaz;intro i;show _=(List.replicate N (Value.slice none 0 0))[i]?;by_cases hi:i<N
 . have:=jA (Value.slice none 0 0).cells N 1 rfl i 0 hi A0b;rw[show i*1+0=i by omega] at this;rw[this,Z7,Zp hi];rfl
 . rw[ZM,ZM]
   . simp;omega
   . rw[ZH,size_madeCells];omega
structure HQ (ao:Option Addr) (ln cp:Nat) (C:List C3) (gP bD gR gS:Nat) (vR vS:List Value) (R S:List (List Int)) (H:Nat->Option Obj):Prop where
 d:H bD=some (obD (.slice ao ln cp) gP (.slice (some ⟨gR,0,none⟩) C.length C.length) (.slice (some ⟨gS,0,none⟩) C.length C.length))
 p:∃ents clock,H gP=some (.map ents clock)∧MapX ents clock (ksI (plI 0 C)) (vsI (plI 0 C))
 r:H gR=some (.cells vR.toArray 43 (0,0))
 s:H gS=some (.cells vS.toArray 43 (0,0))
 ne:[bD,gP,gR,gS].Nodup
 rows:Piles H (vR++vS) (R++S) [bD,gP,gR,gS]
 lR:R.length=C.length
 lS:S.length=C.length
 lvR:vR.length=C.length
 lvS:vS.length=C.length
variable {ao:Option Addr} {ln cp:Nat}
theorem TD {w1:World} {a:Act} (h400:C.length<=400) (hH:HP (.slice ao ln cp) C gP bD C.length H)
 (h1:HoldH aR 118 ⟨Kno.rd (.slice ao ln cp) (.sl false 3 (C.map aa) none),fun _=>true,#[],m,w⟩ H (am [(0,.sl nl sz (l.map dv) none),(3,.fm (ksI (ak l)) (vsI (ak l))),(4,.x (.pointer (some ⟨bD,0,none⟩)))] []) a w1)
 (hrest:∀gR gS H' a' w',HQ ao ln cp C gP bD gR gS (List.replicate C.length (.slice none 0 0)) (List.replicate C.length (.slice none 0 0)) (List.replicate C.length []) (List.replicate C.length []) H'->HoldH aR 118 ⟨Kno.rd (.slice ao ln cp) (.sl false 3 (C.map aa) none),fun _=>true,#[],m,w⟩ H' (am [(0,.sl nl sz (l.map dv) none),(3,.fm (ksI (ak l)) (vsI (ak l))),(4,.x (.pointer (some ⟨bD,0,none⟩)))] []) a' w'->sc.wpIn (aX none) 0 aR.P Q a' w'):zK.wpIn (aX none) 0 aR.P Q a w1:=by
 have hE:=dT;obtain⟨fs0,fd0,f1,f2,f3,f4⟩:=i7 0 A0b;obtain⟨fs2,fd2,g1,g2,g3,g4⟩:=i7 2 A0b;obtain⟨fs3,fd3,k1,k2,k3,k4⟩:=i7 3 A0b;have c0:(0:Int)<=(C.length:Int):=A0c
 have hu47:Try.prog.underlying 39=some (.slice 43):=A0a
 obtain⟨hD,hP,hne⟩:=hH;rw[aak] at hP;refine wpIn_seq (wpIn_region ?_);have t4:a.eval (.tmp 4)=(.pointer (some ⟨bD,0,none⟩)):=h1.read_x 4 A0i;have hbD:=h1.at hD;refine cu (n:=118) (E:=aR) (i:=0) (rest:=[1,2,3,4,5,6,7,8,9]) (d:=36) rfl (fun c e=>by cases e) rfl A0b rfl rfl h1 (bh rfl t4) ?_;clear h1;intro a1 h1;refine cu (i:=1) (rest:=[2,3,4,5,6,7,8,9]) (d:=37) rfl (fun c e=>by cases e) rfl A0b rfl rfl h1 (bh rfl (h1.read_x 4 (v:=(.pointer (some ⟨bD,0,none⟩))) A0i)) ?_;clear h1 t4;intro a2 h1;refine cu (i:=2) (rest:=[3,4,5,6,7,8,9]) (d:=38) rfl (fun c e=>by cases e) rfl A0b rfl rfl h1 (cW (p:=⟨bD,0,none⟩) rfl (h1.read_x 37 (v:=(.pointer (some ⟨bD,0,none⟩))) A0i)) ?_;clear h1;intro a3 h1;refine cu (i:=3) (rest:=[4,5,6,7,8,9]) (d:=39) rfl (fun c e=>by cases e) rfl A0b rfl rfl h1 (bC rfl f1 f2 f4 A0b (h1.read_x 38 (v:=(.pointer (some ⟨bD,0,none⟩))) A0i) (by rw[f3])) ?_;clear h1;intro a4 h1;refine cu (i:=4) (rest:=[5,6,7,8,9]) (d:=40) rfl (fun c e=>by cases e) rfl A0b rfl rfl h1 (bW (v:= .slice ao ln cp) rfl A0a (h1.read_x 39 (v:=(.pointer (some ⟨bD,0,none⟩))) A0i) ((Box.cell hbD _).trans rfl)) ?_;clear h1;intro a5 h1;have h2:=h1.know (d:=40) (u:= .sl false 3 (C.map aa) none) A0b (fun m hk=>by rw[show a5.tmps.getD 40 Go.undef= .slice ao ln cp from h1.read_x 40 A0i];exact hk)
 rw[dq] at h2;clear h1;refine rG hE 5 1 [(0,.sl nl sz (l.map dv) none),(3,.fm (ksI (ak l)) (vsI (ak l))),(4,.x (.pointer (some ⟨bD,0,none⟩))),(36,.x (.pointer (some ⟨bD,0,none⟩))),(41,.x (.int .i64 (C.length:Int)))] [] [6,7,8,9] A0b A0a A0a h2 A0O ?_;clear h2 hbD a a1 a2 a3 a4 a5;intro a w2 h1;rw[wpOpsIn_cons];have t41:a.eval (.tmp 41)= .int .i64 (C.length:Int):=h1.read_x 41 A0i;refine aM rfl (fun c e=>by cases e) rfl rfl (ly rfl hu47 v7 oE t41 t41 c0 (by rw[mu];omega) A0c) ?_;rw[oD,iO,v8];have h2:=(kJ hE h1 (ob:= .cells (List.replicate C.length (Value.slice none 0 0)).toArray 43 (0,0))).putX (d:=42) A0b rfl (.slice (some ⟨w2.heap.size,0,none⟩) C.length C.length);have hlt:∀k ob,H k=some ob->k≠w2.heap.size:=fun k ob hk e=>by have:=ae (h1.at hk);omega
 generalize w2.heap.size=gR at h2 hlt;generalize w2.alloc _=w3 at h2;generalize a.put (some 42) _=b at h2;clear h1 t41;refine cu (i:=7) (rest:=[8,9]) (d:=43) rfl (fun c e=>by cases e) rfl A0b rfl rfl h2 (cW (p:=⟨bD,0,none⟩) rfl (h2.read_x 36 (v:=(.pointer (some ⟨bD,0,none⟩))) A0i)) ?_;intro b1 h3;refine cu (i:=8) (rest:=[9]) (d:=44) rfl (fun c e=>by cases e) rfl A0b rfl rfl h3 (bC rfl g1 g2 g4 A0b (h3.read_x 43 (v:=(.pointer (some ⟨bD,0,none⟩))) A0i) (by rw[g3,Zm])) ?_;intro b2 h4;rw[wpOpsIn_cons];have hbD4:=h4.at (show upd H gR _ bD=some _ from(ag _ _ (hlt bD _ hD)).trans hD);refine iX rfl (fun c e=>by cases e) rfl rfl (kz rfl A0a (h4.read_x 44 (v:= .pointer (some ⟨bD,2,none⟩)) A0i) (h4.read_x 42 (v:= .slice (some ⟨gR,0,none⟩) C.length C.length) A0i) rfl rfl hbD4 (by show 2<4;decide)) ?_;have h5:=iq hE h4 (x:=bD) (ob:=(obD (.slice ao ln cp) gP (.slice (some ⟨gR,0,none⟩) C.length C.length) (.slice none 0 0))) (w':=w3.setRow bD _) rfl rfl rfl A0l (.inl (by rw[ag _ _ (hlt bD _ hD),hD];exact fun h=>by cases h)) (fun k _ hk=>setRow_other w3 bD k _ hk) (setRow_heap w3 bD _ _ _ (0,0) hbD4);replace h5:=h5.le (st':=am [(0,.sl nl sz (l.map dv) none),(3,.fm (ksI (ak l)) (vsI (ak l))),(4,.x (.pointer (some ⟨bD,0,none⟩)))] []) (aG A0p A0p);clear h2 h3 h4 hbD4;change wpOpsIn _ _ _ _ _ _ _ (w3.setRow bD #[.slice ao ln cp,.map (some gP),(.slice (some ⟨gR,0,none⟩) C.length C.length),(.slice none 0 0)]);change HoldH _ _ _ _ _ _ (w3.setRow bD #[.slice ao ln cp,.map (some gP),(.slice (some ⟨gR,0,none⟩) C.length C.length),(.slice none 0 0)]) at h5;generalize w3.setRow bD #[.slice ao ln cp,.map (some gP),(.slice (some ⟨gR,0,none⟩) C.length C.length),(.slice none 0 0)]=w4 at h5⊢;clear a b b1;have hRD:gR≠bD:=fun e=>hlt bD _ hD e.symm
 obtain⟨ents,clock,hPm,hMX⟩:=hP;have hRP:gR≠gP:=fun e=>hlt gP _ hPm e.symm
 obtain⟨H2,hH2⟩:∃H2,H2=upd (upd H gR (some (.cells (List.replicate C.length (Value.slice none 0 0)).toArray 43 (0,0)))) bD (some (obD (.slice ao ln cp) gP (.slice (some ⟨gR,0,none⟩) C.length C.length) (.slice none 0 0))):=⟨_,rfl⟩;rw[<-hH2] at h5;have hD2:H2 bD=some (obD (.slice ao ln cp) gP (.slice (some ⟨gR,0,none⟩) C.length C.length) (.slice none 0 0)):=by rw[hH2,ai]
 have hP2:H2 gP=some (.map ents clock):=by rw[hH2,ag _ _ hne,ag _ _ (aaJ hRP)];exact hPm
 have hR2:H2 gR=some (.cells (List.replicate C.length (Value.slice none 0 0)).toArray 43 (0,0)):=by rw[hH2,ag _ _ hRD,ai]
 clear hlt hH2 hD hPm;have h1:=h5;clear h5;refine wpIn_seq (wpIn_region ?_);have t4:b2.eval (.tmp 4)=(.pointer (some ⟨bD,0,none⟩)):=h1.read_x 4 A0i;have hbD:=h1.at hD2;refine cu (n:=118) (E:=aR) (i:=0) (rest:=[1,2,3,4,5,6,7,8,9]) (d:=45) rfl (fun c e=>by cases e) rfl A0b rfl rfl h1 (bh rfl t4) ?_;clear h1;intro a1 h1;refine cu (i:=1) (rest:=[2,3,4,5,6,7,8,9]) (d:=46) rfl (fun c e=>by cases e) rfl A0b rfl rfl h1 (bh rfl (h1.read_x 4 (v:=(.pointer (some ⟨bD,0,none⟩))) A0i)) ?_;clear h1 t4;intro a2 h1;refine cu (i:=2) (rest:=[3,4,5,6,7,8,9]) (d:=47) rfl (fun c e=>by cases e) rfl A0b rfl rfl h1 (cW (p:=⟨bD,0,none⟩) rfl (h1.read_x 46 (v:=(.pointer (some ⟨bD,0,none⟩))) A0i)) ?_;clear h1;intro a3 h1;refine cu (i:=3) (rest:=[4,5,6,7,8,9]) (d:=48) rfl (fun c e=>by cases e) rfl A0b rfl rfl h1 (bC rfl f1 f2 f4 A0b (h1.read_x 47 (v:=(.pointer (some ⟨bD,0,none⟩))) A0i) (by rw[f3])) ?_;clear h1;intro a4 h1;refine cu (i:=4) (rest:=[5,6,7,8,9]) (d:=49) rfl (fun c e=>by cases e) rfl A0b rfl rfl h1 (bW (v:= .slice ao ln cp) rfl A0a (h1.read_x 48 (v:=(.pointer (some ⟨bD,0,none⟩))) A0i) ((Box.cell hbD _).trans rfl)) ?_;clear h1;intro a5 h1;have h2:=h1.know (d:=49) (u:= .sl false 3 (C.map aa) none) A0b (fun m hk=>by rw[show a5.tmps.getD 49 Go.undef= .slice ao ln cp from h1.read_x 49 A0i];exact hk)
 rw[dq] at h2;clear h1;refine rG hE 5 1 [(0,.sl nl sz (l.map dv) none),(3,.fm (ksI (ak l)) (vsI (ak l))),(4,.x (.pointer (some ⟨bD,0,none⟩))),(45,.x (.pointer (some ⟨bD,0,none⟩))),(50,.x (.int .i64 (C.length:Int)))] [] [6,7,8,9] A0b A0a A0a h2 A0O ?_;clear h2 hbD a1 a2 a3 a4 a5;intro a w2 h1;rw[wpOpsIn_cons];have t41:a.eval (.tmp 50)= .int .i64 (C.length:Int):=h1.read_x 50 A0i;refine aM rfl (fun c e=>by cases e) rfl rfl (ly rfl hu47 v7 oE t41 t41 c0 (by rw[mu];omega) A0c) ?_;rw[oD,iO,v8];have h2:=(kJ hE h1 (ob:= .cells (List.replicate C.length (Value.slice none 0 0)).toArray 43 (0,0))).putX (d:=51) A0b rfl (.slice (some ⟨w2.heap.size,0,none⟩) C.length C.length);have hlt:∀k ob,H2 k=some ob->k≠w2.heap.size:=fun k ob hk e=>by have:=ae (h1.at hk);omega
 generalize w2.heap.size=gS at h2 hlt;generalize w2.alloc _=w3 at h2;generalize a.put (some 51) _=b at h2;clear h1 t41;refine cu (i:=7) (rest:=[8,9]) (d:=52) rfl (fun c e=>by cases e) rfl A0b rfl rfl h2 (cW (p:=⟨bD,0,none⟩) rfl (h2.read_x 45 (v:=(.pointer (some ⟨bD,0,none⟩))) A0i)) ?_;intro b1 h3;refine cu (i:=8) (rest:=[9]) (d:=53) rfl (fun c e=>by cases e) rfl A0b rfl rfl h3 (bC rfl k1 k2 k4 A0b (h3.read_x 52 (v:=(.pointer (some ⟨bD,0,none⟩))) A0i) (by rw[k3,Zm])) ?_;intro b2 h4;rw[wpOpsIn_cons];have hbD4:=h4.at (show upd H2 gS _ bD=some _ from(ag _ _ (hlt bD _ hD2)).trans hD2);refine iX rfl (fun c e=>by cases e) rfl rfl (kz rfl A0a (h4.read_x 53 (v:= .pointer (some ⟨bD,3,none⟩)) A0i) (h4.read_x 51 (v:= .slice (some ⟨gS,0,none⟩) C.length C.length) A0i) rfl rfl hbD4 (by show 3<4;decide)) ?_;have h5:=iq hE h4 (x:=bD) (ob:=(obD (.slice ao ln cp) gP (.slice (some ⟨gR,0,none⟩) C.length C.length) (.slice (some ⟨gS,0,none⟩) C.length C.length))) (w':=w3.setRow bD _) rfl rfl rfl A0l (.inl (by rw[ag _ _ (hlt bD _ hD2),hD2];exact fun h=>by cases h)) (fun k _ hk=>setRow_other w3 bD k _ hk) (setRow_heap w3 bD _ _ _ (0,0) hbD4);replace h5:=h5.le (st':=am [(0,.sl nl sz (l.map dv) none),(3,.fm (ksI (ak l)) (vsI (ak l))),(4,.x (.pointer (some ⟨bD,0,none⟩)))] []) (aG A0p A0p);clear h2 h3 h4 hbD4;change wpOpsIn _ _ _ _ _ _ _ (w3.setRow bD #[.slice ao ln cp,.map (some gP),(.slice (some ⟨gR,0,none⟩) C.length C.length),(.slice (some ⟨gS,0,none⟩) C.length C.length)]);change HoldH _ _ _ _ _ _ (w3.setRow bD #[.slice ao ln cp,.map (some gP),(.slice (some ⟨gR,0,none⟩) C.length C.length),(.slice (some ⟨gS,0,none⟩) C.length C.length)]) at h5;generalize w3.setRow bD #[.slice ao ln cp,.map (some gP),(.slice (some ⟨gR,0,none⟩) C.length C.length),(.slice (some ⟨gS,0,none⟩) C.length C.length)]=w4 at h5⊢;clear a b b1;have hSD:gS≠bD:=fun e=>hlt bD _ hD2 e.symm
 have hSP:gS≠gP:=fun e=>hlt gP _ hP2 e.symm
 have hSR:gS≠gR:=fun e=>hlt gR _ hR2 e.symm
 refine hrest gR gS _ _ _ ⟨ai _ _ _,⟨ents,clock,by rw[ag _ _ hne,ag _ _ (aaJ hSP)];exact hP2,hMX⟩,by rw[ag _ _ hRD,ag _ _ (aaJ hSR)];exact hR2,by rw[ag _ _ hSD,ai],?_,?_,A0l,A0l,A0l,A0l⟩ h5
 . simp only[ZZ,ZE,aa3,acl,not_or,abJ,Z8,aaZ];exact⟨⟨aaJ hne,aaJ hRD,aaJ hSD⟩,⟨aaJ hRP,aaJ hSP⟩,aaJ hSR⟩
 . rw[abj,abj];have hv:∀(i:Nat) (v:Value),(List.replicate (C.length+C.length) (Value.slice none 0 0))[i]?=some v->v= .slice none 0 0:=fun i v hi=>by
    rw[Z7] at hi;split at hi
    . cases hi;rfl
    . cases hi
   refine⟨A0l,fun i v es hi he=> .inl ⟨?_,hv i v hi⟩,fun i j v v' g _ hi _ hb=>?_,fun i v g hi hb=>?_⟩
   . rw[Z7] at he;split at he
     . cases he;rfl
     . cases he
   . rw[hv i v hi] at hb;cases hb
   . rw[hv i v hi] at hb;cases hb
noncomputable def MD:Code:=LF (vY (kI (MC sc)))
noncomputable def zL:Code:=kI (kI (kI (kI (vY (MC (kI (kI MD)))))))
noncomputable def LG:TypeInfo:=(Try.prog.info? 3).get A0a
theorem Bn:Try.prog.info? 3=some LG:=A0a
theorem qp:LG.size=1:=A0a
theorem qq:LG.zero=some (.int .i64 0):=A0a
theorem oF:LG.bytes=8:=A0a
def OW (H:Nat->Option Obj) (vi:Value) (es:List Int) (H':Nat->Option Obj) (v':Value):Prop:=∃g ob,H'=upd H g (some ob)∧blkOf v'=some g∧(blkOf vi=some g∨H g=none)∧RowI H' v' es
section
variable {ao:Option Addr} {ln cp:Nat} {C:List C3} {gP bD gR gS:Nat} {vR vS:List Value} {R S:List (List Int)} {H:Nat->Option Obj}
theorem HQ.on (h:HQ ao ln cp C gP bD gR gS vR vS R S H):∀x∈[bD,gP,gR,gS],H x≠none:=by
 intro x hx;obtain⟨ents,clock,hp,_⟩:=h.p;simp only[ZE,aa3,acl] at hx;rcases hx with rfl|rfl|rfl|rfl
 . rw[h.d];exact fun h=>by cases h
 . rw[hp];exact fun h=>by cases h
 . rw[h.r];exact fun h=>by cases h
 . rw[h.s];exact fun h=>by cases h
theorem HQ.far (h:HQ ao ln cp C gP bD gR gS vR vS R S H) {j:Nat} {vi:Value} (hi:(vR++vS)[j]?=some vi) {g:Nat} (hg:blkOf vi=some g∨H g=none):∀x∈[bD,gP,gR,gS],x≠g:=by
 intro x hx e;subst e;rcases hg with hg|hg
 . exact h.rows.out j vi x hi hg hx
 . exact h.on x hx hg
theorem HQ.setR (h:HQ ao ln cp C gP bD gR gS vR vS R S H) {i:Nat} {vi v':Value} {es:List Int} {H':Nat->Option Obj} (hi:vR[i]?=some vi) (hm:OW H vi es H' v'):HQ ao ln cp C gP bD gR gS (vR.set i v') vS (R.set i es) S (upd H' gR (some (.cells (vR.set i v').toArray 43 (0,0)))):=by
 obtain⟨g,ob,rfl,hb,hg,hr⟩:=hm;have hil:=(tl.1 hi).1;have hi2:(vR++vS)[i]?=some vi:=by rw[Zy hil];exact hi
 have hf:=h.far hi2 hg;have hn:=h.ne;simp only[ZZ,ZE,aa3,acl,not_or,abJ,Z8,aaZ] at hn;obtain⟨⟨n1,n2,n3⟩,⟨n4,n5⟩,n6⟩:=hn;obtain⟨ents,clock,hp,hx⟩:=h.p;have hR:=h.lR;have hvR:=h.lvR;refine⟨?_,⟨ents,clock,?_,hx⟩,ai _ _ _,?_,h.ne,?_,by rw[ZW];exact h.lR,h.lS,by rw[ZW];exact h.lvR,h.lvS⟩
 . rw[ag _ _ n2,ag _ _ (hf bD A0l)];exact h.d
 . rw[ag _ _ n4,ag _ _ (hf gP A0l)];exact hp
 . rw[ag _ _ (aaJ n6),ag _ _ (hf gS A0l)];exact h.s
 . have:=(h.rows.set hi2 h.on hb hg hr).other (x:=gR) (o:=some (.cells (vR.set i v').toArray 43 (0,0))) A0l;rw[ab6 _ _ hil,ab6 _ _ A0c] at this;exact this
theorem HQ.setS (h:HQ ao ln cp C gP bD gR gS vR vS R S H) {i:Nat} {vi v':Value} {es:List Int} {H':Nat->Option Obj} (hi:vS[i]?=some vi) (hm:OW H vi es H' v'):HQ ao ln cp C gP bD gR gS vR (vS.set i v') R (S.set i es) (upd H' gS (some (.cells (vS.set i v').toArray 43 (0,0)))):=by
 obtain⟨g,ob,rfl,hb,hg,hr⟩:=hm;have hil:=(tl.1 hi).1;have hi2:(vR++vS)[vR.length+i]?=some vi:=by rw[ZQ A0c,aaU];exact hi
 have hf:=h.far hi2 hg;have hn:=h.ne;simp only[ZZ,ZE,aa3,acl,not_or,abJ,Z8,aaZ] at hn;obtain⟨⟨n1,n2,n3⟩,⟨n4,n5⟩,n6⟩:=hn;obtain⟨ents,clock,hp,hx⟩:=h.p;have hR:=h.lR;have hvR:=h.lvR;refine⟨?_,⟨ents,clock,?_,hx⟩,?_,ai _ _ _,h.ne,?_,h.lR,by rw[ZW];exact h.lS,h.lvR,by rw[ZW];exact h.lvS⟩
 . rw[ag _ _ n3,ag _ _ (hf bD A0l)];exact h.d
 . rw[ag _ _ n5,ag _ _ (hf gP A0l)];exact hp
 . rw[ag _ _ n6,ag _ _ (hf gR A0l)];exact h.r
 . have:=(h.rows.set hi2 h.on hb hg hr).other (x:=gS) (o:=some (.cells (vS.set i v').toArray 43 (0,0))) A0l;rw[ab1 _ _ A0c,ab1 _ _ A0c,aaU,show vR.length+i-R.length=i by omega] at this;exact this
end
theorem Iw {val:Nat->V} (h:∀o∈ops,∀k,o.dst=some k->st.t k= .undef):Le st (fh st val ops L):=by
 refine⟨fun k=>?_,fun s cs h=>⟨cs,h,fp cs⟩⟩;show(st.t k).le (if ce ops L k=true then val k else st.t k);by_cases hd:ce ops L k=true
 . unfold ce at hd;obtain⟨i,_,hi⟩:=aaF.1 hd;rw[Zq] at hi;split at hi
   . rename_i o ho;rw[h o (Zo ho) k (eq_of_beq hi.2)];exact .inl rfl
   . cases hi.2
 . rw[Zs hd];exact .inr (.inl rfl)
noncomputable def wa:Code:=MC (kI (vY (MC (kI (kI (LF (vY zL)))))))
noncomputable def wd:List Oper:=OF wa
def gH (N bD gR i x:Nat) (vi:Value) (k:Nat):V:=
 if k=85∨k=90 then .x (.pointer (some ⟨bD,2,none⟩)) else if k=86∨k=91 then .x (.slice (some ⟨gR,0,none⟩) N N) else if k=87∨k=92 then .x (.int .i64 (i:Int)) else if k=93∨k=98 then .x (.pointer (some ⟨gR,i*1,none⟩)) else if k=94 then .x vi else if k=95 then .x (.int .i64 (x:Int)) else if k=96 then .sl false 1 [.x (.int .i64 (x:Int))] none else .x (.pointer (some ⟨bD,0,none⟩))
def qr:Nat->List Nat
 |1=>[83]
 |2=>[84]
 |3=>[85]
 |6=>[88]
 |7=>[89]
 |8=>[90]
 |10=>[91,92]
 |11=>[93]
 |13=>[95]
 |14=>[94,96]
 |15=>[86,87]
 |16=>[97,98]
 |_=>[]
variable {gR gS:Nat} {vR vS:List Value} {R S:List (List Int)} {vi:Value}
theorem TE {w1:World} {i x:Nat} {es:List Int} (hH:HQ ao ln cp C gP bD gR gS vR vS R S H) (hi:vR[i]?=some vi) (hes:R[i]?=some es) (hlen:es.length+1<=100000000)
 (s4:st.t 4= .x (.pointer (some ⟨bD,0,none⟩))) (s7:st.t 7= .x (.int .i64 (i:Int))) (s11:st.t 11= .x (.int .i64 (x:Int))) (hst:∀k,83<=k->k<=98->st.t k= .undef) (h1:HoldH aR 118 ⟨Kno.rd (.slice ao ln cp) (.sl false 3 (C.map aa) none),fun _=>true,#[],m,w⟩ H st a w1)
 (hQ:∀a' w' H' vN,HQ ao ln cp C gP bD gR gS vN vS (R.set i (es++[(x:Int)])) S H'->HoldH aR 118 ⟨Kno.rd (.slice ao ln cp) (.sl false 3 (C.map aa) none),fun _=>true,#[],m,w⟩ H' st a' w'->Q .normal a' w'):wa.wpIn (aX none) 0 aR.P Q a w1:=by
 have hE:=dT;obtain⟨fs,fd,f1,f2,f3,f4⟩:=i7 2 A0b;have hu50:Try.prog.underlying 43=some (.slice 3):=A0a
 have hu47:Try.prog.underlying 39=some (.slice 43):=A0a
 have hil:=(tl.1 hi).1;have hiN:i<C.length:=by have:=hH.lvR;omega
 have hi2:(vR++vS)[i]?=some vi:=by rw[Zy hil];exact hi
 have hrow:RowI H vi es:=hH.rows.row i vi es hi2 (by rw[Zy (by have:=hH.lR;have:=hH.lvR;omega)];exact hes);refine yV hE j5 A0a qr A0a (fun L H' val=>(∀k,k≠97->val k=gH C.length bD gR i x vi k)∧if L.testBit 16=true then ∃v',HQ ao ln cp C gP bD gR gS (vR.set i v') vS (R.set i (es++[(x:Int)])) S H' else if L.testBit 14=true then ∃v',val 97= .x v'∧OW H vi (es++[(x:Int)]) H' v' else H'=H) ?_ (gH C.length bD gR i x vi) ⟨fun _ _=>rfl,rfl⟩ ?_ h1
 . intro L j o H2 val a2 w2 K hj hbj hdp hcl hIv hJ hneed hK;obtain⟨hval,hIL⟩:=hIv;have hjl:j<17:=(tl.1 hj).1;have nb:L.testBit 16=false:=rH hcl rfl A0a A0c hbj;rw[Zs (by rw[nb];exact fun h=>by cases h)] at hIL;have hx:∀k∈qr j,k≠97->∀v,gH C.length bD gR i x vi k= .x v->a2.eval (.tmp k)=v:=fun k hk hne v hv=>hJ.read_x k ((hneed k hk).trans ((hval k hne).trans hv))
   have hkeep:j≠14->j≠16->(∀val':Nat->V,(∀k,k≠97->val' k=gH C.length bD gR i x vi k)∧val' 97=val 97->((∀k,k≠97->val' k=gH C.length bD gR i x vi k)∧if (L|||2^j).testBit 16=true then ∃v',HQ ao ln cp C gP bD gR gS (vR.set i v') vS (R.set i (es++[(x:Int)])) S H2 else if (L|||2^j).testBit 14=true then ∃v',val' 97= .x v'∧OW H vi (es++[(x:Int)]) H2 v' else H2=H)):=fun h1 h2 val' hv=>by have e14:=ar L h1;have e16:=ar L h2;refine⟨hv.1,?_⟩;rw[Zs (by rw[e16,nb];exact fun h=>by cases h),e14,hv.2];exact hIL
   have hH2:∀y∈[bD,gP,gR,gS],H2 y=H y:=fun y hy=>by
    split at hIL
    . obtain⟨v',_,g,ob,rfl,_,hg,_⟩:=hIL;rw[ag _ _ (hH.far hi2 hg y hy)]
    . rw[hIL]
   have t4:a2.eval (.tmp 4)= .pointer (some ⟨bD,0,none⟩):=hJ.read_x 4 ((aq A0a).trans s4);have t7:a2.eval (.tmp 7)= .int .i64 (i:Int):=hJ.read_x 7 ((aq A0a).trans s7);have t11:a2.eval (.tmp 11)= .int .i64 (x:Int):=hJ.read_x 11 ((aq A0a).trans s11);have hbD:=hJ.at ((hH2 bD A0l).trans hH.d);have hbX:=hJ.at ((hH2 gR A0l).trans hH.r);have fin:∀{d:Nat} {v:Value} {a':Act} {w':World},d≠97->gH C.length bD gR i x vi d= .x v->HoldH aR 118 ⟨Kno.rd (.slice ao ln cp) (.sl false 3 (C.map aa) none),fun _=>true,#[],m,w⟩ H2 ((fh st val wd L).put (some d) (.x v)) a' w'->HoldH aR 118 ⟨Kno.rd (.slice ao ln cp) (.sl false 3 (C.map aa) none),fun _=>true,#[],m,w⟩ H2 ((fh st val wd L).put (some d) (val d)) a' w':=fun {d v a' w'} hne hv h=>by rw[hval d hne,hv];exact h
   rcases j with _|_|_|_|_|_|_|_|_|_|_|_|_|_|_|_|_|j
   . cases hj;exact aM rfl (fun c e=>by cases e) rfl rfl (bh rfl t4) (hK _ _ _ _ (fun _ _=>rfl) (hkeep A0b A0b _ ⟨hval,rfl⟩) (fin A0b rfl (hJ.putX A0b rfl _)))
   . cases hj;exact aM rfl (fun c e=>by cases e) rfl rfl (cW (p:=⟨bD,0,none⟩) rfl (hx 83 A0b A0b _ rfl)) (hK _ _ _ _ (fun _ _=>rfl) (hkeep A0b A0b _ ⟨hval,rfl⟩) (fin A0b rfl (hJ.putX A0b rfl _)))
   . cases hj;exact aM rfl (fun c e=>by cases e) rfl rfl (bC rfl f1 f2 f4 A0b (hx 84 A0b A0b _ rfl) (by rw[f3,Zm])) (hK _ _ _ _ (fun _ _=>rfl) (hkeep A0b A0b _ ⟨hval,rfl⟩) (fin A0b rfl (hJ.putX A0b rfl _)))
   . cases hj;exact aM rfl (fun c e=>by cases e) rfl rfl (bW (v:= .slice (some ⟨gR,0,none⟩) C.length C.length) rfl A0a (hx 85 A0b A0b _ rfl) ((Box.cell hbD _).trans rfl)) (hK _ _ _ _ (fun _ _=>rfl) (hkeep A0b A0b _ ⟨hval,rfl⟩) (fin A0b rfl (hJ.putX A0b rfl _)))
   . cases hj;exact aM rfl (fun c e=>by cases e) rfl rfl (bh rfl t7) (hK _ _ _ _ (fun _ _=>rfl) (hkeep A0b A0b _ ⟨hval,rfl⟩) (fin A0b rfl (hJ.putX A0b rfl _)))
   . cases hj;exact aM rfl (fun c e=>by cases e) rfl rfl (bh rfl t4) (hK _ _ _ _ (fun _ _=>rfl) (hkeep A0b A0b _ ⟨hval,rfl⟩) (fin A0b rfl (hJ.putX A0b rfl _)))
   . cases hj;exact aM rfl (fun c e=>by cases e) rfl rfl (cW (p:=⟨bD,0,none⟩) rfl (hx 88 A0b A0b _ rfl)) (hK _ _ _ _ (fun _ _=>rfl) (hkeep A0b A0b _ ⟨hval,rfl⟩) (fin A0b rfl (hJ.putX A0b rfl _)))
   . cases hj;exact aM rfl (fun c e=>by cases e) rfl rfl (bC rfl f1 f2 f4 A0b (hx 89 A0b A0b _ rfl) (by rw[f3,Zm])) (hK _ _ _ _ (fun _ _=>rfl) (hkeep A0b A0b _ ⟨hval,rfl⟩) (fin A0b rfl (hJ.putX A0b rfl _)))
   . cases hj;exact aM rfl (fun c e=>by cases e) rfl rfl (bW (v:= .slice (some ⟨gR,0,none⟩) C.length C.length) rfl A0a (hx 90 A0b A0b _ rfl) ((Box.cell hbD _).trans rfl)) (hK _ _ _ _ (fun _ _=>rfl) (hkeep A0b A0b _ ⟨hval,rfl⟩) (fin A0b rfl (hJ.putX A0b rfl _)))
   . cases hj;exact aM rfl (fun c e=>by cases e) rfl rfl (bh rfl t7) (hK _ _ _ _ (fun _ _=>rfl) (hkeep A0b A0b _ ⟨hval,rfl⟩) (fin A0b rfl (hJ.putX A0b rfl _)))
   . cases hj;exact aM rfl (fun c e=>by cases e) rfl rfl (lx (sz:=1) (el:=43) rfl hu47 A0a (hx 91 A0b A0b _ rfl) (hx 92 A0b A0b _ rfl) (aaM i) A0c) (hK _ _ _ _ (fun _ _=>rfl) (hkeep A0b A0b _ ⟨hval,rfl⟩) (fin A0b rfl (hJ.putX A0b rfl _)))
   . cases hj;exact aM rfl (fun c e=>by cases e) rfl rfl (bW (v:=vi) rfl A0a (hx 93 A0b A0b _ rfl) ((Box.cell hbX _).trans (by rw[Zx];simpa using hi))) (hK _ _ _ _ (fun _ _=>rfl) (hkeep A0b A0b _ ⟨hval,rfl⟩) (fin A0b rfl (hJ.putX A0b rfl _)))
   . cases hj;exact aM rfl (fun c e=>by cases e) rfl rfl (bh rfl t11) (hK _ _ _ _ (fun _ _=>rfl) (hkeep A0b A0b _ ⟨hval,rfl⟩) (fin A0b rfl (hJ.putX A0b rfl _)))
   . cases hj
     refine A6 hE rfl A0a A0a hJ (st1:=(fh st val _ L).put (some 96) (.sl false 1 [.x (.int .i64 (x:Int))] none)) ?_ (fun a' w' h'=>hK _ _ _ _ (fun _ _=>rfl) (hkeep A0b A0b _ ⟨hval,rfl⟩) (by show HoldH _ _ _ _ ((fh st val _ L).put (some 96) (val 96)) _ _;rw[hval 96 A0b];exact h'))
     have h95:=(hneed 95 A0b).trans (hval 95 A0b);generalize hS:fh _ _ _ _=ST;have h7:ST.t 95= .x (.int .i64 (x:Int)):=by rw[<-hS];exact h95
     refine sa ?_;simp +decide only[go_sem,aR,Nat.reduceBEq,h7]
   . cases hj;have b14:L.testBit 14=false:=hbj;have b14':=bR L 14;have b16':(L|||2^14).testBit 16=false:=by rw[ar L A0b,nb]
     rw[Zs (by rw[b14];exact fun h=>by cases h)] at hIL;subst hIL;have e94:a2.eval (.tmp 94)=vi:=hx 94 A0b A0b _ rfl;obtain⟨m96,r96⟩:=hJ.read 96 (u:= .sl false 1 [.x (.int .i64 (x:Int))] none) ((hneed 96 A0b).trans (hval 96 A0b)) rfl;obtain⟨v',w',g,ob,hrun,q1,q2,q3,q4,q5,q6,q7,q8,q9⟩:=uW (P:=Try.prog) (t:=43) (ty:=43) (el:=3) hu50 Bn qp qq rfl oF hrow (fun g ob h=>hJ.at h) r96 hlen;have h2:=(iq hE hJ q1 q2 q3 q4 (q8.imp (fun e=>hrow.blk e) id) q7 q6).putX (d:=97) A0b rfl v';refine aM rfl (fun c e=>by cases e) rfl rfl (v:=v') (w':=w') ?_ (hK _ _ (upd H2 g (some ob)) (fun k=>if k=97 then .x v' else val k) (fun k hk=>Zs (fun e=>hk A0Z)) ⟨fun k hk=>by rw[Zs hk];exact hval k hk,?_⟩ h2)
     . have e96:a2.eval (.tmp 96)=a2.tmps.getD 96 Go.undef:=rfl;rw[<-e96] at hrun;simp only[execOp,resolve,Sem.run_bind,Sem.run_pure,Result.andThen_ok,invoke,builtin];simp[e94,hrun,show aR.P=Try.prog from rfl]
     . rw[Zs (by rw[b16'];exact fun h=>by cases h),Zp b14'];refine⟨v',Zp rfl,g,ob,rfl,q5,q8.imp id (fun hge=>?_),q9 _ (ai _ _ _)⟩;cases e:H2 g with
       |none=>rfl
       |some ob'=>exact absurd (ae (hJ.at e)) (Z4.2 hge)
   . cases hj;exact aM rfl (fun c e=>by cases e) rfl rfl (lx (sz:=1) (el:=43) rfl hu47 A0a (hx 86 A0b A0b _ rfl) (hx 87 A0b A0b _ rfl) (aaM i) A0c) (hK _ _ _ _ (fun _ _=>rfl) (hkeep A0b A0b _ ⟨hval,rfl⟩) (fin A0b rfl (hJ.putX A0b rfl _)))
   . cases hj;have b14:L.testBit 14=true:=hdp 14 (aa1.1 A0a);have b16':=bR L 16;rw[Zp b14] at hIL;obtain⟨v',hv',hMid⟩:=hIL;have e97:a2.eval (.tmp 97)=v':=hJ.read_x 97 ((hneed 97 A0b).trans hv');obtain⟨hv1,hv2⟩:v'.cells= #[v']∧v'.oneCell'=true:=by obtain⟨_,_,_,_,_,hr⟩:=hMid;rcases hr with⟨_,rfl⟩|⟨_,_,_,_,_,rfl,_⟩<;>exact⟨rfl,rfl⟩
     have hset:vR.toArray.set! (i*1) v'=(vR.set i v').toArray:=by simp[Zx]
     have h2:=iq hE hJ (x:=gR) (ob:= .cells (vR.set i v').toArray 43 (0,0)) (w':=w2.setRow gR (vR.toArray.set! (i*1) v')) rfl rfl rfl A0l (.inl (by rw[hH2 gR A0l,hH.r];exact fun h=>by cases h)) (fun k _ hk=>setRow_other w2 gR k _ hk) (by rw[hset];exact setRow_heap w2 gR _ _ _ (0,0) hbX);exact iX rfl (fun c e=>by cases e) rfl rfl (kz rfl A0a (hx 98 A0b A0b _ rfl) e97 hv1 hv2 hbX A1g) (hK _ _ _ _ (fun _ _=>rfl) ⟨hval,by rw[Zp b16'];exact⟨v',hH.setR hi hMid⟩⟩ h2)
   . simp at hj
 . rintro a2 w2 H2 val ⟨_,hI⟩ hJ;rw[Zp A0a] at hI;obtain⟨v',hI⟩:=hI;exact hQ a2 w2 H2 _ hI (hJ.le (Iw (fun o ho k hk=>by simp only[ZE,aa3,acl] at ho;rcases ho with rfl|rfl|rfl|rfl|rfl|rfl|rfl|rfl|rfl|rfl|rfl|rfl|rfl|rfl|rfl|rfl|rfl<;>cases hk<;>exact hst _ A0b A0b)))
noncomputable def we:Code:=kI (kI (vY (MC (kI (kI (LF (vY zL)))))))
noncomputable def wf:List Oper:=OF we
def gI (N bD gS i x:Nat) (vi:Value) (k:Nat):V:=
 if k=101∨k=106 then .x (.pointer (some ⟨bD,3,none⟩)) else if k=102∨k=107 then .x (.slice (some ⟨gS,0,none⟩) N N) else if k=103∨k=108 then .x (.int .i64 (i:Int)) else if k=109∨k=114 then .x (.pointer (some ⟨gS,i*1,none⟩)) else if k=110 then .x vi else if k=111 then .x (.int .i64 (x:Int)) else if k=112 then .sl false 1 [.x (.int .i64 (x:Int))] none else .x (.pointer (some ⟨bD,0,none⟩))
def qt:Nat->List Nat
 |1=>[99]
 |2=>[100]
 |3=>[101]
 |6=>[104]
 |7=>[105]
 |8=>[106]
 |10=>[107,108]
 |11=>[109]
 |13=>[111]
 |14=>[110,112]
 |15=>[102,103]
 |16=>[113,114]
 |_=>[]
theorem TF {w1:World} {i x:Nat} {es:List Int} (hH:HQ ao ln cp C gP bD gR gS vR vS R S H) (hi:vS[i]?=some vi) (hes:S[i]?=some es) (hlen:es.length+1<=100000000)
 (s4:st.t 4= .x (.pointer (some ⟨bD,0,none⟩))) (s7:st.t 11= .x (.int .i64 (i:Int))) (s11:st.t 7= .x (.int .i64 (x:Int))) (hst:∀k,99<=k->k<=114->st.t k= .undef) (h1:HoldH aR 118 ⟨Kno.rd (.slice ao ln cp) (.sl false 3 (C.map aa) none),fun _=>true,#[],m,w⟩ H st a w1)
 (hQ:∀a' w' H' vN,HQ ao ln cp C gP bD gR gS vR vN R (S.set i (es++[(x:Int)])) H'->HoldH aR 118 ⟨Kno.rd (.slice ao ln cp) (.sl false 3 (C.map aa) none),fun _=>true,#[],m,w⟩ H' st a' w'->Q .normal a' w'):we.wpIn (aX none) 0 aR.P Q a w1:=by
 have hE:=dT;obtain⟨fs,fd,f1,f2,f3,f4⟩:=i7 3 A0b;have hu50:Try.prog.underlying 43=some (.slice 3):=A0a
 have hu47:Try.prog.underlying 39=some (.slice 43):=A0a
 have hil:=(tl.1 hi).1;have hiN:i<C.length:=by have:=hH.lvS;omega
 have hi2:(vR++vS)[(vR.length+i)]?=some vi:=by rw[ZQ A0c,aaU];exact hi
 have hrow:RowI H vi es:=hH.rows.row (vR.length+i) vi es hi2 (by rw[ZQ (by have:=hH.lR;have:=hH.lvR;omega),show vR.length+i-R.length=i by have:=hH.lR;have:=hH.lvR;omega];exact hes);refine yV hE j5 A0a qt A0a (fun L H' val=>(∀k,k≠113->val k=gI C.length bD gS i x vi k)∧if L.testBit 16=true then ∃v',HQ ao ln cp C gP bD gR gS vR (vS.set i v') R (S.set i (es++[(x:Int)])) H' else if L.testBit 14=true then ∃v',val 113= .x v'∧OW H vi (es++[(x:Int)]) H' v' else H'=H) ?_ (gI C.length bD gS i x vi) ⟨fun _ _=>rfl,rfl⟩ ?_ h1
 . intro L j o H2 val a2 w2 K hj hbj hdp hcl hIv hJ hneed hK;obtain⟨hval,hIL⟩:=hIv;have hjl:j<17:=(tl.1 hj).1;have nb:L.testBit 16=false:=rH hcl rfl A0a A0c hbj;rw[Zs (by rw[nb];exact fun h=>by cases h)] at hIL;have hx:∀k∈qt j,k≠113->∀v,gI C.length bD gS i x vi k= .x v->a2.eval (.tmp k)=v:=fun k hk hne v hv=>hJ.read_x k ((hneed k hk).trans ((hval k hne).trans hv))
   have hkeep:j≠14->j≠16->(∀val':Nat->V,(∀k,k≠113->val' k=gI C.length bD gS i x vi k)∧val' 113=val 113->((∀k,k≠113->val' k=gI C.length bD gS i x vi k)∧if (L|||2^j).testBit 16=true then ∃v',HQ ao ln cp C gP bD gR gS vR (vS.set i v') R (S.set i (es++[(x:Int)])) H2 else if (L|||2^j).testBit 14=true then ∃v',val' 113= .x v'∧OW H vi (es++[(x:Int)]) H2 v' else H2=H)):=fun h1 h2 val' hv=>by have e14:=ar L h1;have e16:=ar L h2;refine⟨hv.1,?_⟩;rw[Zs (by rw[e16,nb];exact fun h=>by cases h),e14,hv.2];exact hIL
   have hH2:∀y∈[bD,gP,gR,gS],H2 y=H y:=fun y hy=>by
    split at hIL
    . obtain⟨v',_,g,ob,rfl,_,hg,_⟩:=hIL;rw[ag _ _ (hH.far hi2 hg y hy)]
    . rw[hIL]
   have t4:a2.eval (.tmp 4)= .pointer (some ⟨bD,0,none⟩):=hJ.read_x 4 ((aq A0a).trans s4);have t7:a2.eval (.tmp 11)= .int .i64 (i:Int):=hJ.read_x 11 ((aq A0a).trans s7);have t11:a2.eval (.tmp 7)= .int .i64 (x:Int):=hJ.read_x 7 ((aq A0a).trans s11);have hbD:=hJ.at ((hH2 bD A0l).trans hH.d);have hbX:=hJ.at ((hH2 gS A0l).trans hH.s);have fin:∀{d:Nat} {v:Value} {a':Act} {w':World},d≠113->gI C.length bD gS i x vi d= .x v->HoldH aR 118 ⟨Kno.rd (.slice ao ln cp) (.sl false 3 (C.map aa) none),fun _=>true,#[],m,w⟩ H2 ((fh st val wf L).put (some d) (.x v)) a' w'->HoldH aR 118 ⟨Kno.rd (.slice ao ln cp) (.sl false 3 (C.map aa) none),fun _=>true,#[],m,w⟩ H2 ((fh st val wf L).put (some d) (val d)) a' w':=fun {d v a' w'} hne hv h=>by rw[hval d hne,hv];exact h
   rcases j with _|_|_|_|_|_|_|_|_|_|_|_|_|_|_|_|_|j
   . cases hj;exact aM rfl (fun c e=>by cases e) rfl rfl (bh rfl t4) (hK _ _ _ _ (fun _ _=>rfl) (hkeep A0b A0b _ ⟨hval,rfl⟩) (fin A0b rfl (hJ.putX A0b rfl _)))
   . cases hj;exact aM rfl (fun c e=>by cases e) rfl rfl (cW (p:=⟨bD,0,none⟩) rfl (hx 99 A0b A0b _ rfl)) (hK _ _ _ _ (fun _ _=>rfl) (hkeep A0b A0b _ ⟨hval,rfl⟩) (fin A0b rfl (hJ.putX A0b rfl _)))
   . cases hj;exact aM rfl (fun c e=>by cases e) rfl rfl (bC rfl f1 f2 f4 A0b (hx 100 A0b A0b _ rfl) (by rw[f3,Zm])) (hK _ _ _ _ (fun _ _=>rfl) (hkeep A0b A0b _ ⟨hval,rfl⟩) (fin A0b rfl (hJ.putX A0b rfl _)))
   . cases hj;exact aM rfl (fun c e=>by cases e) rfl rfl (bW (v:= .slice (some ⟨gS,0,none⟩) C.length C.length) rfl A0a (hx 101 A0b A0b _ rfl) ((Box.cell hbD _).trans rfl)) (hK _ _ _ _ (fun _ _=>rfl) (hkeep A0b A0b _ ⟨hval,rfl⟩) (fin A0b rfl (hJ.putX A0b rfl _)))
   . cases hj;exact aM rfl (fun c e=>by cases e) rfl rfl (bh rfl t7) (hK _ _ _ _ (fun _ _=>rfl) (hkeep A0b A0b _ ⟨hval,rfl⟩) (fin A0b rfl (hJ.putX A0b rfl _)))
   . cases hj;exact aM rfl (fun c e=>by cases e) rfl rfl (bh rfl t4) (hK _ _ _ _ (fun _ _=>rfl) (hkeep A0b A0b _ ⟨hval,rfl⟩) (fin A0b rfl (hJ.putX A0b rfl _)))
   . cases hj;exact aM rfl (fun c e=>by cases e) rfl rfl (cW (p:=⟨bD,0,none⟩) rfl (hx 104 A0b A0b _ rfl)) (hK _ _ _ _ (fun _ _=>rfl) (hkeep A0b A0b _ ⟨hval,rfl⟩) (fin A0b rfl (hJ.putX A0b rfl _)))
   . cases hj;exact aM rfl (fun c e=>by cases e) rfl rfl (bC rfl f1 f2 f4 A0b (hx 105 A0b A0b _ rfl) (by rw[f3,Zm])) (hK _ _ _ _ (fun _ _=>rfl) (hkeep A0b A0b _ ⟨hval,rfl⟩) (fin A0b rfl (hJ.putX A0b rfl _)))
   . cases hj;exact aM rfl (fun c e=>by cases e) rfl rfl (bW (v:= .slice (some ⟨gS,0,none⟩) C.length C.length) rfl A0a (hx 106 A0b A0b _ rfl) ((Box.cell hbD _).trans rfl)) (hK _ _ _ _ (fun _ _=>rfl) (hkeep A0b A0b _ ⟨hval,rfl⟩) (fin A0b rfl (hJ.putX A0b rfl _)))
   . cases hj;exact aM rfl (fun c e=>by cases e) rfl rfl (bh rfl t7) (hK _ _ _ _ (fun _ _=>rfl) (hkeep A0b A0b _ ⟨hval,rfl⟩) (fin A0b rfl (hJ.putX A0b rfl _)))
   . cases hj;exact aM rfl (fun c e=>by cases e) rfl rfl (lx (sz:=1) (el:=43) rfl hu47 A0a (hx 107 A0b A0b _ rfl) (hx 108 A0b A0b _ rfl) (aaM i) A0c) (hK _ _ _ _ (fun _ _=>rfl) (hkeep A0b A0b _ ⟨hval,rfl⟩) (fin A0b rfl (hJ.putX A0b rfl _)))
   . cases hj;exact aM rfl (fun c e=>by cases e) rfl rfl (bW (v:=vi) rfl A0a (hx 109 A0b A0b _ rfl) ((Box.cell hbX _).trans (by rw[Zx];simpa using hi))) (hK _ _ _ _ (fun _ _=>rfl) (hkeep A0b A0b _ ⟨hval,rfl⟩) (fin A0b rfl (hJ.putX A0b rfl _)))
   . cases hj;exact aM rfl (fun c e=>by cases e) rfl rfl (bh rfl t11) (hK _ _ _ _ (fun _ _=>rfl) (hkeep A0b A0b _ ⟨hval,rfl⟩) (fin A0b rfl (hJ.putX A0b rfl _)))
   . cases hj
     refine A6 hE rfl A0a A0a hJ (st1:=(fh st val _ L).put (some 112) (.sl false 1 [.x (.int .i64 (x:Int))] none)) ?_ (fun a' w' h'=>hK _ _ _ _ (fun _ _=>rfl) (hkeep A0b A0b _ ⟨hval,rfl⟩) (by show HoldH _ _ _ _ ((fh st val _ L).put (some 112) (val 112)) _ _;rw[hval 112 A0b];exact h'))
     have h95:=(hneed 111 A0b).trans (hval 111 A0b);generalize hS:fh _ _ _ _=ST;have h7:ST.t 111= .x (.int .i64 (x:Int)):=by rw[<-hS];exact h95
     refine sa ?_;simp +decide only[go_sem,aR,Nat.reduceBEq,h7]
   . cases hj;have b14:L.testBit 14=false:=hbj;have b14':=bR L 14;have b16':(L|||2^14).testBit 16=false:=by rw[ar L A0b,nb]
     rw[Zs (by rw[b14];exact fun h=>by cases h)] at hIL;subst hIL;have e94:a2.eval (.tmp 110)=vi:=hx 110 A0b A0b _ rfl;obtain⟨m96,r96⟩:=hJ.read 112 (u:= .sl false 1 [.x (.int .i64 (x:Int))] none) ((hneed 112 A0b).trans (hval 112 A0b)) rfl;obtain⟨v',w',g,ob,hrun,q1,q2,q3,q4,q5,q6,q7,q8,q9⟩:=uW (P:=Try.prog) (t:=43) (ty:=43) (el:=3) hu50 Bn qp qq rfl oF hrow (fun g ob h=>hJ.at h) r96 hlen;have h2:=(iq hE hJ q1 q2 q3 q4 (q8.imp (fun e=>hrow.blk e) id) q7 q6).putX (d:=113) A0b rfl v';refine aM rfl (fun c e=>by cases e) rfl rfl (v:=v') (w':=w') ?_ (hK _ _ (upd H2 g (some ob)) (fun k=>if k=113 then .x v' else val k) (fun k hk=>Zs (fun e=>hk A0Z)) ⟨fun k hk=>by rw[Zs hk];exact hval k hk,?_⟩ h2)
     . have e96:a2.eval (.tmp 112)=a2.tmps.getD 112 Go.undef:=rfl;rw[<-e96] at hrun;simp only[execOp,resolve,Sem.run_bind,Sem.run_pure,Result.andThen_ok,invoke,builtin];simp[e94,hrun,show aR.P=Try.prog from rfl]
     . rw[Zs (by rw[b16'];exact fun h=>by cases h),Zp b14'];refine⟨v',Zp rfl,g,ob,rfl,q5,q8.imp id (fun hge=>?_),q9 _ (ai _ _ _)⟩;cases e:H2 g with
       |none=>rfl
       |some ob'=>exact absurd (ae (hJ.at e)) (Z4.2 hge)
   . cases hj;exact aM rfl (fun c e=>by cases e) rfl rfl (lx (sz:=1) (el:=43) rfl hu47 A0a (hx 102 A0b A0b _ rfl) (hx 103 A0b A0b _ rfl) (aaM i) A0c) (hK _ _ _ _ (fun _ _=>rfl) (hkeep A0b A0b _ ⟨hval,rfl⟩) (fin A0b rfl (hJ.putX A0b rfl _)))
   . cases hj;have b14:L.testBit 14=true:=hdp 14 (aa1.1 A0a);have b16':=bR L 16;rw[Zp b14] at hIL;obtain⟨v',hv',hMid⟩:=hIL;have e97:a2.eval (.tmp 113)=v':=hJ.read_x 113 ((hneed 113 A0b).trans hv');obtain⟨hv1,hv2⟩:v'.cells= #[v']∧v'.oneCell'=true:=by obtain⟨_,_,_,_,_,hr⟩:=hMid;rcases hr with⟨_,rfl⟩|⟨_,_,_,_,_,rfl,_⟩<;>exact⟨rfl,rfl⟩
     have hset:vS.toArray.set! (i*1) v'=(vS.set i v').toArray:=by simp[Zx]
     have h2:=iq hE hJ (x:=gS) (ob:= .cells (vS.set i v').toArray 43 (0,0)) (w':=w2.setRow gS (vS.toArray.set! (i*1) v')) rfl rfl rfl A0l (.inl (by rw[hH2 gS A0l,hH.s];exact fun h=>by cases h)) (fun k _ hk=>setRow_other w2 gS k _ hk) (by rw[hset];exact setRow_heap w2 gS _ _ _ (0,0) hbX);exact iX rfl (fun c e=>by cases e) rfl rfl (kz rfl A0a (hx 114 A0b A0b _ rfl) e97 hv1 hv2 hbX A1g) (hK _ _ _ _ (fun _ _=>rfl) ⟨hval,by rw[Zp b16'];exact⟨v',hH.setS hi hMid⟩⟩ h2)
   . simp at hj
 . rintro a2 w2 H2 val ⟨_,hI⟩ hJ;rw[Zp A0a] at hI;obtain⟨v',hI⟩:=hI;exact hQ a2 w2 H2 _ hI (hJ.le (Iw (fun o ho k hk=>by simp only[ZE,aa3,acl] at ho;rcases ho with rfl|rfl|rfl|rfl|rfl|rfl|rfl|rfl|rfl|rfl|rfl|rfl|rfl|rfl|rfl|rfl|rfl<;>cases hk<;>exact hst _ A0b A0b)))
def i8 (x:Nat):V:= .x (.int .i64 (x:Int))
abbrev QS:=List (List Int)×List (List Int)
def cZ (i:Nat) (q:QS) (x:Nat):QS:=(q.1.set i ((q.1[i]?.getD [])++[(x:Int)]),q.2.set x ((q.2[x]?.getD [])++[(i:Int)]))
def LenB (q:QS) (b:Nat):Prop:=(∀es∈q.1,es.length<=b)∧∀es∈q.2,es.length<=b
variable {b:Nat}
theorem qu {q:List (List Int)} {i:Nat} {e:Int} (h:∀es∈q,es.length<=b):∀es∈q.set i ((q[i]?.getD [])++[e]),es.length<=b+1:=fun es he=>by
 rcases abH he with he|rfl
 . have:=h es he;omega
 . rw[Zr];cases hq:q[i]? with
   |none=>simp
   |some es=>have:=h es (Zo hq);simp;omega
variable {q:QS}
theorem LenB.tell {i x:Nat} (h:LenB q b):LenB (cZ i q x) (b+1):=⟨qu h.1,qu h.2⟩
theorem LenB.fold {i:Nat}:∀{ps:List Nat} {q:QS} {b:Nat},LenB q b->LenB (ps.foldl (cZ i) q) (b+ps.length)
 |[],_,_,h=>h
 |x::ps,q,b,h=>by have:=LenB.fold (i:=i) (ps:=ps) (h.tell (i:=i) (x:=x));rw[ZB,show b+(ps.length+1)=b+1+ps.length by omega];exact this
variable {ps:List Nat}
theorem Ef {j x i:Nat} (h:ps[j]?=some x):(ps.take (j+1)).foldl (cZ i) q=cZ i ((ps.take j).foldl (cZ i) q) x:=by rw[aO h,abb];rfl
variable {nl2:Bool}
theorem TG {w1:World} {a:Act} {i:Nat} {H:Nat->Option Obj} {vR vS:List Value} (hi:i<C.length) (hps:∀x∈ps,x<C.length) (hq:LenB q b) (hb:b+ps.length<=99999999) (hp4:ps.length<=1000000)
 (hH:HQ ao ln cp C gP bD gR gS vR vS q.1 q.2 H) (h1:HoldH aR 118 ⟨Kno.rd (.slice ao ln cp) (.sl false 3 (C.map aa) none),fun _=>true,#[],m,w⟩ H (am [(0,.sl nl sz (l.map dv) none),(3,.fm (ksI (ak l)) (vsI (ak l))),(4,.x (.pointer (some ⟨bD,0,none⟩))),(57,.sl false 3 (C.map aa) none),(58,.x (.int .i64 (C.length:Int))),(59,.x (.int .i64 (i:Int))),(7,.x (.int .i64 (i:Int))),(77,.sl nl2 1 (ps.map i8) none),(78,.x (.int .i64 (ps.length:Int))),(79,.x (.int .i64 ((0:Nat):Int)))] []) a w1)
 (hQ:∀a' w' H' vR' vS',HQ ao ln cp C gP bD gR gS vR' vS' (ps.foldl (cZ i) q).1 (ps.foldl (cZ i) q).2 H'->HoldH aR 118 ⟨Kno.rd (.slice ao ln cp) (.sl false 3 (C.map aa) none),fun _=>true,#[],m,w⟩ H' (am [(0,.sl nl sz (l.map dv) none),(3,.fm (ksI (ak l)) (vsI (ak l))),(4,.x (.pointer (some ⟨bD,0,none⟩))),(57,.sl false 3 (C.map aa) none),(58,.x (.int .i64 (C.length:Int))),(59,.x (.int .i64 (i:Int)))] []) a' w'->Q .normal a' w'):zL.wpIn (aX none) 0 aR.P Q a w1:=by
 have hE:=dT;have hm:=j5;refine wpIn_block ?_;refine cm (X:={j:Nat//j<=ps.length}) (fun j a' w'=>∃H vR vS,HQ ao ln cp C gP bD gR gS vR vS ((ps.take j.1).foldl (cZ i) q).1 ((ps.take j.1).foldl (cZ i) q).2 H∧HoldH aR 118 ⟨Kno.rd (.slice ao ln cp) (.sl false 3 (C.map aa) none),fun _=>true,#[],m,w⟩ H (am [(0,.sl nl sz (l.map dv) none),(3,.fm (ksI (ak l)) (vsI (ak l))),(4,.x (.pointer (some ⟨bD,0,none⟩))),(57,.sl false 3 (C.map aa) none),(58,.x (.int .i64 (C.length:Int))),(59,.x (.int .i64 (i:Int))),(7,.x (.int .i64 (i:Int))),(77,.sl nl2 1 (ps.map i8) none),(78,.x (.int .i64 (ps.length:Int))),(79,.x (.int .i64 ((j.1:Nat):Int)))] []) a' w') (fun j=>ps.length-j.1) ⟨0,Z0 _⟩ ⟨H,vR,vS,hH,h1⟩ ?_;clear hH h1 a w1 H vR vS;rintro⟨j,hj0⟩ a w1 ⟨H,vR,vS,hH,h1⟩;simp only at hj0 hH h1⊢;by_cases hj:j<ps.length
 . have c1:decide ((j:Int)<(ps.length:Int))=true:=Zk A0c;have c1':(j:Int)<(ps.length:Int):=A0c
   have c2:(0:Int)<=(j:Int):=A0c
   have c4:=aQ (i:=j) A0c;have q1:ps[j]?=some ps[j]:=eq hj;have hx:=hps ps[j] (Z1 hj);have q2:(ps.map i8)[j]?=some (.x (.int .i64 ((ps[j]:Nat):Int))):=by rw[Io,q1];rfl
   generalize ps[j]=x at q1 hx q2;have hL:LenB ((ps.take j).foldl (cZ i) q) (b+j):=by
    have:=LenB.fold (i:=i) (ps:=ps.take j) hq
    rwa [ZS,aaW hj0] at this
   have hft:=Ef (i:=i) (q:=q) q1;generalize (ps.take j).foldl (cZ i) q=qj at hH hL hft;refine wpIn_seq (fK hE hm [(0,.sl nl sz (l.map dv) none),(3,.fm (ksI (ak l)) (vsI (ak l))),(4,.x (.pointer (some ⟨bD,0,none⟩))),(57,.sl false 3 (C.map aa) none),(58,.x (.int .i64 (C.length:Int))),(59,.x (.int .i64 (i:Int))),(7,.x (.int .i64 (i:Int))),(77,.sl nl2 1 (ps.map i8) none),(78,.x (.int .i64 (ps.length:Int))),(79,.x (.int .i64 (j:Int))),(80,.x (.bool true))] [] A0a A0a h1 A0r ?_);clear h1 a w1;intro a w1 h1;refine wpIn_seq (fK hE hm [(0,.sl nl sz (l.map dv) none),(3,.fm (ksI (ak l)) (vsI (ak l))),(4,.x (.pointer (some ⟨bD,0,none⟩))),(57,.sl false 3 (C.map aa) none),(58,.x (.int .i64 (C.length:Int))),(59,.x (.int .i64 (i:Int))),(7,.x (.int .i64 (i:Int))),(77,.sl nl2 1 (ps.map i8) none),(78,.x (.int .i64 (ps.length:Int))),(79,.x (.int .i64 (j:Int)))] [] A0a A0a h1 A0k ?_);clear h1 a w1;intro a w1 h1;refine wpIn_seq (wpIn_block (wpIn_seq (fK hE hm [(0,.sl nl sz (l.map dv) none),(3,.fm (ksI (ak l)) (vsI (ak l))),(4,.x (.pointer (some ⟨bD,0,none⟩))),(57,.sl false 3 (C.map aa) none),(58,.x (.int .i64 (C.length:Int))),(59,.x (.int .i64 (i:Int))),(7,.x (.int .i64 (i:Int))),(77,.sl nl2 1 (ps.map i8) none),(78,.x (.int .i64 (ps.length:Int))),(79,.x (.int .i64 (j:Int))),(11,.x (.int .i64 (x:Int)))] [] A0a A0a h1 A0A ?_)));clear h1 a w1;intro a w1 h1;have hRl:=hH.lR;have hSl:=hH.lS;have hvRl:=hH.lvR;have hvSl:=hH.lvS;obtain⟨vi,hvi⟩:∃v,vR[i]?=some v:=⟨_,eq A0c ⟩;obtain⟨es,hes⟩:∃e,qj.1[i]?=some e:=⟨_,eq A0c ⟩;have hel:=hL.1 es (Zo hes);refine wpIn_seq (TE (i:=i) (x:=x) hH hvi hes A0c A0g A0g A0g (fun k h1 h2=>?_) h1 ?_)
   . simp only[am,bM]
     iterate 12 (first|rw[ag _ _ A0c]|skip)
   intro a2 w2 H2 vR2 hH2 h2;obtain⟨vj,hvj⟩:∃v,vS[x]?=some v:=⟨_,eq A0c ⟩;obtain⟨es2,hes2⟩:∃e,qj.2[x]?=some e:=⟨_,eq A0c ⟩;have hel2:=hL.2 es2 (Zo hes2);refine TF (i:=x) (x:=i) hH2 hvj hes2 A0c A0g A0g A0g (fun k h1 h2=>?_) h2 ?_
   . simp only[am,bM]
     iterate 12 (first|rw[ag _ _ A0c]|skip)
   intro a3 w3 H3 vS3 hH3 h3;refine fK hE hm [(0,.sl nl sz (l.map dv) none),(3,.fm (ksI (ak l)) (vsI (ak l))),(4,.x (.pointer (some ⟨bD,0,none⟩))),(57,.sl false 3 (C.map aa) none),(58,.x (.int .i64 (C.length:Int))),(59,.x (.int .i64 (i:Int))),(7,.x (.int .i64 (i:Int))),(77,.sl nl2 1 (ps.map i8) none),(78,.x (.int .i64 (ps.length:Int))),(79,.x (.int .i64 ((j+1:Nat):Int)))] [] A0a A0a h3 A0D ?_;intro a4 w4 h4;refine⟨⟨j+1,hj⟩,⟨H3,vR2,vS3,?_,h4⟩,by simp only;omega⟩;have e:cZ i qj x=(qj.1.set i (es++[(x:Int)]),qj.2.set x (es2++[(i:Int)])):=by unfold cZ;rw[hes,hes2];rfl
   rw[hft,e];exact hH3
 . have c1:decide ((j:Int)<(ps.length:Int))=false:=Zl A0c;have e:j=ps.length:=A0c
   subst e;rw[aak] at hH;refine wpIn_seq (fK hE hm [(0,.sl nl sz (l.map dv) none),(3,.fm (ksI (ak l)) (vsI (ak l))),(4,.x (.pointer (some ⟨bD,0,none⟩))),(57,.sl false 3 (C.map aa) none),(58,.x (.int .i64 (C.length:Int))),(59,.x (.int .i64 (i:Int))),(7,.x (.int .i64 (i:Int))),(77,.sl nl2 1 (ps.map i8) none),(78,.x (.int .i64 (ps.length:Int))),(80,.x (.bool false))] [] A0a A0a h1 A0r ?_);clear h1 a w1;intro a w1 h1;refine wpIn_seq (Lf hE hm 4 [(0,.sl nl sz (l.map dv) none),(3,.fm (ksI (ak l)) (vsI (ak l))),(4,.x (.pointer (some ⟨bD,0,none⟩))),(57,.sl false 3 (C.map aa) none),(58,.x (.int .i64 (C.length:Int))),(59,.x (.int .i64 (i:Int)))] [] A0a A0a h1 A0k ?_);clear h1 a w1;intro a w1 h1;exact hQ a w1 H vR vS hH h1
theorem LH {m' m2:Lim} (hes:∀e∈es,∃i,e= .x (.int .i64 i)) (h:Rd m' w' v (.sl nl 1 es none)) (hm:∀blk fr,m2 blk=some fr->m' blk=some fr∨∀off i,w'.cell? ⟨blk,off,none⟩≠some (.int .i64 i)):Rd m2 w' v (.sl nl 1 es none):=by
 cases h with
 |nil=>exact .nil _ _
 |emp a cap=>exact .emp _ _ _
 | sl blk off cap _ _ _ c hb hcap hsz hc hmm hr=>
   cases es with
   |nil=>exact .emp _ _ _
   | cons e es=>
     obtain⟨i,rfl⟩:=hes e (ZP ..);have h0:c 0= .int .i64 i:=Rd.x_iff.1 (hr 0 _ rfl 0 _ rfl);have hc0:=hc 0 A0l;refine .sl blk off cap 1 _ none c hb hcap hsz hc (fun fr hf=>?_) (fun i e hi j d hd=>?_)
     . rcases hm blk fr hf with h|h
       . exact hmm fr h
       . rw[h0] at hc0;exact absurd hc0 (h _ _)
     . obtain⟨n,rfl⟩:=hes e (Zo hi);cases j with
       |zero=>cases hd;have:=hr i _ hi 0 _ rfl;rw[Rd.x_iff.1 this];exact .x _
       |succ j=>cases hd
theorem wg {w1:World} {rest:List Nat} {ts:Array TypeId} {sz2:Nat} {r:List C3} (hn:C.Nodup) (hH:HQ ao ln cp C gP bD gR gS vR vS R S H)
 (hi:ops[4]?=some o) (hop:o.op= .call {callee:= .value (.func 27),args:= #[.tmp 73,.tmp 76],argTypes:=ts}) (hd:o.dst=some 77) (hg:o.guard=none) (s73:st.t 73= .x (.pointer (some ⟨bD,0,none⟩))) (s76:st.t 76= .sl nl2 sz2 (r.map aa) none) (hsz:r≠[]->sz2=3) (hrl:r.length<=1000000)
 (h:HoldH aR 118 ⟨Kno.rd (.slice ao ln cp) (.sl false 3 (C.map aa) none),fun _=>true,#[],m,w⟩ H st a w1) (hK:∀a' w',HoldH aR 118 ⟨Kno.rd (.slice ao ln cp) (.sl false 3 (C.map aa) none),fun _=>true,#[],m,w⟩ H (st.put (some 77) (.sl (gm (plI 0 C) r).isEmpty 1 (gm (plI 0 C) r) none)) a' w'->wpOpsIn (aX none) 0 aR.P ⟨ops⟩ Q rest a' w'):wpOpsIn (aX none) 0 aR.P ⟨ops⟩ Q (4::rest) a w1:=by
 have hE:=dT;have hbD:=h.at hH.d;obtain⟨ents,clock,hp,hMX,hMb,hMn⟩:=hH.p;have hbP:=h.at hp;have hnd:=hH.ne;simp only[ZZ,ZE,aa3,acl,not_or,abJ,Z8,aaZ] at hnd;obtain⟨⟨n1,_,_⟩,_,_⟩:=hnd;obtain⟨m1,O,q1,q2,q4,q5,q6,q7⟩:=h;have e73:a.eval (.tmp 73)= .pointer (some ⟨bD,0,none⟩):=q1.read_x 73 s73;have r76:Rd m1 w1 (a.eval (.tmp 76)) (.sl nl2 sz2 (r.map aa) none):=dJ q1 76 s76 rfl;have hext:Ext m1 w1 (upd (upd m1 bD none) gP none) w1:=(Ext.freeze bD m1 w1).trans (Ext.freeze gP _ w1);have hmP:m1 gP=some 0:=(q2 gP _ hp).2.2.1;have rfm:Rd (upd (upd m1 bD none) gP none) w1 (.map (some gP)) (.fm (ksI (plI 0 C)) (vsI (plI 0 C))):=MapAt.freeze ⟨ents,clock,hbP,hMX m1 w1,hMb,hMn,hmP⟩ hext (ai _ _ _);have hrd:RdL (upd (upd m1 bD none) gP none) w1 [a.eval (.tmp 73),a.eval (.tmp 76)] (kF ((.sl false 3 (C.map aa) none,plI 0 C,.x (.slice (some ⟨gR,0,none⟩) C.length C.length),.x (.slice (some ⟨gS,0,none⟩) C.length C.length)),nl2,sz2,r)):=by
  rw[e73];refine⟨.ip bD 0 _ (fun k=>(#[Value.slice ao ln cp,.map (some gP),.slice (some ⟨gR,0,none⟩) C.length C.length,.slice (some ⟨gS,0,none⟩) C.length C.length][k]?).getD Go.undef) (ae hbD) (fun k hk=>?_) (fun fr hf=>?_) (fun k d hk=>?_),r76.mono hext,trivial⟩
  . rw[Zm,Box.cell hbD];have hk4:k<4:=hk;rw[ZJ (by simpa using hk4)];rfl
  . rw[ag _ _ n1,ai] at hf;cases hf
  . rcases k with _|_|_|_|k
    . cases hk;exact q6.mono hext
    . cases hk;exact rfm
    . cases hk;exact .x _
    . cases hk;exact .x _
    . cases hk
 have hF:Fun aR 27 (FE kF DO):=hE.fn _ _ rfl;have hval:FE kF DO (kF ((.sl false 3 (C.map aa) none,plI 0 C,.x (.slice (some ⟨gR,0,none⟩) C.length C.length),.x (.slice (some ⟨gS,0,none⟩) C.length C.length)),nl2,sz2,r))=some (.sl (gm (plI 0 C) r).isEmpty 1 (gm (plI 0 C) r) none):=(cL DN DO _).trans (Zp ⟨rY hn 0,hsz,hrl⟩);have hc:=hF.2 _ w1 #[a.eval (.tmp 73),a.eval (.tmp 76)] _ _ hval rfl hrd q1.J (fun g=> .undef _);rw[wpOpsIn_cons];unfold wpOpIn;have hi':(⟨ops⟩:Array Oper)[4]?=some o:=A0m
 rw[hi'];simp only;rw[Zp A0u];refine⟨fun _ _=>trivial,?_⟩;rw[Oper.semAt_eq _ _ _ A0G];have hrun:(execOp a.eval o).run aR.P w1= .ok (.enter 27 ((#[.tmp 73,.tmp 76]:Array Operand).map a.eval)) w1:=by simp only[execOp,hop,resolve,Sem.run_bind,Act.eval,Deferred.ofValue,Sem.run_pure,Result.andThen_ok,invoke];simpa using hF.1 _ _
 rw [hrun,show((#[.tmp 73,.tmp 76]:Array Operand).map a.eval)= #[a.eval (.tmp 73),a.eval (.tmp 76)] from by simp];refine⟨(fun e=>by cases e),bH.2 (hc.mono ?_)⟩;rintro e w' ⟨v,m',rfl,hv,hb,hmb⟩;show wpOpsIn (aX none) 0 aR.P ⟨ops⟩ Q rest (a.put o.dst v) w';rw[hd];have hs:Step (fun _=>False) m1 w1 (fun j=>if j<w1.heap.size then m1 j else m' j) w':=Step.of_below hb (fun k hk=>Zp hk);have hJ:aR.J w':=hE.keep [] _ _ (fun x hx=>by cases hx) q1.J (hs.bel (fun k _ e=>e.elim));have hv2:Rd (fun j=>if j<w1.heap.size then m1 j else m' j) w' v (.sl (gm (plI 0 C) r).isEmpty 1 (gm (plI 0 C) r) none):=by
  refine LH (fun e he=>?_) hv (fun blk fr hf=>?_)
  . obtain⟨c,_,rfl⟩:=ZA.1 he;exact⟨_,rfl⟩
  . split at hf
    . rename_i hlt;by_cases e1:blk=bD
      . subst e1;refine .inr (fun off i hc=>?_);rw[aT (hs.same _ (ae hbD) (fun h=>h)).1,Box.cell hbD] at hc;rcases off with _|_|_|_|off<;>simp at hc
      . by_cases e2:blk=gP
        . subst e2;refine .inr (fun off i hc=>?_);rw[aT (hs.same _ (ae hbP) (fun h=>h)).1] at hc;simp[World.cell?,hbP] at hc
        . exact .inl (by rw[hmb blk hlt,ag _ _ e2,ag _ _ e1];exact hf)
    . exact .inl hf
 have hput:=(q1.other hs (fun _ _ h=>h) hJ).put (d:=77) A0b hv2;rw[dq] at hput;refine hK _ _ ⟨_,O,hput,fun g ob hgo=>?_,q4,q5.next hs (fun _ _ h=>h.elim),Kno.mono _ _ _ _ _ q6 hs.ext,q7.put (fun k e=>by cases e;rfl)⟩;obtain⟨s1,s2,s3,s4,s5⟩:=q2 g ob hgo;have hsame:=hs.same g (ae s2) (fun h=>h);exact⟨s1,hsame.1.trans s2,hsame.2.trans s3,s4,s5⟩
theorem Ix (L:List CI) (d c:C3) (v:Int):cJ (L.map fun p=>if gq d p.1=true then (p.1,v) else p) c=if c=d∧ct L d=true then v else cJ L c:=by
 induction L with
 |nil=>simp[cJ,ct,jH]
 | cons p L ih=>
   have hh:ct (p::L) d=(gq d p.1||ct L d):=rfl;rw[ZN];by_cases h1:d=p.1
   . have e1:gq d p.1=true:=Zk h1;rw[Zp e1,hh,e1,Bool.true_or];unfold cJ;by_cases h2:c=p.1
     . rw[Zp (show gq c (p.1,v).1=true from Zk h2),Zp ⟨h2.trans h1.symm,rfl⟩]
     . have e2: ¬gq c p.1=true:=fun h=>h2 (ZO h)
       rw[Zs e2,Zs e2,ih,Zs (fun h=>h2 (h.1.trans h1)),Zs (fun h=>h2 (h.1.trans h1))]
   . have e1: ¬gq d p.1=true:=fun h=>h1 (ZO h)
     have e1':gq d p.1=false:=by simpa using e1
     rw[Zs e1,hh,e1',abP];unfold cJ;by_cases h2:c=p.1
     . have e2:gq c p.1=true:=Zk h2;rw[Zp e2,Zp e2,Zs (fun h=>h1 (h.1.symm.trans h2))]
     . have e2: ¬gq c p.1=true:=fun h=>h2 (ZO h)
       rw[Zs e2,Zs e2,ih]
theorem Iy (L:List CI) (d c:C3) (v:Int):cJ (L++[(d,v)]) c=if ct L c=true then cJ L c else if c=d then v else 0:=by
 induction L with
 | nil=>
   show(if gq c (d,v).1=true then v else 0)=_;rw[Zs (show¬ct [] c=true by simp[ct,jH])];by_cases h:c=d
   . rw[Zp (show gq c (d,v).1=true from Zk h),Zp h]
   . rw[Zs (show¬gq c (d,v).1=true from fun e=>h (ZO e)),Zs h]
 | cons p L ih=>
   have hh:ct (p::L) c=(gq c p.1||ct L c):=rfl;rw[aan,hh];unfold cJ;by_cases h2:gq c p.1=true
   . rw[Zp h2,Zp h2,h2,Bool.true_or,Zp rfl]
   . have e2:gq c p.1=false:=by simpa using h2
     rw[Zs h2,Zs h2,ih,e2,abP]
theorem wh (L:List CI) (d c:C3) (v:Int):ct (fF L d v) c=true->cJ (fF L d v) c=if c=d then v else cJ L c:=by
 intro hc;unfold fF at hc⊢;split
 . rename_i h;rw[Ix];by_cases e:c=d
   . rw[Zp ⟨e,h⟩,Zp e]
   . rw[Zs (fun h=>e h.1),Zs e]
 . rename_i h;rw[Iy];split
   . rename_i h2;rw[Zs (show¬c=d from fun e=>h (e▸h2))]
   . rename_i h2;split
     . rfl
     . rename_i h3;exact(rU (by simpa using h2)).symm
theorem sd (L:List CI) (d c:C3) (v:Int) (hne:c≠d) (h:ct (fF L d v) c=true):ct L c=true:=by
 unfold fF at h;split at h
 . rw[cX] at h⊢;obtain⟨p,hp,rfl⟩:=ZA.1 h;obtain⟨p',hp',rfl⟩:=ZA.1 hp;refine ZA.2 ⟨p',hp',?_⟩;split<;>rfl
 . rw[cX] at h⊢;obtain⟨p,hp,rfl⟩:=ZA.1 h;rcases Zv.1 hp with hp|hp
   . exact ZA.2 ⟨p,hp,rfl⟩
   . rw[Zn.1 hp] at hne;exact absurd rfl hne
theorem Iz:∀n:Nat,n<=l.length->ct (ak (l.take n)) c=true->∃k,k<n∧cJ (ak (l.take n)) c=((k:Nat):Int):=by
 intro n
 induction n with
 |zero=>intro _ h;simp[ak,jI,ct,jH] at h
 | succ n ih=>
   intro hn h;have q1:l[n]?=some l[n]:=eq A0c;have e:ak (l.take (n+1))=fF (ak (l.take n)) (l[n]).1 ((n:Nat):Int):=by unfold ak;rw[aO q1,ef,ZS,Zm,aaW A0c]
   rw[e] at h⊢;rw[wh _ _ _ _ h];by_cases hc:c=(l[n]).1
   . rw[Zp hc];exact⟨n,A0c,rfl⟩
   . rw[Zs hc];obtain⟨k,hk,e2⟩:=ih A0c (sd _ _ _ _ hc h);exact⟨k,A0c,e2⟩
def jy (C r:List C3):List Nat:=(r.filter fun c=>jH c C).map fun c=>(cJ (plI 0 C) c).toNat
theorem IA (hn:C.Nodup) {c:C3} (h:jH c C=true):∃i:Nat,i<C.length∧cJ (plI 0 C) c=(i:Int):=by obtain⟨i,hi⟩:=rZ h;have:=ql (k:=0) hn hi;rw[Zm] at this;exact⟨i,(tl.1 hi).1,this⟩
theorem LI (hn:C.Nodup) (r:List C3):gm (plI 0 C) r=(jy C r).map i8:=by
 unfold gm jy;rw[aat];have e:(r.filter fun c=>ct (plI 0 C) c)=r.filter fun c=>jH c C:=by congr 1;funext c;exact mO C 0 c
 rw[e];refine aaN fun c hc=>?_
 obtain⟨i,_,hi⟩:=IA hn (aaa.1 hc).2;show V.x (.int .i64 (cJ (plI 0 C) c))=V.x (.int .i64 (((cJ (plI 0 C) c).toNat:Nat):Int));rw[hi,iO]
theorem Bo (hn:C.Nodup) (r:List C3):∀x∈jy C r,x<C.length:=fun x hx=>by obtain⟨c,hc,rfl⟩:=ZA.1 hx;obtain⟨i,h1,hi⟩:=IA hn (aaa.1 hc).2;rw[hi,iO];exact h1
theorem wi (C r:List C3):(jy C r).length<=r.length:=by unfold jy;rw[io];exact aa2 _ _
def oG (l:List En) (C:List C3) (q:QS) (i:Nat):QS:=
 match C[i]? with
 |none=>q
 | some c=>match l[(cJ (ak l) c).toNat]? with
   |none=>q
   |some e=>if e.2.1=true then (jy C (aJ e.2.2.1)).foldl (cZ i) q else q
def eG (l:List En) (C:List C3) (n:Nat):QS:=(List.range n).foldl (oG l C) (List.replicate C.length [],List.replicate C.length [])
theorem gJ (l:List En) (C:List C3) (n:Nat):eG l C (n+1)=oG l C (eG l C n) n:=by unfold eG;rw[abg,abb];rfl
theorem Eg {i:Nat} (hc:∀e∈l,rq e.2.2.1<=400) (h:LenB q b):LenB (oG l C q i) (b+160000):=by
 have mono:∀{q:QS} {b b':Nat},LenB q b->b<=b'->LenB q b':=fun h hb=>⟨fun es he=>ZL (h.1 es he) hb,fun es he=>ZL (h.2 es he) hb⟩
 unfold oG;split
 . exact mono h A0c
 . split
   . exact mono h A0c
   . rename_i e he;split
     . refine mono h.fold ?_;have h1:=wi C (aJ e.2.2.1);have h2:=jW e.2.2.1;have h3:=hc e (Zo he);omega
     . exact mono h A0c
theorem oH {l:List En} {C:List C3} (hc:∀e∈l,rq e.2.2.1<=400):∀n,LenB (eG l C n) (n*160000)
 |0=>⟨fun es he=>by rw[(List.mem_replicate.1 he).2];exact Z0 _,fun es he=>by rw[(List.mem_replicate.1 he).2];exact Z0 _⟩
 |n+1=>by rw[gJ,aau,abE];exact Eg hc (oH hc n)
noncomputable def TH:Code:=MC (kI (kI MD))
theorem TI {w1:World} {a:Act} {i:Nat} (hn:C.Nodup) (hi:C[i]?=some c) (h400:C.length<=400) (hsz:l≠[]->sz=20) (_hl4:l.length<=400) (hcnt:∀e∈l,rq e.2.2.1<=400) (hkey:ct (ak l) c=true)
 (hH:HQ ao ln cp C gP bD gR gS vR vS (eG l C i).1 (eG l C i).2 H) (h1:HoldH aR 118 ⟨Kno.rd (.slice ao ln cp) (.sl false 3 (C.map aa) none),fun _=>true,#[],m,w⟩ H (am [(0,.sl nl sz (l.map dv) none),(3,.fm (ksI (ak l)) (vsI (ak l))),(4,.x (.pointer (some ⟨bD,0,none⟩))),(57,.sl false 3 (C.map aa) none),(58,.x (.int .i64 (C.length:Int))),(59,.x (.int .i64 (i:Int)))] []) a w1)
 (hQ:∀a' w' H' vR' vS',HQ ao ln cp C gP bD gR gS vR' vS' (eG l C (i+1)).1 (eG l C (i+1)).2 H'->HoldH aR 118 ⟨Kno.rd (.slice ao ln cp) (.sl false 3 (C.map aa) none),fun _=>true,#[],m,w⟩ H' (am [(0,.sl nl sz (l.map dv) none),(3,.fm (ksI (ak l)) (vsI (ak l))),(4,.x (.pointer (some ⟨bD,0,none⟩))),(57,.sl false 3 (C.map aa) none),(58,.x (.int .i64 (C.length:Int))),(59,.x (.int .i64 (i:Int)))] []) a' w'->Q .normal a' w'):TH.wpIn (aX none) 0 aR.P Q a w1:=by
 have hE:=dT;have hm:=j5;have hiN:=(tl.1 hi).1;have c1':(i:Int)<(C.length:Int):=A0c
 have c2:(0:Int)<=(i:Int):=A0c
 have q2:(C.map aa)[i]?=some (aa c):=by rw[Io,hi];rfl
 simp only[aa] at q2;obtain⟨k,hk,hz⟩:=Iz (l:=l) (c:=c) l.length (Zt _) (by rw[aak];exact hkey);rw[aak] at hz;obtain rfl:=hsz (fun h=>by rw[h] at hk;simp at hk);have kk:=Bd (m:= .fm (ksI (ak l)) (vsI (ak l))) rfl (jq l) (c:=c);rw[hz] at kk;simp only[aa] at kk;have q3:l[k]?=some l[k]:=eq hk;have q4:(l.map dv)[k]?=some (dv l[k]):=by rw[Io,q3];rfl
 have hce:=hcnt l[k] (Z1 hk);have hstep:eG l C (i+1)=if (l[k]).2.1=true then (jy C (aJ (l[k]).2.2.1)).foldl (cZ i) (eG l C i) else eG l C i:=by rw[gJ];unfold oG;rw[hi];simp only;rw[hz,iO,q3]
 generalize l[k]=e at q3 q4 hce hstep;have d1:(k:Int)<(l.length:Int):=A0c
 have d2:(0:Int)<=(k:Int):=A0c
 obtain⟨N,T,hN,lN,lT,hnd,tkN⟩:=Lm e;rw[hN] at q4;have tA:(N++T).take 16=N++T:=ZX (by rw[Zr];omega);have aA:(N++T).all V.cell=true:=by obtain⟨M,hM,_,_,hM4⟩:=vP e;rw[hN] at hM;simp only[V.agg.injEq,Z2,abI] at hM;rw[hM];exact hM4
 refine wpIn_block (wpIn_seq (fK hE hm [(0,.sl nl 20 (l.map dv) none),(3,.fm (ksI (ak l)) (vsI (ak l))),(4,.x (.pointer (some ⟨bD,0,none⟩))),(57,.sl false 3 (C.map aa) none),(58,.x (.int .i64 (C.length:Int))),(59,.x (.int .i64 (i:Int))),(7,.x (.int .i64 (i:Int))),(8,.ptr 8 0)] [(8,[.x (.string c.1),.x (.int .i64 c.2.1),.x (.int .i64 c.2.2)])] A0a A0a h1 A0A ?_));clear h1 a w1;intro a w1 h1;refine wpIn_seq (fK hE hm [(0,.sl nl 20 (l.map dv) none),(3,.fm (ksI (ak l)) (vsI (ak l))),(4,.x (.pointer (some ⟨bD,0,none⟩))),(57,.sl false 3 (C.map aa) none),(58,.x (.int .i64 (C.length:Int))),(59,.x (.int .i64 (i:Int))),(7,.x (.int .i64 (i:Int))),(9,.ptr 9 0)] [(9,.x (.string e.1.1):: .x (.int .i64 e.1.2.1):: .x (.int .i64 e.1.2.2):: .x (.bool e.2.1)::(N++T))] A0a A0a h1 (by simp +decide (maxDischargeDepth:=200) only[go_sem,aR,Nat.reduceBEq,io,ZB,Zr,lN,lT,tA,aA,kk,d1,d2,q4,iO]<;>(repeat' first|rfl|constructor)) ?_);clear h1 a w1;intro a w1 h1;cases hf:e.2.1 with
 |false=>rw[hf] at h1 hstep;rw[Zs A0b] at hstep;refine wpIn_seq (wpIn_seq (fK hE hm [(0,.sl nl 20 (l.map dv) none),(3,.fm (ksI (ak l)) (vsI (ak l))),(4,.x (.pointer (some ⟨bD,0,none⟩))),(57,.sl false 3 (C.map aa) none),(58,.x (.int .i64 (C.length:Int))),(59,.x (.int .i64 (i:Int))),(72,.x (.bool true))] [] A0a A0a h1 A0N ?_));clear h1 a w1;intro a w1 h1;refine Lf hE hm 3 [(0,.sl nl 20 (l.map dv) none),(3,.fm (ksI (ak l)) (vsI (ak l))),(4,.x (.pointer (some ⟨bD,0,none⟩))),(57,.sl false 3 (C.map aa) none),(58,.x (.int .i64 (C.length:Int))),(59,.x (.int .i64 (i:Int)))] [] A0a A0a h1 A0k ?_;intro a2 w2 h2;exact hQ a2 w2 H vR vS (by rw[hstep];exact hH) h2
 | true=>
   rw[hf] at h1 hstep;rw[Zp rfl] at hstep;refine wpIn_seq (wpIn_seq (fK hE hm [(0,.sl nl 20 (l.map dv) none),(3,.fm (ksI (ak l)) (vsI (ak l))),(4,.x (.pointer (some ⟨bD,0,none⟩))),(57,.sl false 3 (C.map aa) none),(58,.x (.int .i64 (C.length:Int))),(59,.x (.int .i64 (i:Int))),(7,.x (.int .i64 (i:Int))),(9,.ptr 9 0),(72,.x (.bool false))] [(9,.x (.string e.1.1):: .x (.int .i64 e.1.2.1):: .x (.int .i64 e.1.2.2):: .x (.bool true)::(N++T))] A0a A0a h1 A0N ?_));clear h1 a w1;intro a w1 h1;refine fK hE hm [(0,.sl nl 20 (l.map dv) none),(3,.fm (ksI (ak l)) (vsI (ak l))),(4,.x (.pointer (some ⟨bD,0,none⟩))),(57,.sl false 3 (C.map aa) none),(58,.x (.int .i64 (C.length:Int))),(59,.x (.int .i64 (i:Int))),(7,.x (.int .i64 (i:Int))),(9,.ptr 9 0)] [(9,.x (.string e.1.1):: .x (.int .i64 e.1.2.1):: .x (.int .i64 e.1.2.2):: .x (.bool true)::(N++T))] A0a A0a h1 A0k ?_;clear h1 a w1;intro a w1 h1;have hrd:FE eD nQ [.agg N]=some (.sl (aJ e.2.2.1).isEmpty (Mm (aJ e.2.2.1)) ((aJ e.2.2.1).map aa) none):=by rw[<-hnd];exact(cL uj _ _).trans (Di hce)
   have hr4:(aJ e.2.2.1).length<=160000:=by have:=jW e.2.2.1;omega
   have hzO:aJ e.2.2.1≠[]->Mm (aJ e.2.2.1)=3:=fun h=>by
    unfold Mm;cases hh:aJ e.2.2.1 with
    |nil=>exact absurd hh h
    |cons _ _=>rfl
   refine wpIn_seq (wpIn_region ?_);refine rG hE 0 4 [(0,.sl nl 20 (l.map dv) none),(3,.fm (ksI (ak l)) (vsI (ak l))),(4,.x (.pointer (some ⟨bD,0,none⟩))),(57,.sl false 3 (C.map aa) none),(58,.x (.int .i64 (C.length:Int))),(59,.x (.int .i64 (i:Int))),(7,.x (.int .i64 (i:Int))),(73,.x (.pointer (some ⟨bD,0,none⟩))),(76,.sl (aJ e.2.2.1).isEmpty (Mm (aJ e.2.2.1)) ((aJ e.2.2.1).map aa) none)] [] [4,5,6] A0b A0a A0a h1 (by simp +decide (maxDischargeDepth:=200) only[go_sem,aR,Nat.reduceBEq,ZB,Zr,lN,lT,tkN,hrd]<;>(repeat' first|rfl|constructor)) ?_;clear h1 a w1;intro a w1 h1;refine wg (nl2:=(aJ e.2.2.1).isEmpty) (sz2:=Mm (aJ e.2.2.1)) (r:=aJ e.2.2.1) hn hH rfl rfl rfl rfl A0i A0i hzO A0c h1 ?_;clear h1 a w1;intro a w1 h1;rw[LI hn] at h1;have hpl:=wi C (aJ e.2.2.1);refine rG hE 5 2 [(0,.sl nl 20 (l.map dv) none),(3,.fm (ksI (ak l)) (vsI (ak l))),(4,.x (.pointer (some ⟨bD,0,none⟩))),(57,.sl false 3 (C.map aa) none),(58,.x (.int .i64 (C.length:Int))),(59,.x (.int .i64 (i:Int))),(7,.x (.int .i64 (i:Int))),(77,.sl ((jy C (aJ e.2.2.1)).map i8).isEmpty 1 ((jy C (aJ e.2.2.1)).map i8) none),(78,.x (.int .i64 ((jy C (aJ e.2.2.1)).length:Int))),(79,.x (.int .i64 ((0:Nat):Int)))] [] [] A0b A0a A0a h1 A0B ?_;clear h1 a w1;intro a w1 h1;refine TG hiN (Bo hn _) (oH hcnt i) A0c A0c hH h1 ?_;intro a2 w2 H2 vR2 vS2 hH2 h2;exact hQ a2 w2 H2 vR2 vS2 (by rw[hstep];exact hH2) h2
theorem IB {es:List Int} (h:RowI H v es) (hw:∀g ob,H g=some ob->w.heap[g]?=some ob) (hm:∀g,H g≠none->m g=none):Rd m w v (rI es):=by
 rcases h with⟨rfl,rfl⟩|⟨g,cap,cur,ty,hne,rfl,hg,hcap,hsz,hc⟩
 . exact .nil _ _
 . have hh:=hw g _ hg;have hmg:=hm g A0H;have e:rI es= .sl false 1 (es.map au) none:=by
    cases es with
    |nil=>exact absurd rfl hne
    |cons a es=>rfl
   rw[e];have:=Rd.sl (m:=m) (w:=w) g 0 cap 1 (es.map au) none (fun k=>(cur[k]?).getD Go.undef) (ae hh) (by rw[io];exact hcap) (fun i e hi=>by
    rw[Io,Zu] at hi;obtain⟨n,_,rfl⟩:=hi;rfl) (fun k hk=>by
    rw[io,Zx] at hk;rw[Zm,Box.cell hh,ZJ A0c];rfl) (fun fr hf=>by rw[hmg] at hf;cases hf) (fun i e hi j d hd=>by
    rw[Io,Zu] at hi;obtain⟨n,hn,rfl⟩:=hi;cases j with
    |zero=>cases hd;rw[Zx,aas,hc i n hn];exact .x _
    |succ j=>cases hd)
   rwa [io] at this
theorem gK {g N:Nat} {vs:List Value} {es:List (List Int)} {ty:TypeId} (hg:H g=some (.cells vs.toArray ty (0,0))) (hr:∀(i:Nat) (v:Value) (e:List Int),vs[i]?=some v->es[i]?=some e->RowI H v e) (hv:vs.length=N) (he:es.length=N) (hw:∀g ob,H g=some ob->w.heap[g]?=some ob) (hm:∀g,H g≠none->m g=none):
 Rd m w (.slice (some ⟨g,0,none⟩) N N) (.sl false 1 (es.map rI) none):=by
 have hh:=hw g _ hg;have hmg:=hm g A0H;have:=Rd.sl (m:=m) (w:=w) g 0 N 1 (es.map rI) none (fun k=>(vs[k]?).getD Go.undef) (ae hh) A0z (fun i e hi=>by
  rw[Io,Zu] at hi;obtain⟨n,_,rfl⟩:=hi;rfl) (fun k hk=>by
  rw[io,Zx] at hk;rw[Zm,Box.cell hh,aaD,eq A0c];rfl) (fun fr hf=>by rw[hmg] at hf;cases hf) (fun i e hi j d hd=>by
  rw[Io,Zu] at hi;obtain⟨n,hn,rfl⟩:=hi;cases j with
  |zero=>cases hd;have hil:=(tl.1 hn).1;rw[Zx,aas,eq A0c];exact IB (hr i _ n (eq A0c) hn) hw hm
  |succ j=>cases hd)
 rwa [io,he] at this
theorem Eh (hH:HQ ao ln cp C gP bD gR gS vR vS R S H) (hw:∀g ob,H g=some ob->w.heap[g]?=some ob) (hm:∀g,H g≠none->m g=none) (hk:Rd m w (.slice ao ln cp) (.sl false 3 (C.map aa) none)):Rd m w (.pointer (some ⟨bD,0,none⟩)) (vU (C,R,S)):=by
 have hbD:=hw bD _ hH.d;have hmD:=hm bD (by rw[hH.d];exact fun h=>by cases h);obtain⟨ents,clock,hp,hMX,hMb,hMn⟩:=hH.p;have hbP:=hw gP _ hp;have hmP:=hm gP (by rw[hp];exact fun h=>by cases h);have rfm:Rd m w (.map (some gP)) (.fm (ksI (plI 0 C)) (vsI (plI 0 C))):=by
  refine MapAt.freeze (m:=upd m gP (some 0)) ⟨ents,clock,hbP,hMX _ _,hMb,hMn,ai _ _ _⟩ ⟨Zt _,fun _ _ _ _ _ h=>h,fun b _ fr' hf=>?_,fun _ _ _ _ h=>h⟩ hmP;by_cases e:b=gP
  . rw[e,hmP] at hf;cases hf
  . exact⟨fr',by rw[ag _ _ e];exact hf,Zt _⟩
 have hlen:R.length=vR.length:=by rw[hH.lR,hH.lvR]
 have rR:=gK (m:=m) hH.r (fun i v e hi he=>hH.rows.row i v e (by rw[Zy (tl.1 hi).1];exact hi) (by rw[Zy (tl.1 he).1];exact he)) hH.lvR hH.lR hw hm;have rS:=gK (m:=m) hH.s (fun i v e hi he=>hH.rows.row (vR.length+i) v e (by rw[ZQ A0c,aaU];exact hi) (by rw[ZQ A0c,show vR.length+i-R.length=i by omega];exact he)) hH.lvS hH.lS hw hm;refine .ip bD 0 _ (fun k=>(#[Value.slice ao ln cp,.map (some gP),.slice (some ⟨gR,0,none⟩) C.length C.length,.slice (some ⟨gS,0,none⟩) C.length C.length][k]?).getD Go.undef) (ae hbD) (fun k hk=>?_) (fun fr hf=>by rw[hmD] at hf;cases hf) (fun k d hk'=>?_)
 . rw[Zm,Box.cell hbD];have hk4:k<4:=hk;rw[ZJ (by simpa using hk4)];rfl
 . rcases k with _|_|_|_|k
   . cases hk';exact hk
   . cases hk';exact rfm
   . cases hk';exact rR
   . cases hk';exact rS
   . cases hk'
theorem TJ {w1:World} {a:Act} {H:Nat->Option Obj} (hn:C.Nodup) (h400:C.length<=400) (hsz:l≠[]->sz=20) (hl4:l.length<=400) (hcnt:∀e∈l,rq e.2.2.1<=400) (hkey:∀c∈C,ct (ak l) c=true)
 (hH:HQ ao ln cp C gP bD gR gS (List.replicate C.length (.slice none 0 0)) (List.replicate C.length (.slice none 0 0)) (List.replicate C.length []) (List.replicate C.length []) H) (h1:HoldH aR 118 ⟨Kno.rd (.slice ao ln cp) (.sl false 3 (C.map aa) none),fun _=>true,#[],m,w⟩ H (am [(0,.sl nl sz (l.map dv) none),(3,.fm (ksI (ak l)) (vsI (ak l))),(4,.x (.pointer (some ⟨bD,0,none⟩)))] []) a w1):
 sc.wpIn (aX none) 0 aR.P (fun e a' w'=>(e=Exit.normal∨e=Exit.ret)∧∃P' st',Hold aR 118 1 ⟨Kno.top,fun _=>true,#[],m,w⟩ P' st' a' w'∧dW aR st' Try.f15.results.toList=some (vU (C,(eG l C C.length).1,(eG l C C.length).2))) a w1:=by
 have hE:=dT;have hm:=j5;refine wpIn_seq (wpIn_seq (wpIn_region ?_));obtain⟨fs,fd,f1,f2,f3,f4⟩:=i7 0 A0b;have t4:a.eval (.tmp 4)=(.pointer (some ⟨bD,0,none⟩)):=h1.read_x 4 A0i;have hbD:=h1.at hH.d;refine cu (i:=0) (rest:=[1,2,3,4,5]) (d:=54) rfl (fun c e=>by cases e) rfl A0b rfl rfl h1 (bh rfl t4) ?_;intro a1 h6;refine cu (i:=1) (rest:=[2,3,4,5]) (d:=55) rfl (fun c e=>by cases e) rfl A0b rfl rfl h6 (cW (p:=⟨bD,0,none⟩) rfl (h6.read_x 54 (v:=(.pointer (some ⟨bD,0,none⟩))) A0i)) ?_;intro a2 h7;refine cu (i:=2) (rest:=[3,4,5]) (d:=56) rfl (fun c e=>by cases e) rfl A0b rfl rfl h7 (bC rfl f1 f2 f4 A0b (h7.read_x 55 (v:=(.pointer (some ⟨bD,0,none⟩))) A0i) (by rw[f3])) ?_;intro a3 h8;refine cu (i:=3) (rest:=[4,5]) (d:=57) rfl (fun c e=>by cases e) rfl A0b rfl rfl h8 (bW (v:= .slice ao ln cp) rfl A0a (h8.read_x 56 (v:=(.pointer (some ⟨bD,0,none⟩))) A0i) ((Box.cell hbD _).trans rfl)) ?_;intro a4 h9;have h10:=h9.know (d:=57) (u:= .sl false 3 (C.map aa) none) A0b (fun m hk=>by rw[show a4.tmps.getD 57 Go.undef= .slice ao ln cp from h9.read_x 57 A0i];exact hk)
 rw[dq] at h10;clear h1 h6 h7 h8 h9 t4 hbD a a1 a2 a3;refine rG hE 4 2 [(0,.sl nl sz (l.map dv) none),(3,.fm (ksI (ak l)) (vsI (ak l))),(4,.x (.pointer (some ⟨bD,0,none⟩))),(57,.sl false 3 (C.map aa) none),(58,.x (.int .i64 (C.length:Int))),(59,.x (.int .i64 ((0:Nat):Int)))] [] [] A0b A0a A0a h10 A0B ?_;clear h10 a4;intro a w6 h6;refine wpIn_block ?_;refine cm (X:={i:Nat//i<=C.length}) (fun i a' w'=>∃H vR vS,HQ ao ln cp C gP bD gR gS vR vS (eG l C i.1).1 (eG l C i.1).2 H∧HoldH aR 118 ⟨Kno.rd (.slice ao ln cp) (.sl false 3 (C.map aa) none),fun _=>true,#[],m,w⟩ H (am [(0,.sl nl sz (l.map dv) none),(3,.fm (ksI (ak l)) (vsI (ak l))),(4,.x (.pointer (some ⟨bD,0,none⟩))),(57,.sl false 3 (C.map aa) none),(58,.x (.int .i64 (C.length:Int))),(59,.x (.int .i64 ((i.1:Nat):Int)))] []) a' w') (fun i=>C.length-i.1) ⟨0,Z0 _⟩ ⟨H,_,_,hH,h6⟩ ?_;clear h6 a w6 hH H w1;rintro⟨i,hi0⟩ a w6 ⟨H,vR,vS,hH,h1⟩;simp only at hi0 hH h1⊢;by_cases hi:i<C.length
 . have c1:decide ((i:Int)<(C.length:Int))=true:=Zk A0c;have c4:=aQ (i:=i) A0c;have q1:C[i]?=some C[i]:=eq hi;refine wpIn_seq (fK hE hm [(0,.sl nl sz (l.map dv) none),(3,.fm (ksI (ak l)) (vsI (ak l))),(4,.x (.pointer (some ⟨bD,0,none⟩))),(57,.sl false 3 (C.map aa) none),(58,.x (.int .i64 (C.length:Int))),(59,.x (.int .i64 (i:Int))),(60,.x (.bool true))] [] A0a A0a h1 A0r ?_);clear h1 a w6;intro a w6 h1;refine wpIn_seq (fK hE hm [(0,.sl nl sz (l.map dv) none),(3,.fm (ksI (ak l)) (vsI (ak l))),(4,.x (.pointer (some ⟨bD,0,none⟩))),(57,.sl false 3 (C.map aa) none),(58,.x (.int .i64 (C.length:Int))),(59,.x (.int .i64 (i:Int)))] [] A0a A0a h1 A0k ?_);clear h1 a w6;intro a w6 h1;refine wpIn_seq (TI hn q1 h400 hsz hl4 hcnt (hkey _ (Z1 hi)) hH h1 ?_);clear h1 a w6;intro a w6 H2 vR2 vS2 hH2 h1;refine fK hE hm [(0,.sl nl sz (l.map dv) none),(3,.fm (ksI (ak l)) (vsI (ak l))),(4,.x (.pointer (some ⟨bD,0,none⟩))),(57,.sl false 3 (C.map aa) none),(58,.x (.int .i64 (C.length:Int))),(59,.x (.int .i64 ((i+1:Nat):Int)))] [] A0a A0a h1 A0D ?_;intro a8 w8 h8;exact⟨⟨i+1,hi⟩,⟨H2,vR2,vS2,hH2,h8⟩,by simp only;omega⟩
 . have c1:decide ((i:Int)<(C.length:Int))=false:=Zl A0c;have e:i=C.length:=A0c
   subst e;refine wpIn_seq (fK hE hm [(4,.x (.pointer (some ⟨bD,0,none⟩))),(60,.x (.bool false))] [] A0a A0a h1 A0r ?_);clear h1 a w6;intro a w6 h1;refine wpIn_seq (Lf hE hm 2 [(4,.x (.pointer (some ⟨bD,0,none⟩)))] [] A0a A0a h1 A0k ?_);clear h1 a w6;intro a w6 h1;refine wpIn_seq (fK hE hm [(2,.x (.pointer (some ⟨bD,0,none⟩)))] [] A0a A0a h1 A0k ?_);clear h1 a w6;intro a w6 h1;have e2:a.tmps.getD 2 Go.undef=(.pointer (some ⟨bD,0,none⟩)):=h1.read_x 2 A0i;have h2:Hold aR 118 1 ⟨Kno.rd (.pointer (some ⟨bD,0,none⟩)) (vU (C,(eG l C C.length).1,(eG l C C.length).2)),fun _=>true,#[],m,w⟩ [] (am [(2,.x (.pointer (some ⟨bD,0,none⟩)))] []) a w6:=HoldH.done h1 (fun m hm hk=>Eh hH (fun g ob h=>h1.at h) hm hk);obtain⟨m2,O2,gs,r1,r2,r3,r4,r5,r6,r7⟩:=h2;have r8:=r1.learn (d:=2) A0b (u:=(vU (C,(eG l C C.length).1,(eG l C C.length).2))) (by rw[e2];exact r6);exact wpIn_ret ⟨.inr rfl,[],_,⟨m2,O2,gs,r8,r2,r3,r4,r5,trivial,r7⟩,by simp +decide (maxDischargeDepth:=200) only[go_sem,aR,vU]⟩
theorem zM:∀n:Nat,n<=l.length->ct (ak (l.take n)) c=true->∃e∈l,e.1=c:=by
 intro n
 induction n with
 |zero=>intro _ h;simp[ak,jI,ct,jH] at h
 | succ n ih=>
   intro hn h;have q1:l[n]?=some l[n]:=eq A0c;have e:ak (l.take (n+1))=fF (ak (l.take n)) (l[n]).1 ((n:Nat):Int):=by unfold ak;rw[aO q1,ef,ZS,Zm,aaW A0c]
   rw[e] at h;by_cases hc:c=(l[n]).1
   . exact⟨_,Z1 _,hc.symm⟩
   . exact ih A0c (sd _ _ _ _ hc h)
theorem qw (h:c∈(ak l).map fun p=>p.1):∃e∈l,e.1=c:=
 zM l.length (Zt _) (by rw[aak];exact cX.2 h)
theorem dl (L:List CI):(bG L).Nodup:=(kH L).imp fun {a b} h e=>by subst e;rw[bQ.irr] at h;cases h
def Ei (p:ES):Prop:=Yn p∧∀e∈p.2.2,e.1.1.size<=281474976710656
def dw (l:List En):PD:=(bG (ak l),(eG l (bG (ak l)) (bG (ak l)).length).1,(eG l (bG (ak l)) (bG (ak l)).length).2)
open Classical in
noncomputable def TK (p:ES):Option V:=if Ei p then some (vU (dw p.2.2)) else none
theorem wj (h:l.length<=400):(ak l).length<=400:=by
 have:=d8 (l':=l.map fun e=>e.1) (jq l) (fun c hc=>by obtain⟨e,he,rfl⟩:=qw hc;exact ZA.2 ⟨e,he,rfl⟩)
 simp only[io] at this;omega
theorem wl (h:l.length<=400):(bG (ak l)).length<=400:=by have h1:=wj h;have:=d8 (l':=(ak l).map fun p=>p.1) (dl _) (fun c hc=>(gG _ _).1 hc);rw[io] at this;omega
theorem IC:dA 15 (FE iZ TK):=by
 refine uR (E:=aR) (n:=118) (sz:=1) (k:=1) Try.func15 rfl (fun a w=>Try.call15 a w) Try.ntmps15 A0b A0b ?_;intro us r m w a hF hdat h0;obtain⟨⟨nl,sz,l⟩,hus,hG⟩:=bL hF;clear hF;subst hus;unfold TK at hG;split at hG
 case isFalse=>cases hG
 rename_i hok;cases hG;obtain⟨⟨hsz,hl4,hcnt⟩,hs8⟩:=hok;simp only at hsz hl4 hcnt hs8;replace h0:=h0 rfl;refine⟨rfl,?_⟩;have h400:=wl hl4;have hn:=dl (ak l);have hso:Ir (ak l):=⟨jq l,wj hl4,fun p hp=>by obtain⟨e,he,h⟩:=qw (l:=l) (c:=p.1) (ZA.2 ⟨p,hp,rfl⟩);rw[<-h];exact hs8 e he⟩
 refine TC (nl:=nl) (sz:=sz) (l:=l) ⟨hsz,hl4⟩ hs8 rfl h400 hn hso h0 (fun v15 gP bD H a' w' hHP h=>?_);obtain⟨ao,ln,cp,rfl⟩:∃ao ln cp,v15= .slice ao ln cp:=by obtain⟨m',O',_,_,_,_,q6,_⟩:=h;exact v6 q6
 refine TD h400 hHP h (fun gR gS H' a2 w2 hHQ h2=>?_);exact TJ hn h400 hsz hl4 hcnt (fun c hc=>cX.2 ((gG _ _).1 hc)) hHQ h2
end Go.Proofs.Ytmfojhkjbkombaa

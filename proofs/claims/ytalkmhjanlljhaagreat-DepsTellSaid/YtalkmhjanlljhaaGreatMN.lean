/- Chapter 12: package deps: the cells of a map, sorted. -/
import Derived.Test.YtalkmhjanlljhaaGreatMQ
import Derived.Test.YtalkmhjanlljhaaGreatMH
import Derived.Test.YtalkmhjanlljhaaGreatMU
import Derived.Test.YtalkmhjanlljhaaGreatMD
namespace Go.Proofs.YtalkmhjanlljhaaGreat
set_option linter.unusedSimpArgs false
set_option maxHeartbeats 16000000
set_option maxRecDepth 100000
open Go Go.RowKit
open Go.Sort (PermIn SortedIn)
open Go.ChangeMaps (setBlock)
attribute [go_sem] Tryz.results9 Tryz.results26
def bh (L:List CI):List C3:=(L.map fun p=>p.1).foldl aG []
theorem lc (L:List CI):fp ac (bh L):=gJ _ List.Pairwise.nil
theorem gO (L:List CI) (c:C3):c∈bh L↔c∈L.map fun p=>p.1:=by unfold bh;rw[eT];simp
def mq (L:List CI):List V:=[.fm (ksI L) (vsI L)]
theorem B8 (p q:List CI) (e:mq p=mq q):p=q:=by
 simp only[mq,VE,V.fm.injEq,Wx] at e;obtain⟨h1,h2⟩:=e;have h3:(p.map fun p=>p.1)=q.map fun p=>p.1:=bu bZ h1
 have h4:(p.map fun p=>p.2)=q.map fun p=>p.2:=by
  have e1:∀L:List CI,vsI L=(L.map fun p=>p.2).map fun i=>V.x (.int .i64 i):=fun L=>by unfold vsI;rw[Wk];rfl
  rw[e1,e1] at h2;exact bu (fun a b e=>by cases e;rfl) h2
 apply Wb;intro i;have a1:=WP (fun l=>l[i]?) h3;have a2:=WP (fun l=>l[i]?) h4;simp only[U5] at a1 a2;cases hp:p[i]? with
 | none=>rw[hp] at a1;cases hq:q[i]? with
   |none=>rfl
   |some y=>rw[hq] at a1;cases a1
 | some y=>rw[hp] at a1 a2;cases hq:q[i]? with
   |none=>rw[hq] at a1;cases a1
   |some z=>rw[hq] at a1 a2;obtain⟨y1,y2⟩:=y;obtain⟨z1,z2⟩:=z;simp only[VT,Vu] at a1 a2;rw[a1,a2]
def FB (L:List CI):Prop:=rx L∧L.length<=400∧∀p∈L,p.1.1.size<=281474976710656
open Classical in
noncomputable def LI (L:List CI):Option V:=if FB L then some (.sl false 3 ((bh L).map aa) none) else none
def Ul:V->C3
 | .agg [.x (.string s),.x (.int _ c),.x (.int _ r)]=>(s,c,r)
 |_=>(⟨#[]⟩,0,0)
def rj (sp:List (MapEntry×V)):Nat:=if sp.isEmpty then 8 else 18
theorem B9 (sp:List (MapEntry×V)) (p:MapEntry×V):rj (sp++[p])=18:=by unfold rj;cases sp<;>rfl
def Kno.map (g:Nat) (ents:Array MapEntry) (clock:Nat):Kno:=⟨fun m w=>w.heap[g]?=some (.map ents clock)∧m g=none,fun _ _ _ _ h he=>⟨he.map _ _ _ h.2 h.1,he.noLim (dO h.1) h.2⟩⟩
theorem ox:EnvOK (aP [(51,bP)] (fun _=>false) [] (fun i=>i==3) (fun _=>false)):=eH _ _ _ _ _ ⟨lB,trivial⟩ trivial
theorem Ca:∀l:List V,(∀k∈l,∃p:C3,k=aa p)->∃ss:List C3,l=ss.map aa:=by
 intro l
 induction l with
 |nil=>exact fun _=>⟨[],rfl⟩
 |cons x l ih=>intro h;obtain⟨ss,rfl⟩:=ih (fun k hk=>h k (Vr _ hk));obtain⟨s,rfl⟩:=h x (Vv ..);exact⟨s::ss,rfl⟩
def Qv:Option Code->Code
 |some (Code.seq _ (Code.seq _ (Code.seq _ c)))=>c
 |_=>Code.skip
noncomputable def Qw:Code:=Qv Tryz.f26.body
theorem oV:∀{a b:List C3},(a.map aa).Perm (b.map aa)->a.Perm b:=by
 intro a b h;have e:∀l:List C3,(l.map aa).map Ul=l:=fun l=>by
  rw[Wk]
  conv=>rhs;rw[<-List.map_id l]
  exact Wv fun p _=>rfl
 have:=h.map Ul
 rwa [e,e] at this
def zB (L:List CI):Prop:=∀(m:Lim) (w:World) (a':Act) (w':World) (l:List C3) (tok:Nat),l.Perm (L.map fun p=>p.1)->One (aP [(51,bP)] (fun _=>false) [] (fun i=>i==3) (fun _=>false)) 40 ⟨[],Kno.top,fun _=>true,#[],fun _=>False,m,w⟩ (aq [(3,.ptr 3 0)] [(3,[.sl false 3 (l.map aa) (some tok)])]) a' w'->Qw.wpIn (be none) 0 Tryz.prog (fun e a' w'=>(e=Exit.normal∨e=Exit.ret)∧∃D' Kn W' t' st',One (aP [(51,bP)] (fun _=>false) [] (fun i=>i==3) (fun _=>false)) 40 ⟨D',Kn,W',t',fun _=>False,m,w⟩ st' a' w'∧eY (aP [(51,bP)] (fun _=>false) [] (fun i=>i==3) (fun _=>false)) st' Tryz.f26.results.toList=some (.sl false 3 ((bh L).map aa) none)) a' w'
theorem Cb (hrest:∀L,FB L->zB L):bM 26 (FE mq LI):=by
 have hE:EnvOK (aP [(51,bP)] (fun _=>false) [] (fun i=>i==3) (fun _=>false)):=ox;have hm:(aP [(51,bP)] (fun _=>false) [] (fun i=>i==3) (fun _=>false)).P.follows .mixedOrders=true:=by kernel_rfl
 refine kh (E:=(aP [(51,bP)] (fun _=>false) [] (fun i=>i==3) (fun _=>false))) (n:=40) (k:=1) hE Tryz.func26 rfl (fun a w=>Tryz.call26 a w) Tryz.ntmps26 (by decide) (by decide) ?_;intro us r m w a hF hdat h0;obtain⟨L,hus,hG⟩:=aZ hF;clear hF;subst hus;unfold LI at hG;split at hG
 case isFalse=>cases hG
 rename_i hok;cases hG;have hrest:=hrest L hok;obtain⟨hn,h400,hsz⟩:=hok;replace h0:=h0 rfl;refine⟨rfl,?_⟩;simp only[mq] at h0;refine wpIn_seq (gH hE hm [(0,.fm (ksI L) (vsI L))] [] (by kernel_rfl) h0 (by simp +decide (maxDischargeDepth:=200) only[go_sem,Nat.reduceBEq]<;>(repeat' first|rfl|constructor)) ?_);clear h0 a;intro a w1 h1;refine wpIn_seq (wpIn_region ?_);refine y4 hE 0 1 [(0,.fm (ksI L) (vsI L)),(6,.fm (ksI L) (vsI L))] [] [1,2,3,4] (by decide) (by kernel_rfl) h1 (by simp +decide (maxDischargeDepth:=200) only[go_sem,Nat.reduceBEq]<;>(repeat' first|rfl|constructor)) ?_;clear h1 a w1;intro a w1 h1;obtain⟨g,ents,clock,he6,hh1,hrd1,hlt,hnd⟩:∃g ents clock,a.tmps.getD 6 Go.undef= .map (some g)∧w1.heap[g]?=some (.map ents clock)∧ents.size=L.length∧(∀e∈ents.toList,e.born<clock)∧(ents.toList.map (·.born)).Nodup:=by obtain⟨m1,O1,hn1,_⟩:=h1;have hrd:=dS hn1 6 (u:= .fm (ksI L) (vsI L)) (by simp only[go_sem,Nat.reduceEqDiff,Vc,Vi,bL,aq]) rfl;obtain⟨g,ents,clock,e,q1,q2,q3,q4,_⟩:=hrd.fm_at;refine⟨g,ents,clock,e,q1,?_,q3,q4⟩;have:=q2.len.1;simp only[ksI,eq,Vk] at this;exact this
 refine rb (i:=1) (rest:=[2,3,4]) (d:=7) rfl (fun c e=>by cases e) rfl (by decide) rfl rfl h1 (.int .i64 (ents.size:Int)) ?_ ?_
 . have e6:a.eval (.tmp 6)= .map (some g):=he6;have hu:Tryz.prog.underlying 55=some (.map (Tryz.prog.mapKeyOf 55) (Tryz.prog.mapElemOf 55)):=by kernel_rfl
   have hl:=run_len_map (P:=Tryz.prog) w1 55 3 g ents clock hu hh1;simp only[execOp,resolve,Sem.run_bind,Sem.run_pure,Result.andThen_ok,invoke,builtin,List.map_toArray,VC,X5,e6,dM,j9];rw[hl];rfl
 clear h1;intro a2 h1 ha2;rw[hrd1] at h1;have c0:(0:Int)<=(L.length:Int):=by omega
 have c1:(16*2:Int)*(L.length:Int)<=281474976710656:=by omega
 have c6:(L.length:Int)<=9223372036854775807:=by omega
 have c7:((32:Nat):Int)*(L.length:Int)<=281474976710656:=by omega
 refine y4 hE 2 3 [(0,.fm (ksI L) (vsI L)),(3,.ptr 3 0)] [(3,[.sl false 3 [] (some 8)])] [] (by decide) (by kernel_rfl) h1 (by simp +decide (maxDischargeDepth:=200) only[go_sem,Nat.reduceBEq,St.put,c0,c6,c7]<;>(repeat' first|rfl|constructor)) ?_;clear h1 hh1 he6 ha2 a a2 w1 hlt hnd hrd1 ents clock g;intro a w1 h1;refine wpIn_seq (wpIn_seq (wpIn_region ?_));refine y4 hE 0 1 [(3,.ptr 3 0),(9,.fm (ksI L) (vsI L))] [(3,[.sl false 3 [] (some 8)])] [1] (by decide) (by kernel_rfl) h1 (by simp +decide (maxDischargeDepth:=200) only[go_sem,Nat.reduceBEq]<;>(repeat' first|rfl|constructor)) ?_;clear h1 a w1;intro a w1 h1;obtain⟨m1,O1,hn1,g2,g3,g4,g5,g6⟩:=h1;obtain⟨g,ents,clock,he9,hh1,hrd1,hlt,hnd,hmg⟩:=(dS hn1 9 (u:= .fm (ksI L) (vsI L)) (by simp only[go_sem,Nat.reduceEqDiff,Vc,Vi,bL,aq]) rfl).fm_at;rw[wpOpsIn_cons];have he9':a.eval (.tmp 9)= .map (some g):=he9
 refine cY (v:= .pointer (some ⟨w1.heap.size,0,none⟩)) (w':=w1.alloc (.mapIter (some g) clock #[] clock)) rfl rfl (by intro c e;cases e) (by simp only[execOp,he9',Sem.run_bind,gt (P:=Tryz.prog) Tryz.underlying55 hh1,Result.andThen_ok,Sem.run_pure,j9]) ?_
 have hbl:Below w1.heap.size w1 (w1.alloc (.mapIter (some g) clock #[] clock)):=(Below.refl _ w1).alloc (Vb _) _;have hst:Step (fun _=>False) m1 w1 m1 (w1.alloc (.mapIter (some g) clock #[] clock)):=Step.of_below hbl (fun _ _=>rfl);have hJ1:(aP [(51,bP)] (fun _=>false) [] (fun i=>i==3) (fun _=>false)).J (w1.alloc (.mapIter (some g) clock #[] clock)):=hE.keep [] _ _ (fun x hx=>by cases hx) hn1.J ⟨hbl.os,hbl.tape,hbl.output,hbl.size,fun k hk _=>hbl.block k hk⟩;have hKr:(aP [(51,bP)] (fun _=>false) [] (fun i=>i==3) (fun _=>false)).K<=w1.heap.size:=hE.high _ hn1.J;have hws:w.heap.size<=w1.heap.size:=g3.ext.size;have hgr:g≠w1.heap.size:=by have:=ae hh1;omega
 have h2:=OneG.after (E:=(aP [(51,bP)] (fun _=>false) [] (fun i=>i==3) (fun _=>false))) (n:=40) (Kn':=Kno.map g ents clock) (d:=10) (g:=w1.heap.size) (ob:= .mapIter (some g) clock #[] clock) (by decide) (v:= .pointer (some ⟨w1.heap.size,0,none⟩)) hn1 g2 g3 g4 g6 rfl hst hJ1 ⟨(Below.heap_alloc _ _ _ (ae hh1)).trans hh1,by rw[ah _ _ hgr];exact hmg⟩ (Vb _) (World.heap_new _ _);generalize w1.heap.size=rr at h2 hKr hws hgr;generalize w1.alloc _=w2 at h2⊢;clear hst hJ1 hbl hn1 g2 g3 g4 g5 g6 he9 he9' hmg;replace h2:=h2.le (st':=aq [(3,.ptr 3 0),(10,.x (.pointer (some ⟨rr,0,none⟩)))] [(3,[.sl false 3 [] (some 8)])]) (aK (by simp +decide (maxDischargeDepth:=200) only[go_sem,Nat.reduceBEq,St.put]<;>(repeat' first|rfl|constructor)) (by simp +decide (maxDischargeDepth:=200) only[go_sem,Nat.reduceBEq,St.put]<;>(repeat' first|rfl|constructor)));obtain⟨ps,hps⟩:∃ps,ps=ents.toList.zip (ksI L):=⟨_,rfl⟩;have hlen:=hrd1.len.1;have hp1:ps.map (fun p=>p.1)=ents.toList:=by rw[hps];exact List.map_fst_zip (by omega)
 have hp2:ps.map (fun p=>p.2)=ksI L:=by rw[hps];exact XT (by omega)
 have hpb:(ps.map fun p=>p.1.born).Nodup:=by
  have:(ps.map fun p=>p.1.born)=(ps.map fun p=>p.1).map (·.born):=by rw[Wk];rfl
  rw[this,hp1];exact hnd
 have hpk:∀p∈ps,p.2.val=some p.1.key:=fun p hp=>by obtain⟨i,hi⟩:=VU hp;rw[hps,WI] at hi;obtain⟨k,v,q1,_,q2,_⟩:=hrd1.get i p.1 hi.1;rw[q1] at hi;cases hi.2;exact q2.2
 have hks:∀k∈ksI L,∃p:C3,k=aa p:=fun k hk=>by obtain⟨p,_,rfl⟩:=U7.1 hk;exact⟨p,rfl⟩
 clear hrd1 hh1;refine(show wpOpsIn (be none) 0 _ _ _ [] _ _ from ?_);refine wpIn_block ?_;refine ce (X:=List (MapEntry×V)) (fun sp a' w'=>(∀p∈sp,p∈ps)∧(sp.map fun p=>p.1.born).Nodup∧OneG (aP [(51,bP)] (fun _=>false) [] (fun i=>i==3) (fun _=>false)) 40 ⟨[],Kno.map g ents clock,fun _=>true,#[],fun _=>False,m,w⟩ (aq [(3,.ptr 3 0),(10,.x (.pointer (some ⟨rr,0,none⟩)))] [(3,[.sl false 3 (sp.map fun p=>p.2) (some (rj sp))])]) a' w' rr (.mapIter (some g) clock (sp.map fun p=>p.1.born).toArray clock) (some 0)) (fun sp=>(ents.toList.filter fun e=> !(sp.map fun p=>p.1.born).contains e.born).length) [] ⟨(fun p hp=>by cases hp),VV,h2⟩ ?_;clear h2 w2 a w1;rintro sp a2 w2 ⟨hsub,hspn,h2⟩;refine wpIn_seq (wpIn_region ?_);show wpOpsIn (be none) 0 _ _ _ (0::List.range' 1 1++[]) _ _;rw[VN,wpOpsIn_cons];have h2':=h2;obtain⟨m2,O2,hn2,-,-,-,⟨k6,-⟩,-,-,k8,-⟩:=h2';have he10:a2.eval (.tmp 10)= .pointer (some ⟨rr,0,none⟩):=hn2.read_x 10 (by simp only[go_sem,Nat.reduceEqDiff,Vc,Vi,bL,aq]);have hcont:∀b:Nat,((sp.map fun p=>p.1.born).toArray.contains b)=(sp.map fun p=>p.1.born).contains b:=fun b=>by simp
 rcases run_next_at (P:=Tryz.prog) w2 0 rr g clock clock _ ents clock k8 k6 hlt (Vb _) with⟨hz,hrun⟩|⟨e,he,w3,hw3,hrun⟩
 . --nothing is left
   refine cY (v:= .tuple #[.bool false]) (w':=w2) rfl rfl (by intro c e;cases e) (by simp only[execOp,he10,Sem.run_bind,j9];rw[hrun];rfl) ?_;have h3:=OneG.putV (d:=11) (v:= .tuple #[.bool false]) (u:= .tup [.x (.bool false)]) (by decide) rfl h2 (fun _ _=>Rd.tup_iff.2 ⟨_,rfl,.x _,trivial⟩);rw[cT] at h3;refine gh hE 1 1 [(3,.ptr 3 0),(12,.x (.bool false))] [(3,[.sl false 3 (sp.map fun p=>p.2) (some (rj sp))])] [] (by decide) (by kernel_rfl) (by kernel_rfl) h3 (by simp +decide (maxDischargeDepth:=200) only[go_sem,Nat.reduceBEq]<;>(repeat' first|rfl|constructor)) ?_;clear h3 h2 hn2;intro a3 w3 h3;refine wpIn_seq (zq hE hm 0 [(3,.ptr 3 0)] [(3,[.sl false 3 (sp.map fun p=>p.2) (some (rj sp))])] (by kernel_rfl) (by kernel_rfl) h3 (by simp +decide (maxDischargeDepth:=200) only[go_sem,Nat.reduceBEq]<;>(repeat' first|rfl|constructor)) ?_);clear h3 a3 w3;intro a3 w3 h3;have hperm:sp.Perm ps:=nU hpb hsub hspn (fun p hp=>by
    have hz':Go.leftOf ents (sp.map fun p=>p.1.born).toArray= #[]:=Wf hz;have:p.1∈ents.toList:=by rw[<-hp1];exact U7.2 ⟨p,hp,rfl⟩
    unfold Go.leftOf at hz';rw[XF] at hz';have:=hz' p.1 (by simpa using this);rw[hcont] at this;simpa using this)
   have hpk2:(sp.map fun p=>p.2).Perm (ksI L):=by rw[<-hp2];exact hperm.map _
   obtain⟨l,hl⟩:=Ca (sp.map fun p=>p.2) (fun k hk=>hks k (hpk2.mem_iff.1 hk));have hlp:l.Perm (L.map fun p=>p.1):=by rw[hl] at hpk2;exact oV hpk2
   have h4:=h3.one;rw[hl] at h4;obtain⟨m4,O4,r1,r2,r3,r4,_,r6⟩:=h4;exact hrest m w a3 w3 l (rj sp) hlp ⟨m4,O4,r1,r2,r3,r4,trivial,r6⟩
 . --an entry has come
   obtain⟨hem,hnew⟩:=mem_left he;rw[hcont] at hnew;obtain⟨pe,hpe,rfl⟩:∃p∈ps,p.1=e:=by rw[<-hp1] at hem;obtain⟨p,hp,rfl⟩:=U7.1 hem;exact⟨p,hp,rfl⟩
   obtain⟨e,kv⟩:=pe;simp only at hem hnew hrun;have hkey:=hpk _ hpe;simp only at hkey;have hkin:kv∈ksI L:=by rw[<-hp2];exact U7.2 ⟨_,hpe,rfl⟩
   obtain⟨pc,rfl⟩:=hks kv hkin;have hkrd:∀(m:Lim) (w:World),Rd m w e.key (aa pc):=fun m w=>by have hk2:(aa pc).val=some e.key:=hkey;simp only[V.val,aa,WX,V.one,List.mapM_nil,Xu,Xa,Wg,VT,Vu] at hk2;rw[<-hk2];exact Rd.agg_iff.2 ⟨_,rfl,.x _,.x _,.x _,trivial⟩
   have hseen:(sp.map fun p=>p.1.born).toArray.push e.born=((sp++[(e,aa pc)]).map fun p=>p.1.born).toArray:=by simp
   rw[hseen] at hrun;have hs3:Step (fun k=>k=rr) m2 w2 m2 (setBlock w3 rr (.mapIter (some g) clock ((sp++[(e,aa pc)]).map fun p=>p.1.born).toArray clock)):=Step.iter hw3 k8;have hr3:=gr (o:= .mapIter (some g) clock ((sp++[(e,aa pc)]).map fun p=>p.1.born).toArray clock) hw3 k8;refine cY (v:= .tuple #[.bool true,e.key,e.val]) (w':=setBlock w3 rr (.mapIter (some g) clock ((sp++[(e,aa pc)]).map fun p=>p.1.born).toArray clock)) rfl rfl (by intro c e;cases e) (by simp only[execOp,he10,Sem.run_bind,j9];rw[hrun];rfl) ?_;have h3:=(OneG.wrote hE h2 (fun l e=>by cases e) hws hKr (hs3.bel (fun k _ h=>Vo.2 h)) hr3).putV (d:=11) (v:= .tuple #[.bool true,e.key,e.val]) (u:= .tup [.x (.bool true),.undef,.undef]) (by decide) rfl (fun _ _=>Rd.tup_iff.2 ⟨_,rfl,.x _,.undef _,.undef _,trivial⟩);rw[cT] at h3;clear hn2 h2 k6 k8 hs3 hr3 hrun he10 hw3;generalize setBlock w3 rr _=w4 at h3;refine gh hE 1 1 [(3,.ptr 3 0),(10,.x (.pointer (some ⟨rr,0,none⟩))),(12,.x (.bool true))] [(3,[.sl false 3 (sp.map fun p=>p.2) (some (rj sp))])] [] (by decide) (by kernel_rfl) (by kernel_rfl) h3 (by simp +decide (maxDischargeDepth:=200) only[go_sem,Nat.reduceBEq]<;>(repeat' first|rfl|constructor)) ?_;clear h3;intro a3 w5 h3;refine wpIn_seq (iq hE hm [(3,.ptr 3 0),(10,.x (.pointer (some ⟨rr,0,none⟩)))] [(3,[.sl false 3 (sp.map fun p=>p.2) (some (rj sp))])] (by kernel_rfl) (by kernel_rfl) h3 (by simp +decide (maxDischargeDepth:=200) only[go_sem,Nat.reduceBEq]<;>(repeat' first|rfl|constructor)) ?_);clear h3 a3 w5;intro a3 w5 h3;refine wpIn_block (wpIn_seq (wpIn_region ?_));show wpOpsIn (be none) 0 _ _ _ (0::List.range' 1 3++[]) _ _;rw[VN,wpOpsIn_cons];have h3':=h3;obtain⟨m5,O5,hn5,-,-,-,⟨k6,-⟩,-,-,k8,-⟩:=h3';have he10:a3.eval (.tmp 10)= .pointer (some ⟨rr,0,none⟩):=hn5.read_x 10 (by simp only[go_sem,Nat.reduceEqDiff,Vc,Vi,bL,aq]);have hen:=run_entry_at (P:=Tryz.prog) w5 rr g clock (sp.map fun p=>p.1.born).toArray ents clock e (by rw[hseen];exact k8) k6 hem hnd;refine cY (v:= .tuple #[e.key,e.val]) (w':=w5) rfl rfl (by intro c e;cases e) (by simp only[execOp,he10,Sem.run_bind,j9];rw[hen];rfl) ?_;have h4:=h3.putV (d:=13) (v:= .tuple #[e.key,e.val]) (u:= .tup [aa pc,.undef]) (by decide) rfl (fun _ _=>Rd.tup_iff.2 ⟨_,rfl,hkrd _ _,.undef _,trivial⟩);rw[cT] at h4;clear hn5 h3 k6 k8 he10 hen;refine gh hE 1 3 [(3,.ptr 3 0),(10,.x (.pointer (some ⟨rr,0,none⟩))),(4,.ptr 4 0)] [(3,[.sl false 3 (sp.map fun p=>p.2) (some (rj sp))]),(4,[.x (.string pc.1),.x (.int .i64 pc.2.1),.x (.int .i64 pc.2.2)])] [] (by decide) (by kernel_rfl) (by kernel_rfl) h4 (by simp +decide (maxDischargeDepth:=200) only[go_sem,Nat.reduceBEq,aa]<;>(repeat' first|rfl|constructor)) ?_;clear h4 a3 w5;intro a3 w5 h3;have hsub2:∀p∈sp++[(e,aa pc)],p∈ps:=fun p hp=>by
    rcases Vl.1 hp with hp|hp
    . exact hsub p hp
    . rw[Vo.1 hp];exact hpe
   have hspn2:((sp++[(e,aa pc)]).map fun p=>p.1.born).Nodup:=by
    rw[Vy,Wy];refine⟨hspn,by simp,fun b hb c hc e1=>?_⟩;have hc1:c=e.born:=by simpa using hc
    subst hc1;subst e1;have:(sp.map fun p=>p.1.born).contains e.born=true:=by simpa using hb
    rw[this] at hnew;cases hnew
   have hspl:sp.length<=400:=by
    have:=dY (dz _ hspn) hsub;have h5:ps.length=L.length:=by have:=WP List.length hp2;simpa[ksI] using this
    omega
   have gg:=zA (E:=(aP [(51,bP)] (fun _=>false) [] (fun i=>i==3) (fun _=>false))) (el:=24) (n:=3) kL kM kN (by decide) rfl (es:=sp.map fun p=>p.2) (es':=[aa pc]) (m:=3) (fun _=>rfl) rfl (by simp only[eq,U3,VB];omega) (by simp only[eq,U3,VB];omega);simp only[aa] at gg;refine iq hE hm [(3,.ptr 3 0),(10,.x (.pointer (some ⟨rr,0,none⟩)))] [(3,[.sl false 3 ((sp.map fun p=>p.2)++[aa pc]) (some 18)])] (by kernel_rfl) (by kernel_rfl) h3 (by simp +decide (maxDischargeDepth:=200) only[go_sem,Nat.reduceBEq,aa,gg]<;>(repeat' first|rfl|constructor)) ?_;clear h3 a3 w5 gg;intro a3 w5 h3;refine⟨sp++[(e,aa pc)],⟨hsub2,hspn2,?_⟩,?_⟩
   . rw[B9,Vy];exact h3
   . refine ge (fun e'=> !(sp.map fun p=>p.1.born).contains e'.born) (fun e'=> !((sp++[(e,aa pc)]).map fun p=>p.1.born).contains e'.born) (fun y hy=>?_) _ e hem (by rw[hnew];rfl) (by simp);simp only[Vy,List.contains_append,Bool.not_or,U6] at hy;exact hy.1
variable {st:St} {ops:List Oper} {L:Nat}
theorem jd {val:Nat->Value} {k:Nat} (h:(ops.all fun o=>o.dst !=some k)=true):(ut st val ops L).t k=st.t k:=by
 show(if cN ops L k=true then V.x (val k) else st.t k)=_;rw[Vh];unfold cN;intro hd;obtain⟨i,_,hi⟩:=Wp.1 hd;rw[U6] at hi;split at hi
 . rename_i o ho;have:=U8.1 h o (Vd ho);rw[eq_of_beq hi.2] at this;simp at this
 . cases hi.2
def T8 (V0:Value) (g i:Nat) (s:ByteArray) (k:Nat):Value:=
 if k=28 then V0 else if k=29 then .int .i64 (i:Int) else if k=30 then V0 else if k=31 then .int .i64 (i:Int) else if k=34 then .string s else if k=35 then .string s else .pointer (some ⟨g,i*3,none⟩)
def Qx:Nat->List Nat
 |4=>[30,31]
 |5=>[32]
 |6=>[33]
 |7=>[34]
 |8=>[28,29]
 |9=>[36]
 |10=>[35,37]
 |_=>[]
theorem Cc (l:List C3):(l.flatMap cu).length=l.length*3:=by
 induction l with
 |nil=>rfl
 |cons c l ih=>rw[VS,U4,ih,U3,show(cu c).length=3 from rfl];omega
theorem Lq:∃fs fd,Tryz.prog.underlying 24=some (.struct fs)∧fs[0]?=some fd∧fd.offset=0∧bq Tryz.prog fd.type=some 1:=⟨_,_,Tryz.underlying24,rfl,rfl,by kernel_rfl⟩
theorem FC (L:List CI) (hok:FB L):zB L:=by
 have hE:EnvOK (aP [(51,bP)] (fun _=>false) [] (fun i=>i==3) (fun _=>false)):=ox;have hm:(aP [(51,bP)] (fun _=>false) [] (fun i=>i==3) (fun _=>false)).P.follows .mixedOrders=true:=by kernel_rfl
 intro m w a1 w1 l tok hp h1;obtain⟨hn,h400,hsz⟩:=hok;have hll:l.length=L.length:=hp.length_eq.trans (by simp);have hnd:l.Nodup:=hp.nodup_iff.2 hn;obtain⟨g,cap,cur,ty,m0,h2,hcap,hgs,hKg,hrd⟩:=One.shedB (E:=(aP [(51,bP)] (fun _=>false) [] (fun i=>i==3) (fun _=>false))) (fun _=>rfl) rfl (fun _ h=>h) rfl h1;have hlen:(l.map aa).length=l.toArray.size:=by simp
 rw[hlen] at h2 hcap hrd;replace h2:OneG (aP [(51,bP)] (fun _=>false) [] (fun i=>i==3) (fun _=>false)) 40 ⟨[],Kno.top,fun _=>true,#[],fun _=>False,m,w⟩ (aq [(3,.ptr 3 0)] [(3,[.x (.slice (some ⟨g,0,none⟩) l.toArray.size cap)])]) a1 w1 g (.cells cur ty (0,0)) (some 0):=h2;have hhg:w1.heap[g]?=some (.cells cur ty (0,0)):=by obtain⟨m5,O5,_,_,_,_,_,_,_,hh9,_⟩:=h2;exact hh9
 have hcur:=Fj rfl hrd hhg;clear h1 hrd hhg;refine wpIn_seq (wpIn_region ?_);refine gh hE 0 1 [(3,.ptr 3 0),(19,.x (.slice (some ⟨g,0,none⟩) l.toArray.size cap))] [(3,[.x (.slice (some ⟨g,0,none⟩) l.toArray.size cap)])] [1,2,3] (by decide) (by kernel_rfl) (by kernel_rfl) h2 (by simp +decide (maxDischargeDepth:=200) only[go_sem,Nat.reduceBEq]<;>(repeat' first|rfl|constructor)) ?_;clear h2 a1 w1;intro a7 w7 h7;have e19:a7.eval (.tmp 19)=(.slice (some ⟨g,0,none⟩) l.toArray.size cap):=h7.read_x 19 (by simp only[go_sem,Nat.reduceEqDiff,Vc,Vi,bL,aq]);refine i8 (i:=1) (rest:=[2,3]) (d:=20) rfl (fun c e=>by cases e) rfl (by decide) rfl rfl h7 (.iface 32 (.slice (some ⟨g,0,none⟩) l.toArray.size cap)) ?_ ?_
 . have hmi:(Instr.makeInterface 32 (.slice (some ⟨g,0,none⟩) l.toArray.size cap)).run Tryz.prog w7= .ok (.iface 32 (.slice (some ⟨g,0,none⟩) l.toArray.size cap)) w7:=run_makeInterface _ _ _ (by kernel_rfl);simp only[execOp,Sem.run_bind,e19,j9,hmi,Result.andThen_ok,Sem.run_pure]
 intro a8 h8 ha8;obtain⟨Bk,valsB,tyB,frB,e3,hB,hB0,hne⟩:∃Bk vals tyB frB,a8.tmps.getD 3 Go.undef= .pointer (some ⟨Bk,0,none⟩)∧w7.heap[Bk]?=some (.cells vals tyB frB)∧vals[0]?=some (.slice (some ⟨g,0,none⟩) l.toArray.size cap)∧Bk≠g:=by obtain⟨m5,O5,hn5,_,_,_,_,_,hng,_⟩:=h8;obtain⟨b,vals,ty,fr,e,e2,e3,e4⟩:=hn5.box_at (i:=3) (s:=3) (v:=(.slice (some ⟨g,0,none⟩) l.toArray.size cap)) (by simp only[go_sem,St.put,Nat.reduceEqDiff,Vc,Vi,bL,aq]) (by simp only[go_sem,St.put,Nat.reduceEqDiff,Vc,Vi,A3,aq]);exact⟨b,vals,ty,fr,e,e2,e3,fun e=>hng (e▸e4)⟩
 refine i8 (i:=2) (rest:=[3]) (d:=21) rfl (fun c e=>by cases e) rfl (by decide) rfl rfl h8 (.func (.func 49) #[] #[.pointer (some ⟨Bk,0,none⟩)]) ?_ ?_
 . have e3':a8.eval (.tmp 3)= .pointer (some ⟨Bk,0,none⟩):=e3;simp only[execOp,Sem.run_bind,Instr.makeFunc,Sem.run_pure,Result.andThen_ok];simp[e3']
 intro a9 h9 ha9;have e20:a9.tmps.getD 20 Go.undef= .iface 32 (.slice (some ⟨g,0,none⟩) l.toArray.size cap):=h9.read_x 20 (by simp only[go_sem,St.put,Nat.reduceEqDiff,Vc,Vi,bL,aq]);have e21:a9.tmps.getD 21 Go.undef= .func (.func 49) #[] #[.pointer (some ⟨Bk,0,none⟩)]:=h9.read_x 21 (by simp only[go_sem,St.put,Nat.reduceEqDiff,Vc,Vi,bL,aq]);obtain⟨hj9,hh9⟩:(au []).J w7∧w7.heap[g]?=some (.cells cur ty (0,0)):=by obtain⟨m5,O5,hn5,_,_,_,_,_,_,hh9,_⟩:=h9;exact⟨hn5.J,hh9⟩
 have hS:=Lf (blk:=g) (Bk:=Bk) (cap:=cap) (d:=l.toArray) hh9 (by simpa using hcur) hB hB0 hne hcap (by simp only[Wr];unfold MX;omega) hKg hj9;refine jz (i:=3) (rest:=[]) rfl rfl rfl rfl (fun a w=>Tryz.call48 a w) (by rw[show Array.map a9.eval #[.tmp 20,.tmp 21]= #[a9.tmps.getD 20 Go.undef,a9.tmps.getD 21 Go.undef] from by simp[Act.eval],e20,e21];exact hS) ?_;rintro e w8 ⟨rfl,d',hp',hs8,hb8,m8,hbx⟩;refine⟨_,rfl,?_⟩;obtain⟨hsrt,hpm⟩:=Fi hp' hs8 (by simpa using hnd);have hrn:d'.toList=bh L:=iW bH hsrt (lc L) (fun c=>by rw[gO,hpm.mem_iff];exact hp.mem_iff)
 have hds:d'.size=l.toArray.size:=hp'.1;obtain⟨_,vals,ty8,xs,rest,hh8,hx8,hr8⟩:=hbx;rw[cM,hrn] at hr8;have hxs:=mo hr8;subst hxs;have hC:(bh L).length=l.toArray.size:=by rw[<-hrn,Vk,hds]
 have hmC:∀c∈bh L,c.1.size<=281474976710656:=fun c hc=>by rw[gO] at hc;obtain⟨p,hp,rfl⟩:=U7.1 hc;exact hsz p hp
 have hN4:l.toArray.size<=400:=by simp only[Wr];omega
 generalize bh L=C at*;have h10:=(OneG.wrote hE h9 (fun l e=>by cases e) hgs hKg hb8 hh8).putV (d:=22) (v:= .tuple #[]) (u:= .undef) (by decide) rfl (fun _ _=> .undef _);show Exit.then _ _ Exit.normal _ _;generalize a9.put (some 22) _=a10 at h10;clear e19 h7 h8 ha8 e3 hB hB0 hne h9 ha9 e20 e21 hj9 hh9 hS hs8 hb8 hr8 hsrt hpm hcur hp' hh8;generalize hNN:l.toArray.size=N at*;have hvs:vals.toList=C.flatMap cu++rest:=hx8;clear hx8 hrn;refine wpIn_seq (wpIn_seq (wpIn_region ?_));refine gh hE 0 1 [(3,.ptr 3 0),(23,.x (.slice (some ⟨g,0,none⟩) N cap))] [(3,[.x (.slice (some ⟨g,0,none⟩) N cap)])] [1,2] (by decide) (by kernel_rfl) (by kernel_rfl) h10 (by simp +decide (maxDischargeDepth:=200) only[go_sem,Nat.reduceBEq,St.put,ey]<;>(repeat' first|rfl|constructor)) ?_;clear h10 a10;intro a1 w1 h1;have e23:a1.eval (.tmp 23)=(.slice (some ⟨g,0,none⟩) N cap):=h1.read_x 23 (by simp only[go_sem,Nat.reduceEqDiff,Vc,Vi,bL,aq]);refine i8 (i:=1) (rest:=[2]) (d:=24) rfl (fun c e=>by cases e) rfl (by decide) rfl rfl h1 (.int .i64 (N:Int)) ?_ ?_
 . have hu:(aP [(51,bP)] (fun _=>false) [] (fun i=>i==3) (fun _=>false)).P.underlying 32=some (.slice 24):=by kernel_rfl
   simp[execOp,resolve,invoke,builtin,Builtin.len_,e23,aC hu,goInt]
 clear h1;intro a2 h1 ha2;refine gh hE 2 1 [(3,.ptr 3 0),(24,.x (.int .i64 (N:Int))),(25,.x (.int .i64 ((0:Nat):Int)))] [(3,[.x (.slice (some ⟨g,0,none⟩) N cap)])] [] (by decide) (by kernel_rfl) (by kernel_rfl) h1 (by simp +decide (maxDischargeDepth:=200) only[go_sem,Nat.reduceBEq,St.put,VO]<;>(repeat' first|rfl|constructor)) ?_;clear h1 e23 ha2 a1 a2 w1;intro a1 w1 h1;refine wpIn_block ?_;refine ce (X:={i:Nat//i<=N}) (fun i a' w'=>OneG (aP [(51,bP)] (fun _=>false) [] (fun i=>i==3) (fun _=>false)) 40 ⟨[],Kno.top,fun _=>true,#[],fun _=>False,m,w⟩ (aq [(3,.ptr 3 0),(24,.x (.int .i64 (N:Int))),(25,.x (.int .i64 ((i.1:Nat):Int)))] [(3,[.x (.slice (some ⟨g,0,none⟩) N cap)])]) a' w' g (.cells vals ty8.ty ty8.fz) (some 0)) (fun i=>N-i.1) ⟨0,VJ _⟩ h1 ?_;clear h1 a1 w1;rintro⟨i,hi0⟩ a1 w1 h1;simp only at hi0 h1⊢;by_cases hi:i<N
 . have c1:decide ((i:Int)<(N:Int))=true:=iO (by omega);have c4:=aF (i:=i) (by omega);refine wpIn_seq (iq hE hm [(3,.ptr 3 0),(24,.x (.int .i64 (N:Int))),(25,.x (.int .i64 (i:Int))),(26,.x (.bool true))] [(3,[.x (.slice (some ⟨g,0,none⟩) N cap)])] (by kernel_rfl) (by kernel_rfl) h1 (by simp +decide (maxDischargeDepth:=200) only[go_sem,Nat.reduceBEq,c1]<;>(repeat' first|rfl|constructor)) ?_);clear h1 a1 w1;intro a1 w1 h1;refine wpIn_seq (iq hE hm [(3,.ptr 3 0),(24,.x (.int .i64 (N:Int))),(25,.x (.int .i64 (i:Int)))] [(3,[.x (.slice (some ⟨g,0,none⟩) N cap)])] (by kernel_rfl) (by kernel_rfl) h1 (by simp +decide (maxDischargeDepth:=200) only[go_sem,Nat.reduceBEq]<;>(repeat' first|rfl|constructor)) ?_);clear h1 a1 w1;intro a1 w1 h1;refine wpIn_seq (wpIn_block (wpIn_seq (iq hE hm [(3,.ptr 3 0),(24,.x (.int .i64 (N:Int))),(25,.x (.int .i64 (i:Int))),(5,.x (.int .i64 (i:Int)))] [(3,[.x (.slice (some ⟨g,0,none⟩) N cap)])] (by kernel_rfl) (by kernel_rfl) h1 (by simp +decide (maxDischargeDepth:=200) only[go_sem,Nat.reduceBEq]<;>(repeat' first|rfl|constructor)) ?_)));clear h1 a1 w1;intro a1 w1 h1;have hiC:i<C.length:=by omega
   obtain⟨s,hs⟩:∃s,s=C[i].1:=⟨_,rfl⟩;have hs8:s.size<=281474976710656:=by rw[hs];exact hmC _ (V4 hiC)
   have hcell:vals[i*3]?=some (.string s):=by rw[<-Vm,hvs,Vg (by rw[Cc];omega),mM,show i*3/3=i by omega,io hiC,show i*3%3=0 by omega,hs];rfl
   have hFC:bP [.x (.string s)]=some (.x (.string s)):=by show(if s.size<=281474976710656 then some (V.x (.string s)) else none)=_;rw[Va hs8]
   obtain⟨fs,fd,f1,f2,f3,f4⟩:=Lq;have h3o:g*0=0:=Nat.mul_zero g;refine Fm (ps:=[(0,0,1),(0,1,2),(0,2,4),(0,3,8),(1,1,3),(1,2,5),(1,3,9),(2,0,3),(2,2,6),(2,3,10),(4,0,5),(4,1,6),(4,3,12),(8,0,9),(8,1,10),(8,2,12),(3,2,7),(3,3,11),(5,1,7),(5,3,13),(9,1,11),(9,2,13),(6,0,7),(6,3,14),(10,0,11),(10,2,14),(12,0,13),(12,1,14),(12,4,28),(7,3,15),(11,2,15),(13,1,15),(13,4,29),(14,0,15),(14,4,30),(28,0,29),(28,1,30),(28,5,60),(15,4,31),(29,1,31),(29,5,61),(30,0,31),(30,5,62),(60,0,61),(60,1,62),(60,6,124),(31,5,63),(61,1,63),(61,6,125),(62,0,63),(62,6,126),(124,0,125),(124,1,126),(124,7,252),(63,6,127),(125,1,127),(125,7,253),(126,0,127),(126,7,254),(252,0,253),(252,1,254),(127,7,255),(253,1,255),(254,0,255),(255,8,511),(511,9,1023),(1023,10,2047)]) hE hm (by kernel_rfl) (T8 (.slice (some ⟨g,0,none⟩) N cap) g i s) Qx (by kernel_rfl) ?_ ?_ h1
   . intro j o L a w2 K hj hJ hneed hK;have hgw:w2.heap[g]?=some (.cells vals ty8.ty ty8.fz):=by obtain⟨m5,O5,_,_,_,_,_,_,_,hh9,_⟩:=hJ;exact hh9
     have t5:a.eval (.tmp 5)= .int .i64 (i:Int):=hJ.read_x 5 ((jd (by kernel_rfl)).trans (by simp only[go_sem,Nat.reduceEqDiff,Vc,Vi,bL,aq]));have t3:∃Bk,a.eval (.tmp 3)= .pointer (some ⟨Bk,0,none⟩)∧w2.cell? ⟨Bk,0,none⟩=some (.slice (some ⟨g,0,none⟩) N cap):=by obtain⟨m5,O5,hn5,_⟩:=hJ;obtain⟨b,vals,ty,fr,e,e2,e3,e4⟩:=hn5.box_at (i:=3) (s:=3) (v:=(.slice (some ⟨g,0,none⟩) N cap)) ((jd (by kernel_rfl)).trans (by simp only[go_sem,Nat.reduceEqDiff,Vc,Vi,bL,aq])) (by simp only[ut,go_sem,Nat.reduceEqDiff,Vc,Vi,A3,aq]);exact⟨b,e,(Box.cell e2 _).trans e3⟩
     obtain⟨Bk,t3,t3c⟩:=t3;rcases j with _|_|_|_|_|_|_|_|_|_|_|j
     . cases hj;exact dA rfl (fun c e=>by cases e) rfl (by decide) rfl rfl hJ (cd rfl (by kernel_rfl) t3 t3c) (fun h=>hK _ _ h)
     . cases hj;exact dA rfl (fun c e=>by cases e) rfl (by decide) rfl rfl hJ (bp rfl t5) (fun h=>hK _ _ h)
     . cases hj;exact dA rfl (fun c e=>by cases e) rfl (by decide) rfl rfl hJ (cd rfl (by kernel_rfl) t3 t3c) (fun h=>hK _ _ h)
     . cases hj;exact dA rfl (fun c e=>by cases e) rfl (by decide) rfl rfl hJ (bp rfl t5) (fun h=>hK _ _ h)
     . cases hj;exact dA rfl (fun c e=>by cases e) rfl (by decide) rfl rfl hJ (km (sz:=3) (el:=24) rfl (by kernel_rfl) (by kernel_rfl) (hneed 30 (by decide)) (hneed 31 (by decide)) (WS i) (by omega)) (fun h=>hK _ _ h)
     . cases hj;exact dA rfl (fun c e=>by cases e) rfl (by decide) rfl rfl hJ (bT rfl f1 f2 f4 (by decide) (hneed 32 (by decide)) (by rw[f3,Wj])) (fun h=>hK _ _ h)
     . cases hj;exact dA rfl (fun c e=>by cases e) rfl (by decide) rfl rfl hJ (cd rfl (by kernel_rfl) (hneed 33 (by decide)) ((Box.cell hgw _).trans hcell)) (fun h=>hK _ _ h)
     . cases hj;refine xB hE rfl rfl rfl (by decide) rfl rfl (fun _=>rfl) lB hFC rfl hJ (fun _=>?_) (fun v w' h=>hK _ _ (by rw[dP] at h;exact h));have e34:a.eval (.tmp 34)= .string s:=hneed 34 (by decide);rw[show Array.map a.eval #[.tmp 34]= #[a.eval (.tmp 34)] from by simp,e34];exact⟨.x _,trivial⟩
     . cases hj;exact dA rfl (fun c e=>by cases e) rfl (by decide) rfl rfl hJ (km (sz:=3) (el:=24) rfl (by kernel_rfl) (by kernel_rfl) (hneed 28 (by decide)) (hneed 29 (by decide)) (WS i) (by omega)) (fun h=>hK _ _ h)
     . cases hj;exact dA rfl (fun c e=>by cases e) rfl (by decide) rfl rfl hJ (bT rfl f1 f2 f4 (by decide) (hneed 36 (by decide)) (by rw[f3,Wj])) (fun h=>hK _ _ h)
     . cases hj;exact xC rfl (fun c e=>by cases e) rfl rfl (xA rfl (by kernel_rfl) (hneed 37 (by decide)) (hneed 35 (by decide)) rfl rfl hgw ty8.ok hcell) (hK _ _ hJ)
     . simp at hj
   . intro a2 w2 h2;have h3:=h2.le (st':=aq [(3,.ptr 3 0),(24,.x (.int .i64 (N:Int))),(25,.x (.int .i64 (i:Int)))] [(3,[.x (.slice (some ⟨g,0,none⟩) N cap)])]) (aK ⟨(jd (by kernel_rfl)).trans (by simp only[go_sem,Nat.reduceEqDiff,Vc,Vi,bL,aq]),(jd (by kernel_rfl)).trans (by simp only[go_sem,Nat.reduceEqDiff,Vc,Vi,bL,aq]),(jd (by kernel_rfl)).trans (by simp only[go_sem,Nat.reduceEqDiff,Vc,Vi,bL,aq]),trivial⟩ (by simp +decide only[ut,go_sem]<;>(repeat' first|rfl|constructor)));refine iq hE hm [(3,.ptr 3 0),(24,.x (.int .i64 (N:Int))),(25,.x (.int .i64 ((i+1:Nat):Int)))] [(3,[.x (.slice (some ⟨g,0,none⟩) N cap)])] (by kernel_rfl) (by kernel_rfl) h3 (by simp +decide (maxDischargeDepth:=200) only[go_sem,Nat.reduceBEq,c4]<;>(repeat' first|rfl|constructor)) ?_;intro a3 w3 h4;exact⟨⟨i+1,hi⟩,h4,by simp only;omega⟩
 . have c1:decide ((i:Int)<(N:Int))=false:=tl (by omega);refine wpIn_seq (iq hE hm [(3,.ptr 3 0),(26,.x (.bool false))] [(3,[.x (.slice (some ⟨g,0,none⟩) N cap)])] (by kernel_rfl) (by kernel_rfl) h1 (by simp +decide (maxDischargeDepth:=200) only[go_sem,Nat.reduceBEq,c1]<;>(repeat' first|rfl|constructor)) ?_);clear h1 a1 w1;intro a1 w1 h1;refine wpIn_seq (zq hE hm 2 [(3,.ptr 3 0)] [(3,[.x (.slice (some ⟨g,0,none⟩) N cap)])] (by kernel_rfl) (by kernel_rfl) h1 (by simp +decide (maxDischargeDepth:=200) only[go_sem,Nat.reduceBEq]<;>(repeat' first|rfl|constructor)) ?_);clear h1 a1 w1;intro a1 w1 h1;have hgw:w1.heap[g]?=some (.cells vals ty8.ty ty8.fz):=by obtain⟨m5,O5,_,_,_,_,_,_,_,hh9,_⟩:=h1;exact hh9
   have hCs:C.toArray.size=N:=by simpa using hC
   have h2:=OneG.done (v:=(.slice (some ⟨g,0,none⟩) N cap)) (u:= .sl false 3 (C.map aa) none) hE h1 ⟨_,_,_,rfl⟩ hgs hKg (Bel.refl _ _) (fun m hm=>by have hb:BoxAt (fun _=>some 0) w1 g (az C.toArray):=⟨rfl,vals,ty8,C.flatMap cu,rest,hgw,hvs,by rw[cM];exact kj _⟩;have:=Ff hb (by rw[hCs];exact hcap) m hm;rw[hCs] at this;exact this)
   refine wpIn_seq (eB hE hm [(2,.x (.slice (some ⟨g,0,none⟩) N cap))] [] (by kernel_rfl) (by kernel_rfl) h2 (by simp +decide (maxDischargeDepth:=200) only[go_sem,Nat.reduceBEq]<;>(repeat' first|rfl|constructor)) ?_);clear h1 h2 hgw;intro a2 w2 h2;have e2:a2.tmps.getD 2 Go.undef=(.slice (some ⟨g,0,none⟩) N cap):=by obtain⟨m5,O5,hn5,_⟩:=h2;exact hn5.read_x 2 (by simp only[go_sem,Nat.reduceEqDiff,Vc,Vi,bL,aq])
   have h3:=One.know (n:=40) (d:=2) (by decide) h2 e2 (dc _ _ _ _);exact wpIn_ret ⟨.inr rfl,_,_,_,_,_,h3,by simp +decide (maxDischargeDepth:=200) only[go_sem]⟩
theorem uC:bM 26 (FE mq LI):=Cb FC
noncomputable def aW:Env:=fK [(26,FE mq LI),(27,FE la B0),(28,FE c9 ek)] [] [(25,xE)] (fun _=>false) (fun _=>false) (fun d=>d==3) (fun _=>false)
theorem ep:EnvOK aW:=yP _ _ _ _ _ _ _ ⟨uC,rh,xz,trivial⟩ trivial ⟨xF,trivial⟩
theorem ko:aW.P.follows .mixedOrders=true:=by kernel_rfl
def MapX (ents:Array MapEntry) (clock:Nat) (ks vs:List V):Prop:=(∀m w,MapRd m w ents.toList ks vs)∧(∀e∈ents.toList,e.born<clock)∧(ents.toList.map (·.born)).Nodup
theorem pU:∀{es:List MapEntry} {ks vs:List V} {m m':Lim} {w w':World},(∀v∈vs,∃x,v= .x x)->MapRd m w es ks vs->MapRd m' w' es ks vs
 |[],[],[],_,_,_,_,_,_=>trivial
 |e::es,k::ks,v::vs,_,_,_,_,hv,h=>by obtain⟨x,rfl⟩:=hv v (Vv ..);refine⟨h.1,⟨h.2.1.1,?_⟩,pU (fun u hu=>hv u (Vr _ hu)) h.2.2⟩;rw[Rd.x_iff.1 h.2.1.2];exact .x _
theorem Qy (L:List CI):∀v∈vsI L,∃x,v= .x x:=fun v hv=>by obtain⟨p,_,rfl⟩:=U7.1 hv;exact⟨_,rfl⟩
theorem zD:∀(C:List C3) (k:Nat) (c:C3),plI k (C++[c])=plI k C++[(c,((k+C.length:Nat):Int))]
 |[],k,c=>by simp[plI]
 |d::C,k,c=>by have:=zD C (k+1) c;rw[show k+1+C.length=k+(C.length+1) by omega] at this;simp only[VN,plI,this,U3]
variable {C:List C3} {i:Nat} {c:C3}
theorem Lr (hn:C.Nodup) (hi:C[i]?=some c):kx Tryz.prog 55 (ksI (plI 0 (C.take i))) (vsI (plI 0 (C.take i))) (aa c) (.x (.int .i64 (i:Int)))=some (ksI (plI 0 (C.take (i+1))),vsI (plI 0 (C.take (i+1)))):=by
 have hil:=(Io.1 hi).1;have hnt:(C.take i).Nodup:=List.Nodup.sublist (List.take_sublist i C) hn;rw[Qs (xI hnt 0),aS hi,zD];have hno:cB (plI 0 (C.take i)) c=false:=by
  rw[mR];cases h:gN c (C.take i) with
  |false=>rfl
  | true=>
    obtain⟨j,hj⟩:=lO h;have hjl:=(Io.1 hj).1;rw[VR] at hj;split at hj
    . rename_i hji;have h1:=(Io.1 hj).2;have h2:=(Io.1 hi).2;have:=(List.getElem_inj hn).1 (h1.trans h2.symm);omega
    . cases hj
 have e:fT (plI 0 (C.take i)) c (i:Int)=plI 0 (C.take i)++[(c,(i:Int))]:=by unfold fT;rw[Vh (by rw[hno];exact fun h=>by cases h)]
 rw[e,Vj,WR (by omega),Vt]
abbrev obD (v15:Value) (gP:Nat) (r s:Value):Obj:= .cells #[v15,.map (some gP),r,s] 60 (0,0)
def HP (v15:Value) (C:List C3) (gP bD i:Nat) (H:Nat->Option Obj):Prop:=H bD=some (obD v15 gP (.slice none 0 0) (.slice none 0 0))∧(∃ents clock,H gP=some (.map ents clock)∧MapX ents clock (ksI (plI 0 (C.take i))) (vsI (plI 0 (C.take i))))∧gP≠bD
theorem je (f:Nat) (hf:f<4):∃fs fd,Tryz.prog.underlying 60=some (.struct fs)∧fs[f]?=some fd∧fd.offset=f∧bq Tryz.prog fd.type=some 1:=by
 rcases f with _|_|_|_|f
 . exact⟨_,_,Tryz.underlying60,rfl,rfl,by kernel_rfl⟩
 . exact⟨_,_,Tryz.underlying60,rfl,rfl,by kernel_rfl⟩
 . exact⟨_,_,Tryz.underlying60,rfl,rfl,by kernel_rfl⟩
 . exact⟨_,_,Tryz.underlying60,rfl,rfl,by kernel_rfl⟩
 . omega
def Cd (c:C3) (i gP bD:Nat) (k:Nat):V:=
 if k=31 then .x (.pointer (some ⟨bD,1,none⟩)) else if k=32 then .x (.map (some gP)) else if k=33 then aa c else if k=34 then .x (.int .i64 (i:Int)) else .x (.pointer (some ⟨bD,0,none⟩))
def Jp:Nat->List Nat
 |1=>[29]
 |2=>[30]
 |3=>[31]
 |6=>[32,33,34]
 |_=>[]
variable {E:Env} {o:Oper}
theorem rk {ops:Array Oper} {st1:St} (h:br E ops [o] st fun st'=>st'=st1):gz E ops o st=some st1:=by
 obtain⟨st',hs,rfl⟩:=cD _ _ h;unfold eg at hs;split at hs
 . rename_i s1 h1;unfold eg at hs;rw[h1];exact hs
 . cases hs
def Jq:Code->Code
 | .seq a _=>a
 |c=>c
def ld:Code->Code
 | .seq _ b=>b
 |c=>c
def uD:Code->Code
 | .block _ c=>c
 |c=>c
def II:Code->Code
 | .loop c=>c
 |c=>c
noncomputable def FD:Code:=(Tryz.f9.body).getD .skip
def Lt:Code->List Oper
 | .region _ ops _=>ops.toList
 |_=>[]
noncomputable def Qz:Code:=ld (uD (Jq (ld (ld (II (uD (ld (Jq (ld (ld (ld FD)))))))))))
noncomputable def QA:List Oper:=Lt Qz
variable {gP bD sz:Nat} {m:Lim} {w w1:World} {H:Nat->Option Obj} {nl:Bool} {l:List En} {Q:Exit->Act->World->Prop}
theorem uE {v15:Value} {a1:Act} {ks vs:List V} (hn:C.Nodup) (hi:C[i]?=some c)
 (h1:HoldH aW 118 ⟨Kno.rd v15 (.sl false 3 (C.map aa) none),fun _=>true,#[],m,w⟩ H (aq [(0,.sl nl sz (l.map bK) none),(3,.fm ks vs),(4,.x (.pointer (some ⟨bD,0,none⟩))),(22,.sl false 3 (C.map aa) none),(23,.x (.int .i64 (C.length:Int))),(24,.x (.int .i64 (i:Int))),(5,.x (.int .i64 (i:Int))),(6,.ptr 6 0)] [(6,[.x (.string c.1),.x (.int .i64 c.2.1),.x (.int .i64 c.2.2)])]) a1 w1) (hH:HP v15 C gP bD i H)
 (hQ:∀a' w' H',HP v15 C gP bD (i+1) H'->HoldH aW 118 ⟨Kno.rd v15 (.sl false 3 (C.map aa) none),fun _=>true,#[],m,w⟩ H' (aq [(0,.sl nl sz (l.map bK) none),(3,.fm ks vs),(4,.x (.pointer (some ⟨bD,0,none⟩))),(22,.sl false 3 (C.map aa) none),(23,.x (.int .i64 (C.length:Int))),(24,.x (.int .i64 (i:Int)))] []) a' w'->Q .normal a' w'):
 Qz.wpIn (be none) 0 aW.P Q a1 w1:=by
 obtain⟨fs,fd,f1,f2,f3,f4⟩:=je 1 (by decide);refine xD ep ko (by kernel_rfl) Jp (by kernel_rfl) (fun L H' val=>val=Cd c i gP bD∧if L.testBit 6=true then HP v15 C gP bD (i+1) H' else H'=H) ?_ (Cd c i gP bD) ⟨rfl,rfl⟩ ?_ h1
 . intro L j o H2 val a w2 K hj hb _ hcl hIv hJ hneed hK;obtain⟨rfl,hIL⟩:=hIv;have hjl:j<7:=(Io.1 hj).1;have hL:L.testBit 6=false:=re hcl rfl (by kernel_rfl) (by omega) hb;rw[Vh (by rw[hL];exact fun h=>by cases h)] at hIL;subst hIL;have t4:a.eval (.tmp 4)= .pointer (some ⟨bD,0,none⟩):=hJ.read_x 4 ((cy (by kernel_rfl)).trans (by simp only[go_sem,Nat.reduceEqDiff,Vc,Vi,bL,aq]));have t5:a.eval (.tmp 5)= .int .i64 (i:Int):=hJ.read_x 5 ((cy (by kernel_rfl)).trans (by simp only[go_sem,Nat.reduceEqDiff,Vc,Vi,bL,aq]));have hx:∀k∈Jp j,∀v,Cd c i gP bD k= .x v->a.eval (.tmp k)=v:=fun k hk v hv=>hJ.read_x k ((hneed k hk).trans hv)
   have hL':j≠6-> ¬(L|||2^j).testBit 6=true:=fun h=>by rw[fS L h,hL];exact fun h=>by cases h
   have hbD:w2.heap[bD]?=some (obD v15 gP (.slice none 0 0) (.slice none 0 0)):=hJ.at hH.1;rcases j with _|_|_|_|_|_|_|j
   . cases hj;exact aT rfl (fun c e=>by cases e) rfl rfl (bp rfl t4) (hK _ _ _ _ (fun _ _=>rfl) ⟨rfl,by rw[Vh (hL' (by decide))]⟩ (hJ.putX (by decide) rfl _))
   . cases hj;exact aT rfl (fun c e=>by cases e) rfl rfl (du rfl (hx 29 (by decide) _ rfl)) (hK _ _ _ _ (fun _ _=>rfl) ⟨rfl,by rw[Vh (hL' (by decide))]⟩ (hJ.putX (by decide) rfl _))
   . cases hj;exact aT rfl (fun c e=>by cases e) rfl rfl (bT rfl f1 f2 f4 (by decide) (hx 30 (by decide) _ rfl) (by rw[f3])) (hK _ _ _ _ (fun _ _=>rfl) ⟨rfl,by rw[Vh (hL' (by decide))]⟩ (hJ.putX (by decide) rfl _))
   . cases hj;exact aT rfl (fun c e=>by cases e) rfl rfl (cd rfl (by kernel_rfl) (hx 31 (by decide) _ rfl) (Box.cell hbD _)) (hK _ _ _ _ (fun _ _=>rfl) ⟨rfl,by rw[Vh (hL' (by decide))]⟩ (hJ.putX (by decide) rfl _))
   . cases hj;have h6:=(cy (st:=aq [(0,.sl nl sz (l.map bK) none),(3,.fm ks vs),(4,.x (.pointer (some ⟨bD,0,none⟩))),(22,.sl false 3 (C.map aa) none),(23,.x (.int .i64 (C.length:Int))),(24,.x (.int .i64 (i:Int))),(5,.x (.int .i64 (i:Int))),(6,.ptr 6 0)] [(6,[.x (.string c.1),.x (.int .i64 c.2.1),.x (.int .i64 c.2.2)])]) (val:=Cd c i gP bD) (ops:=QA) (L:=L) (k:=6) (by kernel_rfl)).trans (show _=V.ptr 6 0 by simp only[go_sem,Nat.reduceEqDiff,Vc,Vi,bL,aq]);have h6b:(kn (aq [(0,.sl nl sz (l.map bK) none),(3,.fm ks vs),(4,.x (.pointer (some ⟨bD,0,none⟩))),(22,.sl false 3 (C.map aa) none),(23,.x (.int .i64 (C.length:Int))),(24,.x (.int .i64 (i:Int))),(5,.x (.int .i64 (i:Int))),(6,.ptr 6 0)] [(6,[.x (.string c.1),.x (.int .i64 c.2.1),.x (.int .i64 c.2.2)])]) (Cd c i gP bD) QA L).b 6=some [.x (.string c.1),.x (.int .i64 c.2.1),.x (.int .i64 c.2.2)]:=by simp only[kn,go_sem,Nat.reduceEqDiff,Vc,Vi,A3,aq]
     refine zt ep rfl (by kernel_rfl) (by kernel_rfl) hJ (st1:=(kn _ (Cd c i gP bD) _ L).put (some 33) (aa c)) ?_ (fun a' w' h'=>hK _ _ _ _ (fun _ _=>rfl) ⟨rfl,by rw[Vh (hL' (by decide))]⟩ h');generalize hS:kn _ _ _ _=ST;have h7:ST.t 6= .ptr 6 0:=by rw[<-hS];exact h6
     have h7b:ST.b 6=some [.x (.string c.1),.x (.int .i64 c.2.1),.x (.int .i64 c.2.2)]:=by rw[<-hS];exact h6b
     refine rk ?_;simp +decide only[go_sem,aW,Nat.reduceBEq,h7,h7b,aa]
   . cases hj;exact aT rfl (fun c e=>by cases e) rfl rfl (bp rfl t5) (hK _ _ _ _ (fun _ _=>rfl) ⟨rfl,by rw[Vh (hL' (by decide))]⟩ (hJ.putX (by decide) rfl _))
   . cases hj;obtain⟨hD,⟨ents,clock,hP,hMX,hMb,hMn⟩,hne⟩:=hH;have e32:a.eval (.tmp 32)= .map (some gP):=hx 32 (by decide) _ rfl;have e34:a.eval (.tmp 34)= .int .i64 (i:Int):=hx 34 (by decide) _ rfl;obtain⟨m33,r33⟩:=hJ.read 33 (u:=aa c) (hneed 33 (by decide)) rfl;have e33:a.eval (.tmp 33)= .agg #[.string c.1,.int .i64 c.2.1,.int .i64 c.2.2]:=r33.val_is rfl;obtain⟨ents',clock',hrun,hMA,_⟩:=mZ (P:=Tryz.prog) (t:=55) (x:=a.eval (.tmp 33)) (y:=a.eval (.tmp 34)) (m:=fun _=>some 0) ⟨ents,clock,hJ.at hP,hMX _ _,hMb,hMn,rfl⟩ (k:=aa c) (v:= .x (.int .i64 (i:Int))) (by rw[e33];exact Rd.agg_iff.2 ⟨_,rfl,.x _,.x _,.x _,trivial⟩) (by rw[e34];exact .x _) (Lr hn hi);refine ja rfl (fun c e=>by cases e) rfl rfl (w':={w2 with heap:=w2.heap.setIfInBounds gP (.map ents' clock')}) ?_ ?_
     . simp only[execOp,e32,Sem.run_bind];have hrun':=hrun;rw[show aW.P=Tryz.prog from rfl,hrun'];rfl
     . obtain⟨ents2,clock2,hh2,hrd2,hb2,hn2,_⟩:=hMA;have hPl:=ae (hJ.at hP);have hset:({w2 with heap:=w2.heap.setIfInBounds gP (.map ents' clock')}:World).heap[gP]?=some (.map ents' clock'):=by show(w2.heap.setIfInBounds gP _)[gP]?=_;rw[Array.getElem?_setIfInBounds_self_of_lt hPl]
       rw[hset] at hh2;cases hh2;refine hK _ _ (aD H2 gP (some (.map ents' clock'))) _ (fun _ _=>rfl) ⟨rfl,?_⟩ (hJ.wrote ep rfl rfl rfl (by simp) (fun k _ hk=>?_) (fun g ob hg=>?_))
       . rw[Va (jb L 6)];exact⟨by rw[ah _ _ (WL hne)];exact hD,⟨ents',clock',ai _ _ _,⟨fun _ _=>pU (Qy _) hrd2,hb2,hn2⟩⟩,hne⟩
       . show(w2.heap.setIfInBounds gP _)[k]?=_;rw[Xk (fun e=>by rw[<-e,hP] at hk;cases hk)]
       . by_cases e:g=gP
         . subst e;rw[ai] at hg;cases hg;exact⟨hset,.inl (by rw[hP];exact fun h=>by cases h)⟩
         . rw[ah _ _ e] at hg;refine⟨?_,.inl (by rw[hg];exact fun h=>by cases h)⟩;show(w2.heap.setIfInBounds gP _)[g]?=_;rw[Xk (WL e)];exact hJ.at hg
   . simp at hj
 . rintro a w2 H2 val ⟨_,hI⟩ hJ;rw[Va (by kernel_rfl)] at hI;refine hQ a w2 H2 hI (hJ.le (aK ⟨(cy (by kernel_rfl)).trans (by simp only[go_sem,Nat.reduceEqDiff,Vc,Vi,bL,aq]),(cy (by kernel_rfl)).trans (by simp only[go_sem,Nat.reduceEqDiff,Vc,Vi,bL,aq]),(cy (by kernel_rfl)).trans (by simp only[go_sem,Nat.reduceEqDiff,Vc,Vi,bL,aq]),(cy (by kernel_rfl)).trans (by simp only[go_sem,Nat.reduceEqDiff,Vc,Vi,bL,aq]),(cy (by kernel_rfl)).trans (by simp only[go_sem,Nat.reduceEqDiff,Vc,Vi,bL,aq]),(cy (by kernel_rfl)).trans (by simp only[go_sem,Nat.reduceEqDiff,Vc,Vi,bL,aq]),trivial⟩ trivial))
noncomputable def xM:Code:=ld (ld (ld (ld FD)))
variable {ob:Obj} {w':World} {n:Nat} {a:Act}
theorem ir {x:Nat} {B:Hb} (hE:EnvOK E) (h:HoldH E n B H st a w) (hos:w'.os=w.os) (htp:w'.tape=w.tape) (hou:w'.output=w.output) (hsz:w.heap.size<=w'.heap.size) (hx:H x≠none∨w.heap.size<=x) (hb:∀k,k<w.heap.size->k≠x->w'.heap[k]?=w.heap[k]?) (hn:w'.heap[x]?=some ob):HoldH E n B (aD H x (some ob)) st a w':=by
 refine h.wrote hE hos htp hou hsz (fun k hk hH=>hb k hk (fun e=>?_)) (fun g o hg=>?_)
 . rcases hx with hx|hx
   . exact hx (e▸hH)
   . omega
 . by_cases e:g=x
   . subst e;rw[ai] at hg;cases hg;exact⟨hn,hx⟩
   . rw[ah _ _ e] at hg;exact⟨(hb g (ae (h.at hg)) e).trans (h.at hg),.inl (by rw[hg];exact fun h=>by cases h)⟩
theorem lf {B:Hb} (hE:EnvOK E) (h:HoldH E n B H st a w):HoldH E n B (aD H w.heap.size (some ob)) st a (w.alloc ob):=
 ir hE h rfl rfl rfl (X7 (ae (World.heap_new w ob))) (.inr (Vb _)) (fun k hk _=>Below.heap_alloc w ob k hk) (World.heap_new w ob)
variable {v:Value} {es:List V} {tok:Option Nat}
theorem uF (h:Rd m w v (.sl false sz es tok)):∃ao ln cp,v= .slice ao ln cp:=by cases h<;>exact⟨_,_,_,rfl⟩
theorem FF (h:Rd m w v (.sl true sz es tok)):v= .slice none 0 0:=by cases h;rfl
theorem QB {a:Act} (hok:Fv (nl,sz,l)) (_hsz:∀e∈l,e.1.1.size<=281474976710656) (hC:C=bh (aj l)) (h400:C.length<=400) (hn:C.Nodup) (hso:FB (aj l))
 (h1:Hold aW 118 1 ⟨Kno.top,fun _=>true,#[],m,w⟩ [] (start [.sl nl sz (l.map bK) none]) a w)
 (hrest:∀v15 gP bD H a' w',HP v15 C gP bD C.length H->HoldH aW 118 ⟨Kno.rd v15 (.sl false 3 (C.map aa) none),fun _=>true,#[],m,w⟩ H (aq [(0,.sl nl sz (l.map bK) none),(3,.fm (ksI (aj l)) (vsI (aj l))),(4,.x (.pointer (some ⟨bD,0,none⟩)))] []) a' w'->xM.wpIn (be none) 0 aW.P Q a' w'):FD.wpIn (be none) 0 aW.P Q a w:=by
 have hE:=ep;have hm:=ko;have h0:=HoldH.of h1;clear h1;refine wpIn_seq (fY hE hm [(0,.sl nl sz (l.map bK) none)] [] (by kernel_rfl) (by kernel_rfl) h0 (by simp +decide (maxDischargeDepth:=200) only[go_sem,aW,Nat.reduceBEq]<;>(repeat' first|rfl|constructor)) ?_);clear h0 a;intro a w1 h1;have e1:xE [.sl nl sz (l.map bK) none]=some (ksI (aj l),vsI (aj l)):=IB (p:=(nl,sz,l)) hok;refine wpIn_seq (fY hE hm [(0,.sl nl sz (l.map bK) none),(3,.fm (ksI (aj l)) (vsI (aj l)))] [] (by kernel_rfl) (by kernel_rfl) h1 (by simp +decide (maxDischargeDepth:=200) only[go_sem,aW,Nat.reduceBEq,e1]<;>(repeat' first|rfl|constructor)) ?_);clear h1 a w1;intro a w1 h1;have e2:FE mq LI [.fm (ksI (aj l)) (vsI (aj l))]=some (.sl false 3 (C.map aa) none):=by rw[hC];exact(bC B8 LI (aj l)).trans (Va hso)
 refine wpIn_seq (wpIn_region ?_);refine rc hE 0 2 [(0,.sl nl sz (l.map bK) none),(3,.fm (ksI (aj l)) (vsI (aj l))),(15,.sl false 3 (C.map aa) none)] [] [2,3,4,5] (by decide) (by kernel_rfl) (by kernel_rfl) h1 (by simp +decide (maxDischargeDepth:=200) only[go_sem,aW,Nat.reduceBEq,e2]<;>(repeat' first|rfl|constructor)) ?_;clear h1 a w1;intro a w1 h1;obtain⟨v15,hv15⟩:∃v,v=a.tmps.getD 15 Go.undef:=⟨_,rfl⟩;have h2:HoldH aW 118 ⟨Kno.rd v15 (.sl false 3 (C.map aa) none),fun _=>true,#[],m,w⟩ (fun _=>none) (aq [(0,.sl nl sz (l.map bK) none),(3,.fm (ksI (aj l)) (vsI (aj l))),(15,.sl false 3 (C.map aa) none)] []) a w1:=h1.learn (Kn':=Kno.rd v15 (.sl false 3 (C.map aa) none)) (fun m O hn _=>by rw[hv15];exact dS hn 15 (by simp only[go_sem,Nat.reduceEqDiff,Vc,Vi,bL,aq]) rfl)
 have h3:=h2.know (d:=15) (u:= .x v15) (by decide) (fun _ _=>by rw[<-hv15];exact .x _);rw[dP] at h3;obtain⟨ao,ln,cp,hsh⟩:∃ao ln cp,v15= .slice ao ln cp:=by obtain⟨m5,r5⟩:=h2.read 15 (u:= .sl false 3 (C.map aa) none) (by simp only[go_sem,Nat.reduceEqDiff,Vc,Vi,bL,aq]) rfl;rw[<-hv15] at r5;exact uF r5
 clear h1 h2 hv15;subst hsh
 --the map
 rw[wpOpsIn_cons];refine aT rfl (fun c e=>by cases e) rfl rfl (Fq rfl) ?_;have h4:=(lf hE h3 (ob:= .map #[] 0)).putX (d:=16) (by decide) rfl (.map (some w1.heap.size));have hl1:=ae (World.heap_new w1 (.map #[] 0));generalize hgP:w1.heap.size=gP at h4 hl1;generalize w1.alloc _=w2 at h4 hl1;clear h3;refine rc hE 3 1 [(0,.sl nl sz (l.map bK) none),(3,.fm (ksI (aj l)) (vsI (aj l))),(17,.agg [.x (.slice ao ln cp),.x (.map (some gP)),.sl true 0 [] none,.sl true 0 [] none])] [] [4,5] (by decide) (by kernel_rfl) (by kernel_rfl) h4 (by simp +decide (maxDischargeDepth:=200) only[go_sem,aW,Nat.reduceBEq,St.put]<;>(repeat' first|rfl|constructor)) ?_;clear h4 a;intro a w3 h4;have hl3:gP<w3.heap.size:=ae (h4.at (ai _ _ _));obtain⟨m17,r17⟩:=h4.read 17 (u:= .agg [.x (.slice ao ln cp),.x (.map (some gP)),.sl true 0 [] none,.sl true 0 [] none]) (by simp only[go_sem,Nat.reduceEqDiff,Vc,Vi,bL,aq]) rfl;have e17:a.eval (.tmp 17)= .agg #[(.slice ao ln cp),.map (some gP),.slice none 0 0,.slice none 0 0]:=by
  obtain⟨cs,hcs,hr⟩:=Rd.agg_iff.1 r17;show a.tmps.getD 17 Go.undef=_;rw[hcs];congr 1;obtain⟨L⟩:=cs
  match L,hr with
  |[c1,c2,c3,c4],⟨q1,q2,q3,q4,_⟩=>rw[Rd.x_iff.1 q1,Rd.x_iff.1 q2,FF q3,FF q4]
 rw[wpOpsIn_cons];refine aT rfl (fun c e=>by cases e) rfl rfl (Fp rfl) ?_;rw[e17];have h5:=(lf hE h4 (ob:=obD (.slice ao ln cp) gP (.slice none 0 0) (.slice none 0 0))).putX (d:=18) (by decide) rfl (.pointer (some ⟨w3.heap.size,0,none⟩));change HoldH _ _ _ _ _ _ (w3.alloc (.cells (Value.agg #[(.slice ao ln cp),.map (some gP),.slice none 0 0,.slice none 0 0]).cells 60)) at h5;have hHP:HP (.slice ao ln cp) C gP w3.heap.size 0 (aD (aD (fun _=>none) gP (some (.map #[] 0))) w3.heap.size (some (obD (.slice ao ln cp) gP (.slice none 0 0) (.slice none 0 0)))):=by refine⟨ai _ _ _,⟨#[],0,?_,fun _ _=>trivial,fun e he=>(by cases he),VV⟩,by omega⟩;rw[ah _ _ (by omega),ai]
 generalize hH3:aD (aD (fun _=>none) gP (some (.map #[] 0))) w3.heap.size (some (obD (.slice ao ln cp) gP (.slice none 0 0) (.slice none 0 0)))=H3 at h5 hHP;generalize w3.heap.size=bD at h5 hHP;generalize w3.alloc _=w4 at h5;clear h4 hl3 r17 e17 hH3 hl1;refine rc hE 5 1 [(0,.sl nl sz (l.map bK) none),(3,.fm (ksI (aj l)) (vsI (aj l))),(4,.x (.pointer (some ⟨bD,0,none⟩)))] [] [] (by decide) (by kernel_rfl) (by kernel_rfl) h5 (by simp +decide (maxDischargeDepth:=200) only[go_sem,aW,Nat.reduceBEq,St.put]<;>(repeat' first|rfl|constructor)) ?_;clear h5 a;intro a w5 h5
 --the places
 refine wpIn_seq (wpIn_seq (wpIn_region ?_));obtain⟨fs,fd,f1,f2,f3,f4⟩:=je 0 (by decide);have t4:a.eval (.tmp 4)= .pointer (some ⟨bD,0,none⟩):=h5.read_x 4 (by simp only[go_sem,Nat.reduceEqDiff,Vc,Vi,bL,aq]);have hbD:=h5.at hHP.1;refine cC (i:=0) (rest:=[1,2,3,4,5]) (d:=19) rfl (fun c e=>by cases e) rfl (by decide) rfl rfl h5 (bp rfl t4) ?_;intro a1 h6;refine cC (i:=1) (rest:=[2,3,4,5]) (d:=20) rfl (fun c e=>by cases e) rfl (by decide) rfl rfl h6 (du (p:=⟨bD,0,none⟩) rfl (h6.read_x 19 (v:= .pointer (some ⟨bD,0,none⟩)) (by simp only[go_sem,St.put,Nat.reduceEqDiff,Vc,Vi,bL,aq]))) ?_;intro a2 h7;refine cC (i:=2) (rest:=[3,4,5]) (d:=21) rfl (fun c e=>by cases e) rfl (by decide) rfl rfl h7 (bT rfl f1 f2 f4 (by decide) (h7.read_x 20 (v:= .pointer (some ⟨bD,0,none⟩)) (by simp only[go_sem,St.put,Nat.reduceEqDiff,Vc,Vi,bL,aq])) (by rw[f3])) ?_;intro a3 h8;refine cC (i:=3) (rest:=[4,5]) (d:=22) rfl (fun c e=>by cases e) rfl (by decide) rfl rfl h8 (cd (v:= .slice ao ln cp) rfl (by kernel_rfl) (h8.read_x 21 (v:= .pointer (some ⟨bD,0,none⟩)) (by simp only[go_sem,St.put,Nat.reduceEqDiff,Vc,Vi,bL,aq])) ((Box.cell hbD _).trans rfl)) ?_;intro a4 h9;have h10:=h9.know (d:=22) (u:= .sl false 3 (C.map aa) none) (by decide) (fun m hk=>by rw[show a4.tmps.getD 22 Go.undef=(.slice ao ln cp) from h9.read_x 22 (v:=(.slice ao ln cp)) (by simp only[go_sem,St.put,Nat.reduceEqDiff,Vc,Vi,bL,aq])];exact hk)
 rw[dc] at h10;clear h5 h6 h7 h8 h9 t4 hbD a a1 a2 a3;refine rc hE 4 2 [(0,.sl nl sz (l.map bK) none),(3,.fm (ksI (aj l)) (vsI (aj l))),(4,.x (.pointer (some ⟨bD,0,none⟩))),(22,.sl false 3 (C.map aa) none),(23,.x (.int .i64 (C.length:Int))),(24,.x (.int .i64 ((0:Nat):Int)))] [] [] (by decide) (by kernel_rfl) (by kernel_rfl) h10 (by simp +decide (maxDischargeDepth:=200) only[go_sem,aW,Nat.reduceBEq,St.put,eq,VO]<;>(repeat' first|rfl|constructor)) ?_;clear h10 a4;intro a w6 h6;refine wpIn_block ?_;refine ce (X:={i:Nat//i<=C.length}) (fun i a' w'=>∃H,HP (.slice ao ln cp) C gP bD i.1 H∧HoldH aW 118 ⟨Kno.rd (.slice ao ln cp) (.sl false 3 (C.map aa) none),fun _=>true,#[],m,w⟩ H (aq [(0,.sl nl sz (l.map bK) none),(3,.fm (ksI (aj l)) (vsI (aj l))),(4,.x (.pointer (some ⟨bD,0,none⟩))),(22,.sl false 3 (C.map aa) none),(23,.x (.int .i64 (C.length:Int))),(24,.x (.int .i64 ((i.1:Nat):Int)))] []) a' w') (fun i=>C.length-i.1) ⟨0,VJ _⟩ ⟨_,hHP,h6⟩ ?_;clear h6 a w6 hHP w5;rintro⟨i,hi0⟩ a w6 ⟨H,hH,h1⟩;simp only at hi0 hH h1⊢;by_cases hi:i<C.length
 . have c1:decide ((i:Int)<(C.length:Int))=true:=iO (by omega);have c1':(i:Int)<(C.length:Int):=by omega
   have c2:(0:Int)<=(i:Int):=by omega
   have c4:=aF (i:=i) (by omega);have q1:C[i]?=some C[i]:=io hi;have q2:(C.map aa)[i]?=some (aa C[i]):=by rw[U5,q1];rfl
   generalize C[i]=c at q1 q2;simp only[aa] at q2;refine wpIn_seq (fY hE hm [(0,.sl nl sz (l.map bK) none),(3,.fm (ksI (aj l)) (vsI (aj l))),(4,.x (.pointer (some ⟨bD,0,none⟩))),(22,.sl false 3 (C.map aa) none),(23,.x (.int .i64 (C.length:Int))),(24,.x (.int .i64 (i:Int))),(25,.x (.bool true))] [] (by kernel_rfl) (by kernel_rfl) h1 (by simp +decide (maxDischargeDepth:=200) only[go_sem,aW,Nat.reduceBEq,c1]<;>(repeat' first|rfl|constructor)) ?_);clear h1 a w6;intro a w6 h1;refine wpIn_seq (fY hE hm [(0,.sl nl sz (l.map bK) none),(3,.fm (ksI (aj l)) (vsI (aj l))),(4,.x (.pointer (some ⟨bD,0,none⟩))),(22,.sl false 3 (C.map aa) none),(23,.x (.int .i64 (C.length:Int))),(24,.x (.int .i64 (i:Int)))] [] (by kernel_rfl) (by kernel_rfl) h1 (by simp +decide (maxDischargeDepth:=200) only[go_sem,aW,Nat.reduceBEq]<;>(repeat' first|rfl|constructor)) ?_);clear h1 a w6;intro a w6 h1;refine wpIn_seq (wpIn_block (wpIn_seq (fY hE hm [(0,.sl nl sz (l.map bK) none),(3,.fm (ksI (aj l)) (vsI (aj l))),(4,.x (.pointer (some ⟨bD,0,none⟩))),(22,.sl false 3 (C.map aa) none),(23,.x (.int .i64 (C.length:Int))),(24,.x (.int .i64 (i:Int))),(5,.x (.int .i64 (i:Int))),(6,.ptr 6 0)] [(6,[.x (.string c.1),.x (.int .i64 c.2.1),.x (.int .i64 c.2.2)])] (by kernel_rfl) (by kernel_rfl) h1 (by simp +decide (maxDischargeDepth:=200) only[go_sem,aW,Nat.reduceBEq,eq,c1',c2,q2,U2]<;>(repeat' first|rfl|constructor)) ?_)));clear h1 a w6;intro a w6 h1;refine uE hn q1 h1 hH ?_;intro a7 w7 H' hH' h7;refine fY hE hm [(0,.sl nl sz (l.map bK) none),(3,.fm (ksI (aj l)) (vsI (aj l))),(4,.x (.pointer (some ⟨bD,0,none⟩))),(22,.sl false 3 (C.map aa) none),(23,.x (.int .i64 (C.length:Int))),(24,.x (.int .i64 ((i+1:Nat):Int)))] [] (by kernel_rfl) (by kernel_rfl) h7 (by simp +decide (maxDischargeDepth:=200) only[go_sem,aW,Nat.reduceBEq,c4]<;>(repeat' first|rfl|constructor)) ?_;intro a8 w8 h8;exact⟨⟨i+1,hi⟩,⟨H',hH',h8⟩,by simp only;omega⟩
 . have c1:decide ((i:Int)<(C.length:Int))=false:=tl (by omega);have e:i=C.length:=by omega
   subst e;refine wpIn_seq (fY hE hm [(0,.sl nl sz (l.map bK) none),(3,.fm (ksI (aj l)) (vsI (aj l))),(4,.x (.pointer (some ⟨bD,0,none⟩))),(25,.x (.bool false))] [] (by kernel_rfl) (by kernel_rfl) h1 (by simp +decide (maxDischargeDepth:=200) only[go_sem,aW,Nat.reduceBEq,c1]<;>(repeat' first|rfl|constructor)) ?_);clear h1 a w6;intro a w6 h1;refine wpIn_seq (Iv hE hm 0 [(0,.sl nl sz (l.map bK) none),(3,.fm (ksI (aj l)) (vsI (aj l))),(4,.x (.pointer (some ⟨bD,0,none⟩)))] [] (by kernel_rfl) (by kernel_rfl) h1 (by simp +decide (maxDischargeDepth:=200) only[go_sem,aW,Nat.reduceBEq]<;>(repeat' first|rfl|constructor)) ?_);clear h1 a w6;intro a w6 h1;exact hrest (.slice ao ln cp) gP bD H a w6 hH h1
noncomputable def rm:Code:=ld (ld xM)
noncomputable def zE:TypeInfo:=(Tryz.prog.info? 44).get (by kernel_rfl)
theorem uG:Tryz.prog.info? 44=some zE:=by kernel_rfl
theorem oy:zE.size=1:=by kernel_rfl
theorem oz:zE.zero=some (.slice none 0 0):=by kernel_rfl
theorem mr:zE.bytes=24:=by kernel_rfl
theorem uH (N:Nat):madeCells (Value.slice none 0 0).cells (N*1)=(List.replicate N (Value.slice none 0 0)).toArray:=by
 apply V3.1;apply Wb;intro i;show _=(List.replicate N (Value.slice none 0 0))[i]?;by_cases hi:i<N
 . have:=jJ (Value.slice none 0 0).cells N 1 rfl i 0 hi (by decide);rw[show i*1+0=i by omega] at this;rw[this,W6,Va hi];rfl
 . rw[Vx,Vx]
   . simp;omega
   . rw[Vk,size_madeCells];omega
structure HQ (ao:Option Addr) (ln cp:Nat) (C:List C3) (gP bD gR gS:Nat) (vR vS:List Value) (R S:List (List Int)) (H:Nat->Option Obj):Prop where
 d:H bD=some (obD (.slice ao ln cp) gP (.slice (some ⟨gR,0,none⟩) C.length C.length) (.slice (some ⟨gS,0,none⟩) C.length C.length))
 p:∃ents clock,H gP=some (.map ents clock)∧MapX ents clock (ksI (plI 0 C)) (vsI (plI 0 C))
 r:H gR=some (.cells vR.toArray 44 (0,0))
 s:H gS=some (.cells vS.toArray 44 (0,0))
 ne:[bD,gP,gR,gS].Nodup
 rows:Piles H (vR++vS) (R++S) [bD,gP,gR,gS]
 lR:R.length=C.length
 lS:S.length=C.length
 lvR:vR.length=C.length
 lvS:vS.length=C.length
variable {ao:Option Addr} {ln cp:Nat}
theorem QC {a:Act} (h400:C.length<=400) (hH:HP (.slice ao ln cp) C gP bD C.length H)
 (h1:HoldH aW 118 ⟨Kno.rd (.slice ao ln cp) (.sl false 3 (C.map aa) none),fun _=>true,#[],m,w⟩ H (aq [(0,.sl nl sz (l.map bK) none),(3,.fm (ksI (aj l)) (vsI (aj l))),(4,.x (.pointer (some ⟨bD,0,none⟩)))] []) a w1)
 (hrest:∀gR gS H' a' w',HQ ao ln cp C gP bD gR gS (List.replicate C.length (.slice none 0 0)) (List.replicate C.length (.slice none 0 0)) (List.replicate C.length []) (List.replicate C.length []) H'->HoldH aW 118 ⟨Kno.rd (.slice ao ln cp) (.sl false 3 (C.map aa) none),fun _=>true,#[],m,w⟩ H' (aq [(0,.sl nl sz (l.map bK) none),(3,.fm (ksI (aj l)) (vsI (aj l))),(4,.x (.pointer (some ⟨bD,0,none⟩)))] []) a' w'->rm.wpIn (be none) 0 aW.P Q a' w'):xM.wpIn (be none) 0 aW.P Q a w1:=by
 have hE:=ep;obtain⟨fs0,fd0,f1,f2,f3,f4⟩:=je 0 (by decide);obtain⟨fs2,fd2,g1,g2,g3,g4⟩:=je 2 (by decide);obtain⟨fs3,fd3,k1,k2,k3,k4⟩:=je 3 (by decide);have c0:(0:Int)<=(C.length:Int):=by omega
 have hu47:Tryz.prog.underlying 58=some (.slice 44):=by kernel_rfl
 obtain⟨hD,hP,hne⟩:=hH;rw[Ww] at hP;refine wpIn_seq (wpIn_region ?_);have t4:a.eval (.tmp 4)=(.pointer (some ⟨bD,0,none⟩)):=h1.read_x 4 (by simp only[go_sem,St.put,Nat.reduceEqDiff,Vc,Vi,bL,aq]);have hbD:=h1.at hD;refine cC (n:=118) (E:=aW) (i:=0) (rest:=[1,2,3,4,5,6,7,8,9]) (d:=36) rfl (fun c e=>by cases e) rfl (by decide) rfl rfl h1 (bp rfl t4) ?_;clear h1;intro a1 h1;refine cC (i:=1) (rest:=[2,3,4,5,6,7,8,9]) (d:=37) rfl (fun c e=>by cases e) rfl (by decide) rfl rfl h1 (bp rfl (h1.read_x 4 (v:=(.pointer (some ⟨bD,0,none⟩))) (by simp only[go_sem,St.put,Nat.reduceEqDiff,Vc,Vi,bL,aq]))) ?_;clear h1 t4;intro a2 h1;refine cC (i:=2) (rest:=[3,4,5,6,7,8,9]) (d:=38) rfl (fun c e=>by cases e) rfl (by decide) rfl rfl h1 (du (p:=⟨bD,0,none⟩) rfl (h1.read_x 37 (v:=(.pointer (some ⟨bD,0,none⟩))) (by simp only[go_sem,St.put,Nat.reduceEqDiff,Vc,Vi,bL,aq]))) ?_;clear h1;intro a3 h1;refine cC (i:=3) (rest:=[4,5,6,7,8,9]) (d:=39) rfl (fun c e=>by cases e) rfl (by decide) rfl rfl h1 (bT rfl f1 f2 f4 (by decide) (h1.read_x 38 (v:=(.pointer (some ⟨bD,0,none⟩))) (by simp only[go_sem,St.put,Nat.reduceEqDiff,Vc,Vi,bL,aq])) (by rw[f3])) ?_;clear h1;intro a4 h1;refine cC (i:=4) (rest:=[5,6,7,8,9]) (d:=40) rfl (fun c e=>by cases e) rfl (by decide) rfl rfl h1 (cd (v:= .slice ao ln cp) rfl (by kernel_rfl) (h1.read_x 39 (v:=(.pointer (some ⟨bD,0,none⟩))) (by simp only[go_sem,St.put,Nat.reduceEqDiff,Vc,Vi,bL,aq])) ((Box.cell hbD _).trans rfl)) ?_;clear h1;intro a5 h1;have h2:=h1.know (d:=40) (u:= .sl false 3 (C.map aa) none) (by decide) (fun m hk=>by rw[show a5.tmps.getD 40 Go.undef= .slice ao ln cp from h1.read_x 40 (by simp only[go_sem,St.put,Nat.reduceEqDiff,Vc,Vi,bL,aq])];exact hk)
 rw[dc] at h2;clear h1;refine rc hE 5 1 [(0,.sl nl sz (l.map bK) none),(3,.fm (ksI (aj l)) (vsI (aj l))),(4,.x (.pointer (some ⟨bD,0,none⟩))),(36,.x (.pointer (some ⟨bD,0,none⟩))),(41,.x (.int .i64 (C.length:Int)))] [] [6,7,8,9] (by decide) (by kernel_rfl) (by kernel_rfl) h2 (by simp +decide (maxDischargeDepth:=200) only[go_sem,aW,Nat.reduceBEq,St.put,eq]<;>(repeat' first|rfl|constructor)) ?_;clear h2 hbD a a1 a2 a3 a4 a5;intro a w2 h1;rw[wpOpsIn_cons];have t41:a.eval (.tmp 41)= .int .i64 (C.length:Int):=h1.read_x 41 (by simp only[go_sem,St.put,Nat.reduceEqDiff,Vc,Vi,bL,aq]);refine aT rfl (fun c e=>by cases e) rfl rfl (pP rfl hu47 uG oz t41 t41 c0 (by rw[mr];omega) (by omega)) ?_;rw[oy,U2,uH];have h2:=(lf hE h1 (ob:= .cells (List.replicate C.length (Value.slice none 0 0)).toArray 44 (0,0))).putX (d:=42) (by decide) rfl (.slice (some ⟨w2.heap.size,0,none⟩) C.length C.length);have hlt:∀k ob,H k=some ob->k≠w2.heap.size:=fun k ob hk e=>by have:=ae (h1.at hk);omega
 generalize w2.heap.size=gR at h2 hlt;generalize w2.alloc _=w3 at h2;generalize a.put (some 42) _=b at h2;clear h1 t41;refine cC (i:=7) (rest:=[8,9]) (d:=43) rfl (fun c e=>by cases e) rfl (by decide) rfl rfl h2 (du (p:=⟨bD,0,none⟩) rfl (h2.read_x 36 (v:=(.pointer (some ⟨bD,0,none⟩))) (by simp only[go_sem,St.put,Nat.reduceEqDiff,Vc,Vi,bL,aq]))) ?_;intro b1 h3;refine cC (i:=8) (rest:=[9]) (d:=44) rfl (fun c e=>by cases e) rfl (by decide) rfl rfl h3 (bT rfl g1 g2 g4 (by decide) (h3.read_x 43 (v:=(.pointer (some ⟨bD,0,none⟩))) (by simp only[go_sem,St.put,Nat.reduceEqDiff,Vc,Vi,bL,aq])) (by rw[g3,Vt])) ?_;intro b2 h4;rw[wpOpsIn_cons];have hbD4:=h4.at (show aD H gR _ bD=some _ from(ah _ _ (hlt bD _ hD)).trans hD);refine ja rfl (fun c e=>by cases e) rfl rfl (k9 rfl (by kernel_rfl) (h4.read_x 44 (v:= .pointer (some ⟨bD,2,none⟩)) (by simp only[go_sem,St.put,Nat.reduceEqDiff,Vc,Vi,bL,aq])) (h4.read_x 42 (v:= .slice (some ⟨gR,0,none⟩) C.length C.length) (by simp only[go_sem,St.put,Nat.reduceEqDiff,Vc,Vi,bL,aq])) rfl rfl hbD4 (by show 2<4;decide)) ?_;have h5:=ir hE h4 (x:=bD) (ob:=(obD (.slice ao ln cp) gP (.slice (some ⟨gR,0,none⟩) C.length C.length) (.slice none 0 0))) (w':=w3.setRow bD _) rfl rfl rfl (by simp) (.inl (by rw[ah _ _ (hlt bD _ hD),hD];exact fun h=>by cases h)) (fun k _ hk=>setRow_other w3 bD k _ hk) (setRow_heap w3 bD _ _ _ (0,0) hbD4);replace h5:=h5.le (st':=aq [(0,.sl nl sz (l.map bK) none),(3,.fm (ksI (aj l)) (vsI (aj l))),(4,.x (.pointer (some ⟨bD,0,none⟩)))] []) (aK (by simp +decide (maxDischargeDepth:=200) only[go_sem,aW,Nat.reduceBEq,St.put]<;>(repeat' first|rfl|constructor)) (by simp +decide (maxDischargeDepth:=200) only[go_sem,aW,Nat.reduceBEq,St.put]<;>(repeat' first|rfl|constructor)));clear h2 h3 h4 hbD4;change wpOpsIn _ _ _ _ _ _ _ (w3.setRow bD #[.slice ao ln cp,.map (some gP),(.slice (some ⟨gR,0,none⟩) C.length C.length),(.slice none 0 0)]);change HoldH _ _ _ _ _ _ (w3.setRow bD #[.slice ao ln cp,.map (some gP),(.slice (some ⟨gR,0,none⟩) C.length C.length),(.slice none 0 0)]) at h5;generalize w3.setRow bD #[.slice ao ln cp,.map (some gP),(.slice (some ⟨gR,0,none⟩) C.length C.length),(.slice none 0 0)]=w4 at h5⊢;clear a b b1;have hRD:gR≠bD:=fun e=>hlt bD _ hD e.symm
 obtain⟨ents,clock,hPm,hMX⟩:=hP;have hRP:gR≠gP:=fun e=>hlt gP _ hPm e.symm
 obtain⟨H2,hH2⟩:∃H2,H2=aD (aD H gR (some (.cells (List.replicate C.length (Value.slice none 0 0)).toArray 44 (0,0)))) bD (some (obD (.slice ao ln cp) gP (.slice (some ⟨gR,0,none⟩) C.length C.length) (.slice none 0 0))):=⟨_,rfl⟩;rw[<-hH2] at h5;have hD2:H2 bD=some (obD (.slice ao ln cp) gP (.slice (some ⟨gR,0,none⟩) C.length C.length) (.slice none 0 0)):=by rw[hH2,ai]
 have hP2:H2 gP=some (.map ents clock):=by rw[hH2,ah _ _ hne,ah _ _ (WL hRP)];exact hPm
 have hR2:H2 gR=some (.cells (List.replicate C.length (Value.slice none 0 0)).toArray 44 (0,0)):=by rw[hH2,ah _ _ hRD,ai]
 clear hlt hH2 hD hPm;have h1:=h5;clear h5;refine wpIn_seq (wpIn_region ?_);have t4:b2.eval (.tmp 4)=(.pointer (some ⟨bD,0,none⟩)):=h1.read_x 4 (by simp only[go_sem,St.put,Nat.reduceEqDiff,Vc,Vi,bL,aq]);have hbD:=h1.at hD2;refine cC (n:=118) (E:=aW) (i:=0) (rest:=[1,2,3,4,5,6,7,8,9]) (d:=45) rfl (fun c e=>by cases e) rfl (by decide) rfl rfl h1 (bp rfl t4) ?_;clear h1;intro a1 h1;refine cC (i:=1) (rest:=[2,3,4,5,6,7,8,9]) (d:=46) rfl (fun c e=>by cases e) rfl (by decide) rfl rfl h1 (bp rfl (h1.read_x 4 (v:=(.pointer (some ⟨bD,0,none⟩))) (by simp only[go_sem,St.put,Nat.reduceEqDiff,Vc,Vi,bL,aq]))) ?_;clear h1 t4;intro a2 h1;refine cC (i:=2) (rest:=[3,4,5,6,7,8,9]) (d:=47) rfl (fun c e=>by cases e) rfl (by decide) rfl rfl h1 (du (p:=⟨bD,0,none⟩) rfl (h1.read_x 46 (v:=(.pointer (some ⟨bD,0,none⟩))) (by simp only[go_sem,St.put,Nat.reduceEqDiff,Vc,Vi,bL,aq]))) ?_;clear h1;intro a3 h1;refine cC (i:=3) (rest:=[4,5,6,7,8,9]) (d:=48) rfl (fun c e=>by cases e) rfl (by decide) rfl rfl h1 (bT rfl f1 f2 f4 (by decide) (h1.read_x 47 (v:=(.pointer (some ⟨bD,0,none⟩))) (by simp only[go_sem,St.put,Nat.reduceEqDiff,Vc,Vi,bL,aq])) (by rw[f3])) ?_;clear h1;intro a4 h1;refine cC (i:=4) (rest:=[5,6,7,8,9]) (d:=49) rfl (fun c e=>by cases e) rfl (by decide) rfl rfl h1 (cd (v:= .slice ao ln cp) rfl (by kernel_rfl) (h1.read_x 48 (v:=(.pointer (some ⟨bD,0,none⟩))) (by simp only[go_sem,St.put,Nat.reduceEqDiff,Vc,Vi,bL,aq])) ((Box.cell hbD _).trans rfl)) ?_;clear h1;intro a5 h1;have h2:=h1.know (d:=49) (u:= .sl false 3 (C.map aa) none) (by decide) (fun m hk=>by rw[show a5.tmps.getD 49 Go.undef= .slice ao ln cp from h1.read_x 49 (by simp only[go_sem,St.put,Nat.reduceEqDiff,Vc,Vi,bL,aq])];exact hk)
 rw[dc] at h2;clear h1;refine rc hE 5 1 [(0,.sl nl sz (l.map bK) none),(3,.fm (ksI (aj l)) (vsI (aj l))),(4,.x (.pointer (some ⟨bD,0,none⟩))),(45,.x (.pointer (some ⟨bD,0,none⟩))),(50,.x (.int .i64 (C.length:Int)))] [] [6,7,8,9] (by decide) (by kernel_rfl) (by kernel_rfl) h2 (by simp +decide (maxDischargeDepth:=200) only[go_sem,aW,Nat.reduceBEq,St.put,eq]<;>(repeat' first|rfl|constructor)) ?_;clear h2 hbD a1 a2 a3 a4 a5;intro a w2 h1;rw[wpOpsIn_cons];have t41:a.eval (.tmp 50)= .int .i64 (C.length:Int):=h1.read_x 50 (by simp only[go_sem,St.put,Nat.reduceEqDiff,Vc,Vi,bL,aq]);refine aT rfl (fun c e=>by cases e) rfl rfl (pP rfl hu47 uG oz t41 t41 c0 (by rw[mr];omega) (by omega)) ?_;rw[oy,U2,uH];have h2:=(lf hE h1 (ob:= .cells (List.replicate C.length (Value.slice none 0 0)).toArray 44 (0,0))).putX (d:=51) (by decide) rfl (.slice (some ⟨w2.heap.size,0,none⟩) C.length C.length);have hlt:∀k ob,H2 k=some ob->k≠w2.heap.size:=fun k ob hk e=>by have:=ae (h1.at hk);omega
 generalize w2.heap.size=gS at h2 hlt;generalize w2.alloc _=w3 at h2;generalize a.put (some 51) _=b at h2;clear h1 t41;refine cC (i:=7) (rest:=[8,9]) (d:=52) rfl (fun c e=>by cases e) rfl (by decide) rfl rfl h2 (du (p:=⟨bD,0,none⟩) rfl (h2.read_x 45 (v:=(.pointer (some ⟨bD,0,none⟩))) (by simp only[go_sem,St.put,Nat.reduceEqDiff,Vc,Vi,bL,aq]))) ?_;intro b1 h3;refine cC (i:=8) (rest:=[9]) (d:=53) rfl (fun c e=>by cases e) rfl (by decide) rfl rfl h3 (bT rfl k1 k2 k4 (by decide) (h3.read_x 52 (v:=(.pointer (some ⟨bD,0,none⟩))) (by simp only[go_sem,St.put,Nat.reduceEqDiff,Vc,Vi,bL,aq])) (by rw[k3,Vt])) ?_;intro b2 h4;rw[wpOpsIn_cons];have hbD4:=h4.at (show aD H2 gS _ bD=some _ from(ah _ _ (hlt bD _ hD2)).trans hD2);refine ja rfl (fun c e=>by cases e) rfl rfl (k9 rfl (by kernel_rfl) (h4.read_x 53 (v:= .pointer (some ⟨bD,3,none⟩)) (by simp only[go_sem,St.put,Nat.reduceEqDiff,Vc,Vi,bL,aq])) (h4.read_x 51 (v:= .slice (some ⟨gS,0,none⟩) C.length C.length) (by simp only[go_sem,St.put,Nat.reduceEqDiff,Vc,Vi,bL,aq])) rfl rfl hbD4 (by show 3<4;decide)) ?_;have h5:=ir hE h4 (x:=bD) (ob:=(obD (.slice ao ln cp) gP (.slice (some ⟨gR,0,none⟩) C.length C.length) (.slice (some ⟨gS,0,none⟩) C.length C.length))) (w':=w3.setRow bD _) rfl rfl rfl (by simp) (.inl (by rw[ah _ _ (hlt bD _ hD2),hD2];exact fun h=>by cases h)) (fun k _ hk=>setRow_other w3 bD k _ hk) (setRow_heap w3 bD _ _ _ (0,0) hbD4);replace h5:=h5.le (st':=aq [(0,.sl nl sz (l.map bK) none),(3,.fm (ksI (aj l)) (vsI (aj l))),(4,.x (.pointer (some ⟨bD,0,none⟩)))] []) (aK (by simp +decide (maxDischargeDepth:=200) only[go_sem,aW,Nat.reduceBEq,St.put]<;>(repeat' first|rfl|constructor)) (by simp +decide (maxDischargeDepth:=200) only[go_sem,aW,Nat.reduceBEq,St.put]<;>(repeat' first|rfl|constructor)));clear h2 h3 h4 hbD4;change wpOpsIn _ _ _ _ _ _ _ (w3.setRow bD #[.slice ao ln cp,.map (some gP),(.slice (some ⟨gR,0,none⟩) C.length C.length),(.slice (some ⟨gS,0,none⟩) C.length C.length)]);change HoldH _ _ _ _ _ _ (w3.setRow bD #[.slice ao ln cp,.map (some gP),(.slice (some ⟨gR,0,none⟩) C.length C.length),(.slice (some ⟨gS,0,none⟩) C.length C.length)]) at h5;generalize w3.setRow bD #[.slice ao ln cp,.map (some gP),(.slice (some ⟨gR,0,none⟩) C.length C.length),(.slice (some ⟨gS,0,none⟩) C.length C.length)]=w4 at h5⊢;clear a b b1;have hSD:gS≠bD:=fun e=>hlt bD _ hD2 e.symm
 have hSP:gS≠gP:=fun e=>hlt gP _ hP2 e.symm
 have hSR:gS≠gR:=fun e=>hlt gR _ hR2 e.symm
 refine hrest gR gS _ _ _ ⟨ai _ _ _,⟨ents,clock,by rw[ah _ _ hne,ah _ _ (WL hSP)];exact hP2,hMX⟩,by rw[ah _ _ hRD,ah _ _ (WL hSR)];exact hR2,by rw[ah _ _ hSD,ai],?_,?_,by simp,by simp,by simp,by simp⟩ h5
 . simp only[VL,Vf,WK,X8,not_or,Xh,VV,Wx];exact⟨⟨WL hne,WL hRD,WL hSD⟩,⟨WL hRP,WL hSP⟩,WL hSR⟩
 . rw[List.replicate_append_replicate,List.replicate_append_replicate];have hv:∀(i:Nat) (v:Value),(List.replicate (C.length+C.length) (Value.slice none 0 0))[i]?=some v->v= .slice none 0 0:=fun i v hi=>by
    rw[W6] at hi;split at hi
    . cases hi;rfl
    . cases hi
   refine⟨by simp,fun i v es hi he=> .inl ⟨?_,hv i v hi⟩,fun i j v v' g _ hi _ hb=>?_,fun i v g hi hb=>?_⟩
   . rw[W6] at he;split at he
     . cases he;rfl
     . cases he
   . rw[hv i v hi] at hb;cases hb
   . rw[hv i v hi] at hb;cases hb
noncomputable def Jr:Code:=II (uD (ld (Jq rm)))
noncomputable def xN:Code:=ld (ld (ld (ld (uD (Jq (ld (ld Jr)))))))
noncomputable def IJ:TypeInfo:=(Tryz.prog.info? 3).get (by kernel_rfl)
theorem zF:Tryz.prog.info? 3=some IJ:=by kernel_rfl
theorem pV:IJ.size=1:=by kernel_rfl
theorem pW:IJ.zero=some (.int .i64 0):=by kernel_rfl
theorem oA:IJ.bytes=8:=by kernel_rfl
def LJ (H:Nat->Option Obj) (vi:Value) (es:List Int) (H':Nat->Option Obj) (v':Value):Prop:=∃g ob,H'=aD H g (some ob)∧blkOf v'=some g∧(blkOf vi=some g∨H g=none)∧RowI H' v' es
section
variable {ao:Option Addr} {ln cp:Nat} {C:List C3} {gP bD gR gS:Nat} {vR vS:List Value} {R S:List (List Int)} {H:Nat->Option Obj}
theorem HQ.on (h:HQ ao ln cp C gP bD gR gS vR vS R S H):∀x∈[bD,gP,gR,gS],H x≠none:=by
 intro x hx;obtain⟨ents,clock,hp,_⟩:=h.p;simp only[Vf,WK,X8] at hx;rcases hx with rfl|rfl|rfl|rfl
 . rw[h.d];exact fun h=>by cases h
 . rw[hp];exact fun h=>by cases h
 . rw[h.r];exact fun h=>by cases h
 . rw[h.s];exact fun h=>by cases h
theorem HQ.far (h:HQ ao ln cp C gP bD gR gS vR vS R S H) {j:Nat} {vi:Value} (hi:(vR++vS)[j]?=some vi) {g:Nat} (hg:blkOf vi=some g∨H g=none):∀x∈[bD,gP,gR,gS],x≠g:=by
 intro x hx e;subst e;rcases hg with hg|hg
 . exact h.rows.out j vi x hi hg hx
 . exact h.on x hx hg
theorem HQ.setR (h:HQ ao ln cp C gP bD gR gS vR vS R S H) {i:Nat} {vi v':Value} {es:List Int} {H':Nat->Option Obj} (hi:vR[i]?=some vi) (hm:LJ H vi es H' v'):HQ ao ln cp C gP bD gR gS (vR.set i v') vS (R.set i es) S (aD H' gR (some (.cells (vR.set i v').toArray 44 (0,0)))):=by
 obtain⟨g,ob,rfl,hb,hg,hr⟩:=hm;have hil:=(Io.1 hi).1;have hi2:(vR++vS)[i]?=some vi:=by rw[Vg hil];exact hi
 have hf:=h.far hi2 hg;have hn:=h.ne;simp only[VL,Vf,WK,X8,not_or,Xh,VV,Wx] at hn;obtain⟨⟨n1,n2,n3⟩,⟨n4,n5⟩,n6⟩:=hn;obtain⟨ents,clock,hp,hx⟩:=h.p;have hR:=h.lR;have hvR:=h.lvR;refine⟨?_,⟨ents,clock,?_,hx⟩,ai _ _ _,?_,h.ne,?_,by rw[WH];exact h.lR,h.lS,by rw[WH];exact h.lvR,h.lvS⟩
 . rw[ah _ _ n2,ah _ _ (hf bD (by simp))];exact h.d
 . rw[ah _ _ n4,ah _ _ (hf gP (by simp))];exact hp
 . rw[ah _ _ (WL n6),ah _ _ (hf gS (by simp))];exact h.s
 . have:=(h.rows.set hi2 h.on hb hg hr).other (x:=gR) (o:=some (.cells (vR.set i v').toArray 44 (0,0))) (by simp);rw[List.set_append_left _ _ hil,List.set_append_left _ _ (by omega)] at this;exact this
theorem HQ.setS (h:HQ ao ln cp C gP bD gR gS vR vS R S H) {i:Nat} {vi v':Value} {es:List Int} {H':Nat->Option Obj} (hi:vS[i]?=some vi) (hm:LJ H vi es H' v'):HQ ao ln cp C gP bD gR gS vR (vS.set i v') R (S.set i es) (aD H' gS (some (.cells (vS.set i v').toArray 44 (0,0)))):=by
 obtain⟨g,ob,rfl,hb,hg,hr⟩:=hm;have hil:=(Io.1 hi).1;have hi2:(vR++vS)[vR.length+i]?=some vi:=by rw[Vs (by omega),W5];exact hi
 have hf:=h.far hi2 hg;have hn:=h.ne;simp only[VL,Vf,WK,X8,not_or,Xh,VV,Wx] at hn;obtain⟨⟨n1,n2,n3⟩,⟨n4,n5⟩,n6⟩:=hn;obtain⟨ents,clock,hp,hx⟩:=h.p;have hR:=h.lR;have hvR:=h.lvR;refine⟨?_,⟨ents,clock,?_,hx⟩,?_,ai _ _ _,h.ne,?_,h.lR,by rw[WH];exact h.lS,h.lvR,by rw[WH];exact h.lvS⟩
 . rw[ah _ _ n3,ah _ _ (hf bD (by simp))];exact h.d
 . rw[ah _ _ n5,ah _ _ (hf gP (by simp))];exact hp
 . rw[ah _ _ n6,ah _ _ (hf gR (by simp))];exact h.r
 . have:=(h.rows.set hi2 h.on hb hg hr).other (x:=gS) (o:=some (.cells (vS.set i v').toArray 44 (0,0))) (by simp);rw[List.set_append_right _ _ (by omega),List.set_append_right _ _ (by omega),W5,show vR.length+i-R.length=i by omega] at this;exact this
end
theorem FG {val:Nat->V} (h:∀o∈ops,∀k,o.dst=some k->st.t k= .undef):Le st (kn st val ops L):=by
 refine⟨fun k=>?_,fun s cs h=>⟨cs,h,fJ cs⟩⟩;show(st.t k).le (if cN ops L k=true then val k else st.t k);by_cases hd:cN ops L k=true
 . unfold cN at hd;obtain⟨i,_,hi⟩:=Wp.1 hd;rw[U6] at hi;split at hi
   . rename_i o ho;rw[h o (Vd ho) k (eq_of_beq hi.2)];exact .inl rfl
   . cases hi.2
 . rw[Vh hd];exact .inr (.inl rfl)
noncomputable def uI:Code:=Jq (ld (uD (Jq (ld (ld (II (uD xN)))))))
noncomputable def uJ:List Oper:=Lt uI
def gQ (N bD gR i x:Nat) (vi:Value) (k:Nat):V:=
 if k=85∨k=90 then .x (.pointer (some ⟨bD,2,none⟩)) else if k=86∨k=91 then .x (.slice (some ⟨gR,0,none⟩) N N) else if k=87∨k=92 then .x (.int .i64 (i:Int)) else if k=93∨k=98 then .x (.pointer (some ⟨gR,i*1,none⟩)) else if k=94 then .x vi else if k=95 then .x (.int .i64 (x:Int)) else if k=96 then .sl false 1 [.x (.int .i64 (x:Int))] none else .x (.pointer (some ⟨bD,0,none⟩))
def pX:Nat->List Nat
 |1=>[83]
 |2=>[84]
 |3=>[85]
 |6=>[88]
 |7=>[89]
 |8=>[90]
 |10=>[91,92]
 |11=>[93]
 |13=>[95]
 |14=>[94,96]
 |15=>[86,87]
 |16=>[97,98]
 |_=>[]
variable {gR gS:Nat} {vR vS:List Value} {R S:List (List Int)} {vi:Value}
theorem QD {x:Nat} {es:List Int} (hH:HQ ao ln cp C gP bD gR gS vR vS R S H) (hi:vR[i]?=some vi) (hes:R[i]?=some es) (hlen:es.length+1<=100000000)
 (s4:st.t 4= .x (.pointer (some ⟨bD,0,none⟩))) (s7:st.t 7= .x (.int .i64 (i:Int))) (s11:st.t 11= .x (.int .i64 (x:Int))) (hst:∀k,83<=k->k<=98->st.t k= .undef) (h1:HoldH aW 118 ⟨Kno.rd (.slice ao ln cp) (.sl false 3 (C.map aa) none),fun _=>true,#[],m,w⟩ H st a w1)
 (hQ:∀a' w' H' vN,HQ ao ln cp C gP bD gR gS vN vS (R.set i (es++[(x:Int)])) S H'->HoldH aW 118 ⟨Kno.rd (.slice ao ln cp) (.sl false 3 (C.map aa) none),fun _=>true,#[],m,w⟩ H' st a' w'->Q .normal a' w'):uI.wpIn (be none) 0 aW.P Q a w1:=by
 have hE:=ep;obtain⟨fs,fd,f1,f2,f3,f4⟩:=je 2 (by decide);have hu50:Tryz.prog.underlying 44=some (.slice 3):=by kernel_rfl
 have hu47:Tryz.prog.underlying 58=some (.slice 44):=by kernel_rfl
 have hil:=(Io.1 hi).1;have hiN:i<C.length:=by have:=hH.lvR;omega
 have hi2:(vR++vS)[i]?=some vi:=by rw[Vg hil];exact hi
 have hrow:RowI H vi es:=hH.rows.row i vi es hi2 (by rw[Vg (by have:=hH.lR;have:=hH.lvR;omega)];exact hes);refine xD hE ko (by kernel_rfl) pX (by kernel_rfl) (fun L H' val=>(∀k,k≠97->val k=gQ C.length bD gR i x vi k)∧if L.testBit 16=true then ∃v',HQ ao ln cp C gP bD gR gS (vR.set i v') vS (R.set i (es++[(x:Int)])) S H' else if L.testBit 14=true then ∃v',val 97= .x v'∧LJ H vi (es++[(x:Int)]) H' v' else H'=H) ?_ (gQ C.length bD gR i x vi) ⟨fun _ _=>rfl,rfl⟩ ?_ h1
 . intro L j o H2 val a2 w2 K hj hbj hdp hcl hIv hJ hneed hK;obtain⟨hval,hIL⟩:=hIv;have hjl:j<17:=(Io.1 hj).1;have nb:L.testBit 16=false:=re hcl rfl (by kernel_rfl) (by omega) hbj;rw[Vh (by rw[nb];exact fun h=>by cases h)] at hIL;have hx:∀k∈pX j,k≠97->∀v,gQ C.length bD gR i x vi k= .x v->a2.eval (.tmp k)=v:=fun k hk hne v hv=>hJ.read_x k ((hneed k hk).trans ((hval k hne).trans hv))
   have hkeep:j≠14->j≠16->(∀val':Nat->V,(∀k,k≠97->val' k=gQ C.length bD gR i x vi k)∧val' 97=val 97->((∀k,k≠97->val' k=gQ C.length bD gR i x vi k)∧if (L|||2^j).testBit 16=true then ∃v',HQ ao ln cp C gP bD gR gS (vR.set i v') vS (R.set i (es++[(x:Int)])) S H2 else if (L|||2^j).testBit 14=true then ∃v',val' 97= .x v'∧LJ H vi (es++[(x:Int)]) H2 v' else H2=H)):=fun h1 h2 val' hv=>by have e14:=fS L h1;have e16:=fS L h2;refine⟨hv.1,?_⟩;rw[Vh (by rw[e16,nb];exact fun h=>by cases h),e14,hv.2];exact hIL
   have hH2:∀y∈[bD,gP,gR,gS],H2 y=H y:=fun y hy=>by
    split at hIL
    . obtain⟨v',_,g,ob,rfl,_,hg,_⟩:=hIL;rw[ah _ _ (hH.far hi2 hg y hy)]
    . rw[hIL]
   have t4:a2.eval (.tmp 4)= .pointer (some ⟨bD,0,none⟩):=hJ.read_x 4 ((cy (by kernel_rfl)).trans s4);have t7:a2.eval (.tmp 7)= .int .i64 (i:Int):=hJ.read_x 7 ((cy (by kernel_rfl)).trans s7);have t11:a2.eval (.tmp 11)= .int .i64 (x:Int):=hJ.read_x 11 ((cy (by kernel_rfl)).trans s11);have hbD:=hJ.at ((hH2 bD (by simp)).trans hH.d);have hbX:=hJ.at ((hH2 gR (by simp)).trans hH.r);have fin:∀{d:Nat} {v:Value} {a':Act} {w':World},d≠97->gQ C.length bD gR i x vi d= .x v->HoldH aW 118 ⟨Kno.rd (.slice ao ln cp) (.sl false 3 (C.map aa) none),fun _=>true,#[],m,w⟩ H2 ((kn st val uJ L).put (some d) (.x v)) a' w'->HoldH aW 118 ⟨Kno.rd (.slice ao ln cp) (.sl false 3 (C.map aa) none),fun _=>true,#[],m,w⟩ H2 ((kn st val uJ L).put (some d) (val d)) a' w':=fun {d v a' w'} hne hv h=>by rw[hval d hne,hv];exact h
   rcases j with _|_|_|_|_|_|_|_|_|_|_|_|_|_|_|_|_|j
   . cases hj;exact aT rfl (fun c e=>by cases e) rfl rfl (bp rfl t4) (hK _ _ _ _ (fun _ _=>rfl) (hkeep (by decide) (by decide) _ ⟨hval,rfl⟩) (fin (by decide) rfl (hJ.putX (by decide) rfl _)))
   . cases hj;exact aT rfl (fun c e=>by cases e) rfl rfl (du (p:=⟨bD,0,none⟩) rfl (hx 83 (by decide) (by decide) _ rfl)) (hK _ _ _ _ (fun _ _=>rfl) (hkeep (by decide) (by decide) _ ⟨hval,rfl⟩) (fin (by decide) rfl (hJ.putX (by decide) rfl _)))
   . cases hj;exact aT rfl (fun c e=>by cases e) rfl rfl (bT rfl f1 f2 f4 (by decide) (hx 84 (by decide) (by decide) _ rfl) (by rw[f3,Vt])) (hK _ _ _ _ (fun _ _=>rfl) (hkeep (by decide) (by decide) _ ⟨hval,rfl⟩) (fin (by decide) rfl (hJ.putX (by decide) rfl _)))
   . cases hj;exact aT rfl (fun c e=>by cases e) rfl rfl (cd (v:= .slice (some ⟨gR,0,none⟩) C.length C.length) rfl (by kernel_rfl) (hx 85 (by decide) (by decide) _ rfl) ((Box.cell hbD _).trans rfl)) (hK _ _ _ _ (fun _ _=>rfl) (hkeep (by decide) (by decide) _ ⟨hval,rfl⟩) (fin (by decide) rfl (hJ.putX (by decide) rfl _)))
   . cases hj;exact aT rfl (fun c e=>by cases e) rfl rfl (bp rfl t7) (hK _ _ _ _ (fun _ _=>rfl) (hkeep (by decide) (by decide) _ ⟨hval,rfl⟩) (fin (by decide) rfl (hJ.putX (by decide) rfl _)))
   . cases hj;exact aT rfl (fun c e=>by cases e) rfl rfl (bp rfl t4) (hK _ _ _ _ (fun _ _=>rfl) (hkeep (by decide) (by decide) _ ⟨hval,rfl⟩) (fin (by decide) rfl (hJ.putX (by decide) rfl _)))
   . cases hj;exact aT rfl (fun c e=>by cases e) rfl rfl (du (p:=⟨bD,0,none⟩) rfl (hx 88 (by decide) (by decide) _ rfl)) (hK _ _ _ _ (fun _ _=>rfl) (hkeep (by decide) (by decide) _ ⟨hval,rfl⟩) (fin (by decide) rfl (hJ.putX (by decide) rfl _)))
   . cases hj;exact aT rfl (fun c e=>by cases e) rfl rfl (bT rfl f1 f2 f4 (by decide) (hx 89 (by decide) (by decide) _ rfl) (by rw[f3,Vt])) (hK _ _ _ _ (fun _ _=>rfl) (hkeep (by decide) (by decide) _ ⟨hval,rfl⟩) (fin (by decide) rfl (hJ.putX (by decide) rfl _)))
   . cases hj;exact aT rfl (fun c e=>by cases e) rfl rfl (cd (v:= .slice (some ⟨gR,0,none⟩) C.length C.length) rfl (by kernel_rfl) (hx 90 (by decide) (by decide) _ rfl) ((Box.cell hbD _).trans rfl)) (hK _ _ _ _ (fun _ _=>rfl) (hkeep (by decide) (by decide) _ ⟨hval,rfl⟩) (fin (by decide) rfl (hJ.putX (by decide) rfl _)))
   . cases hj;exact aT rfl (fun c e=>by cases e) rfl rfl (bp rfl t7) (hK _ _ _ _ (fun _ _=>rfl) (hkeep (by decide) (by decide) _ ⟨hval,rfl⟩) (fin (by decide) rfl (hJ.putX (by decide) rfl _)))
   . cases hj;exact aT rfl (fun c e=>by cases e) rfl rfl (km (sz:=1) (el:=44) rfl hu47 (by kernel_rfl) (hx 91 (by decide) (by decide) _ rfl) (hx 92 (by decide) (by decide) _ rfl) (WS i) (by omega)) (hK _ _ _ _ (fun _ _=>rfl) (hkeep (by decide) (by decide) _ ⟨hval,rfl⟩) (fin (by decide) rfl (hJ.putX (by decide) rfl _)))
   . cases hj;exact aT rfl (fun c e=>by cases e) rfl rfl (cd (v:=vi) rfl (by kernel_rfl) (hx 93 (by decide) (by decide) _ rfl) ((Box.cell hbX _).trans (by rw[Vq];simpa using hi))) (hK _ _ _ _ (fun _ _=>rfl) (hkeep (by decide) (by decide) _ ⟨hval,rfl⟩) (fin (by decide) rfl (hJ.putX (by decide) rfl _)))
   . cases hj;exact aT rfl (fun c e=>by cases e) rfl rfl (bp rfl t11) (hK _ _ _ _ (fun _ _=>rfl) (hkeep (by decide) (by decide) _ ⟨hval,rfl⟩) (fin (by decide) rfl (hJ.putX (by decide) rfl _)))
   . cases hj
     refine zt hE rfl (by kernel_rfl) (by kernel_rfl) hJ (st1:=(kn st val _ L).put (some 96) (.sl false 1 [.x (.int .i64 (x:Int))] none)) ?_ (fun a' w' h'=>hK _ _ _ _ (fun _ _=>rfl) (hkeep (by decide) (by decide) _ ⟨hval,rfl⟩) (by show HoldH _ _ _ _ ((kn st val _ L).put (some 96) (val 96)) _ _;rw[hval 96 (by decide)];exact h'))
     have h95:=(hneed 95 (by decide)).trans (hval 95 (by decide));generalize hS:kn _ _ _ _=ST;have h7:ST.t 95= .x (.int .i64 (x:Int)):=by rw[<-hS];exact h95
     refine rk ?_;simp +decide only[go_sem,aW,Nat.reduceBEq,h7]
   . cases hj;have b14:L.testBit 14=false:=hbj;have b14':=jb L 14;have b16':(L|||2^14).testBit 16=false:=by rw[fS L (by decide),nb]
     rw[Vh (by rw[b14];exact fun h=>by cases h)] at hIL;subst hIL;have e94:a2.eval (.tmp 94)=vi:=hx 94 (by decide) (by decide) _ rfl;obtain⟨m96,r96⟩:=hJ.read 96 (u:= .sl false 1 [.x (.int .i64 (x:Int))] none) ((hneed 96 (by decide)).trans (hval 96 (by decide))) rfl;obtain⟨v',w',g,ob,hrun,q1,q2,q3,q4,q5,q6,q7,q8,q9⟩:=uu (P:=Tryz.prog) (t:=44) (ty:=44) (el:=3) hu50 zF pV pW rfl oA hrow (fun g ob h=>hJ.at h) r96 hlen;have h2:=(ir hE hJ q1 q2 q3 q4 (q8.imp (fun e=>hrow.blk e) id) q7 q6).putX (d:=97) (by decide) rfl v';refine aT rfl (fun c e=>by cases e) rfl rfl (v:=v') (w':=w') ?_ (hK _ _ (aD H2 g (some ob)) (fun k=>if k=97 then .x v' else val k) (fun k hk=>Vh (fun e=>hk (by rw[e]))) ⟨fun k hk=>by rw[Vh hk];exact hval k hk,?_⟩ h2)
     . have e96:a2.eval (.tmp 96)=a2.tmps.getD 96 Go.undef:=rfl;rw[<-e96] at hrun;simp only[execOp,resolve,Sem.run_bind,Sem.run_pure,Result.andThen_ok,invoke,builtin];simp[e94,hrun,show aW.P=Tryz.prog from rfl]
     . rw[Vh (by rw[b16'];exact fun h=>by cases h),Va b14'];refine⟨v',Va rfl,g,ob,rfl,q5,q8.imp id (fun hge=>?_),q9 _ (ai _ _ _)⟩;cases e:H2 g with
       |none=>rfl
       |some ob'=>exact absurd (ae (hJ.at e)) (VI.2 hge)
   . cases hj;exact aT rfl (fun c e=>by cases e) rfl rfl (km (sz:=1) (el:=44) rfl hu47 (by kernel_rfl) (hx 86 (by decide) (by decide) _ rfl) (hx 87 (by decide) (by decide) _ rfl) (WS i) (by omega)) (hK _ _ _ _ (fun _ _=>rfl) (hkeep (by decide) (by decide) _ ⟨hval,rfl⟩) (fin (by decide) rfl (hJ.putX (by decide) rfl _)))
   . cases hj;have b14:L.testBit 14=true:=hdp 14 (WA.1 (by kernel_rfl));have b16':=jb L 16;rw[Va b14] at hIL;obtain⟨v',hv',hMid⟩:=hIL;have e97:a2.eval (.tmp 97)=v':=hJ.read_x 97 ((hneed 97 (by decide)).trans hv');obtain⟨hv1,hv2⟩:v'.cells= #[v']∧v'.oneCell'=true:=by obtain⟨_,_,_,_,_,hr⟩:=hMid;rcases hr with⟨_,rfl⟩|⟨_,_,_,_,_,rfl,_⟩<;>exact⟨rfl,rfl⟩
     have hset:vR.toArray.set! (i*1) v'=(vR.set i v').toArray:=by simp[Vq]
     have h2:=ir hE hJ (x:=gR) (ob:= .cells (vR.set i v').toArray 44 (0,0)) (w':=w2.setRow gR (vR.toArray.set! (i*1) v')) rfl rfl rfl (by simp) (.inl (by rw[hH2 gR (by simp),hH.r];exact fun h=>by cases h)) (fun k _ hk=>setRow_other w2 gR k _ hk) (by rw[hset];exact setRow_heap w2 gR _ _ _ (0,0) hbX);exact ja rfl (fun c e=>by cases e) rfl rfl (k9 rfl (by kernel_rfl) (hx 98 (by decide) (by decide) _ rfl) e97 hv1 hv2 hbX (by simpa using hil)) (hK _ _ _ _ (fun _ _=>rfl) ⟨hval,by rw[Va b16'];exact⟨v',hH.setR hi hMid⟩⟩ h2)
   . simp at hj
 . rintro a2 w2 H2 val ⟨_,hI⟩ hJ;rw[Va (by kernel_rfl)] at hI;obtain⟨v',hI⟩:=hI;exact hQ a2 w2 H2 _ hI (hJ.le (FG (fun o ho k hk=>by simp only[Vf,WK,X8] at ho;rcases ho with rfl|rfl|rfl|rfl|rfl|rfl|rfl|rfl|rfl|rfl|rfl|rfl|rfl|rfl|rfl|rfl|rfl<;>cases hk<;>exact hst _ (by decide) (by decide))))
noncomputable def uK:Code:=ld (ld (uD (Jq (ld (ld (II (uD xN)))))))
noncomputable def uM:List Oper:=Lt uK
def gT (N bD gS i x:Nat) (vi:Value) (k:Nat):V:=
 if k=101∨k=106 then .x (.pointer (some ⟨bD,3,none⟩)) else if k=102∨k=107 then .x (.slice (some ⟨gS,0,none⟩) N N) else if k=103∨k=108 then .x (.int .i64 (i:Int)) else if k=109∨k=114 then .x (.pointer (some ⟨gS,i*1,none⟩)) else if k=110 then .x vi else if k=111 then .x (.int .i64 (x:Int)) else if k=112 then .sl false 1 [.x (.int .i64 (x:Int))] none else .x (.pointer (some ⟨bD,0,none⟩))
def pY:Nat->List Nat
 |1=>[99]
 |2=>[100]
 |3=>[101]
 |6=>[104]
 |7=>[105]
 |8=>[106]
 |10=>[107,108]
 |11=>[109]
 |13=>[111]
 |14=>[110,112]
 |15=>[102,103]
 |16=>[113,114]
 |_=>[]
theorem QE {x:Nat} {es:List Int} (hH:HQ ao ln cp C gP bD gR gS vR vS R S H) (hi:vS[i]?=some vi) (hes:S[i]?=some es) (hlen:es.length+1<=100000000)
 (s4:st.t 4= .x (.pointer (some ⟨bD,0,none⟩))) (s7:st.t 11= .x (.int .i64 (i:Int))) (s11:st.t 7= .x (.int .i64 (x:Int))) (hst:∀k,99<=k->k<=114->st.t k= .undef) (h1:HoldH aW 118 ⟨Kno.rd (.slice ao ln cp) (.sl false 3 (C.map aa) none),fun _=>true,#[],m,w⟩ H st a w1)
 (hQ:∀a' w' H' vN,HQ ao ln cp C gP bD gR gS vR vN R (S.set i (es++[(x:Int)])) H'->HoldH aW 118 ⟨Kno.rd (.slice ao ln cp) (.sl false 3 (C.map aa) none),fun _=>true,#[],m,w⟩ H' st a' w'->Q .normal a' w'):uK.wpIn (be none) 0 aW.P Q a w1:=by
 have hE:=ep;obtain⟨fs,fd,f1,f2,f3,f4⟩:=je 3 (by decide);have hu50:Tryz.prog.underlying 44=some (.slice 3):=by kernel_rfl
 have hu47:Tryz.prog.underlying 58=some (.slice 44):=by kernel_rfl
 have hil:=(Io.1 hi).1;have hiN:i<C.length:=by have:=hH.lvS;omega
 have hi2:(vR++vS)[(vR.length+i)]?=some vi:=by rw[Vs (by omega),W5];exact hi
 have hrow:RowI H vi es:=hH.rows.row (vR.length+i) vi es hi2 (by rw[Vs (by have:=hH.lR;have:=hH.lvR;omega),show vR.length+i-R.length=i by have:=hH.lR;have:=hH.lvR;omega];exact hes);refine xD hE ko (by kernel_rfl) pY (by kernel_rfl) (fun L H' val=>(∀k,k≠113->val k=gT C.length bD gS i x vi k)∧if L.testBit 16=true then ∃v',HQ ao ln cp C gP bD gR gS vR (vS.set i v') R (S.set i (es++[(x:Int)])) H' else if L.testBit 14=true then ∃v',val 113= .x v'∧LJ H vi (es++[(x:Int)]) H' v' else H'=H) ?_ (gT C.length bD gS i x vi) ⟨fun _ _=>rfl,rfl⟩ ?_ h1
 . intro L j o H2 val a2 w2 K hj hbj hdp hcl hIv hJ hneed hK;obtain⟨hval,hIL⟩:=hIv;have hjl:j<17:=(Io.1 hj).1;have nb:L.testBit 16=false:=re hcl rfl (by kernel_rfl) (by omega) hbj;rw[Vh (by rw[nb];exact fun h=>by cases h)] at hIL;have hx:∀k∈pY j,k≠113->∀v,gT C.length bD gS i x vi k= .x v->a2.eval (.tmp k)=v:=fun k hk hne v hv=>hJ.read_x k ((hneed k hk).trans ((hval k hne).trans hv))
   have hkeep:j≠14->j≠16->(∀val':Nat->V,(∀k,k≠113->val' k=gT C.length bD gS i x vi k)∧val' 113=val 113->((∀k,k≠113->val' k=gT C.length bD gS i x vi k)∧if (L|||2^j).testBit 16=true then ∃v',HQ ao ln cp C gP bD gR gS vR (vS.set i v') R (S.set i (es++[(x:Int)])) H2 else if (L|||2^j).testBit 14=true then ∃v',val' 113= .x v'∧LJ H vi (es++[(x:Int)]) H2 v' else H2=H)):=fun h1 h2 val' hv=>by have e14:=fS L h1;have e16:=fS L h2;refine⟨hv.1,?_⟩;rw[Vh (by rw[e16,nb];exact fun h=>by cases h),e14,hv.2];exact hIL
   have hH2:∀y∈[bD,gP,gR,gS],H2 y=H y:=fun y hy=>by
    split at hIL
    . obtain⟨v',_,g,ob,rfl,_,hg,_⟩:=hIL;rw[ah _ _ (hH.far hi2 hg y hy)]
    . rw[hIL]
   have t4:a2.eval (.tmp 4)= .pointer (some ⟨bD,0,none⟩):=hJ.read_x 4 ((cy (by kernel_rfl)).trans s4);have t7:a2.eval (.tmp 11)= .int .i64 (i:Int):=hJ.read_x 11 ((cy (by kernel_rfl)).trans s7);have t11:a2.eval (.tmp 7)= .int .i64 (x:Int):=hJ.read_x 7 ((cy (by kernel_rfl)).trans s11);have hbD:=hJ.at ((hH2 bD (by simp)).trans hH.d);have hbX:=hJ.at ((hH2 gS (by simp)).trans hH.s);have fin:∀{d:Nat} {v:Value} {a':Act} {w':World},d≠113->gT C.length bD gS i x vi d= .x v->HoldH aW 118 ⟨Kno.rd (.slice ao ln cp) (.sl false 3 (C.map aa) none),fun _=>true,#[],m,w⟩ H2 ((kn st val uM L).put (some d) (.x v)) a' w'->HoldH aW 118 ⟨Kno.rd (.slice ao ln cp) (.sl false 3 (C.map aa) none),fun _=>true,#[],m,w⟩ H2 ((kn st val uM L).put (some d) (val d)) a' w':=fun {d v a' w'} hne hv h=>by rw[hval d hne,hv];exact h
   rcases j with _|_|_|_|_|_|_|_|_|_|_|_|_|_|_|_|_|j
   . cases hj;exact aT rfl (fun c e=>by cases e) rfl rfl (bp rfl t4) (hK _ _ _ _ (fun _ _=>rfl) (hkeep (by decide) (by decide) _ ⟨hval,rfl⟩) (fin (by decide) rfl (hJ.putX (by decide) rfl _)))
   . cases hj;exact aT rfl (fun c e=>by cases e) rfl rfl (du (p:=⟨bD,0,none⟩) rfl (hx 99 (by decide) (by decide) _ rfl)) (hK _ _ _ _ (fun _ _=>rfl) (hkeep (by decide) (by decide) _ ⟨hval,rfl⟩) (fin (by decide) rfl (hJ.putX (by decide) rfl _)))
   . cases hj;exact aT rfl (fun c e=>by cases e) rfl rfl (bT rfl f1 f2 f4 (by decide) (hx 100 (by decide) (by decide) _ rfl) (by rw[f3,Vt])) (hK _ _ _ _ (fun _ _=>rfl) (hkeep (by decide) (by decide) _ ⟨hval,rfl⟩) (fin (by decide) rfl (hJ.putX (by decide) rfl _)))
   . cases hj;exact aT rfl (fun c e=>by cases e) rfl rfl (cd (v:= .slice (some ⟨gS,0,none⟩) C.length C.length) rfl (by kernel_rfl) (hx 101 (by decide) (by decide) _ rfl) ((Box.cell hbD _).trans rfl)) (hK _ _ _ _ (fun _ _=>rfl) (hkeep (by decide) (by decide) _ ⟨hval,rfl⟩) (fin (by decide) rfl (hJ.putX (by decide) rfl _)))
   . cases hj;exact aT rfl (fun c e=>by cases e) rfl rfl (bp rfl t7) (hK _ _ _ _ (fun _ _=>rfl) (hkeep (by decide) (by decide) _ ⟨hval,rfl⟩) (fin (by decide) rfl (hJ.putX (by decide) rfl _)))
   . cases hj;exact aT rfl (fun c e=>by cases e) rfl rfl (bp rfl t4) (hK _ _ _ _ (fun _ _=>rfl) (hkeep (by decide) (by decide) _ ⟨hval,rfl⟩) (fin (by decide) rfl (hJ.putX (by decide) rfl _)))
   . cases hj;exact aT rfl (fun c e=>by cases e) rfl rfl (du (p:=⟨bD,0,none⟩) rfl (hx 104 (by decide) (by decide) _ rfl)) (hK _ _ _ _ (fun _ _=>rfl) (hkeep (by decide) (by decide) _ ⟨hval,rfl⟩) (fin (by decide) rfl (hJ.putX (by decide) rfl _)))
   . cases hj;exact aT rfl (fun c e=>by cases e) rfl rfl (bT rfl f1 f2 f4 (by decide) (hx 105 (by decide) (by decide) _ rfl) (by rw[f3,Vt])) (hK _ _ _ _ (fun _ _=>rfl) (hkeep (by decide) (by decide) _ ⟨hval,rfl⟩) (fin (by decide) rfl (hJ.putX (by decide) rfl _)))
   . cases hj;exact aT rfl (fun c e=>by cases e) rfl rfl (cd (v:= .slice (some ⟨gS,0,none⟩) C.length C.length) rfl (by kernel_rfl) (hx 106 (by decide) (by decide) _ rfl) ((Box.cell hbD _).trans rfl)) (hK _ _ _ _ (fun _ _=>rfl) (hkeep (by decide) (by decide) _ ⟨hval,rfl⟩) (fin (by decide) rfl (hJ.putX (by decide) rfl _)))
   . cases hj;exact aT rfl (fun c e=>by cases e) rfl rfl (bp rfl t7) (hK _ _ _ _ (fun _ _=>rfl) (hkeep (by decide) (by decide) _ ⟨hval,rfl⟩) (fin (by decide) rfl (hJ.putX (by decide) rfl _)))
   . cases hj;exact aT rfl (fun c e=>by cases e) rfl rfl (km (sz:=1) (el:=44) rfl hu47 (by kernel_rfl) (hx 107 (by decide) (by decide) _ rfl) (hx 108 (by decide) (by decide) _ rfl) (WS i) (by omega)) (hK _ _ _ _ (fun _ _=>rfl) (hkeep (by decide) (by decide) _ ⟨hval,rfl⟩) (fin (by decide) rfl (hJ.putX (by decide) rfl _)))
   . cases hj;exact aT rfl (fun c e=>by cases e) rfl rfl (cd (v:=vi) rfl (by kernel_rfl) (hx 109 (by decide) (by decide) _ rfl) ((Box.cell hbX _).trans (by rw[Vq];simpa using hi))) (hK _ _ _ _ (fun _ _=>rfl) (hkeep (by decide) (by decide) _ ⟨hval,rfl⟩) (fin (by decide) rfl (hJ.putX (by decide) rfl _)))
   . cases hj;exact aT rfl (fun c e=>by cases e) rfl rfl (bp rfl t11) (hK _ _ _ _ (fun _ _=>rfl) (hkeep (by decide) (by decide) _ ⟨hval,rfl⟩) (fin (by decide) rfl (hJ.putX (by decide) rfl _)))
   . cases hj
     refine zt hE rfl (by kernel_rfl) (by kernel_rfl) hJ (st1:=(kn st val _ L).put (some 112) (.sl false 1 [.x (.int .i64 (x:Int))] none)) ?_ (fun a' w' h'=>hK _ _ _ _ (fun _ _=>rfl) (hkeep (by decide) (by decide) _ ⟨hval,rfl⟩) (by show HoldH _ _ _ _ ((kn st val _ L).put (some 112) (val 112)) _ _;rw[hval 112 (by decide)];exact h'))
     have h95:=(hneed 111 (by decide)).trans (hval 111 (by decide));generalize hS:kn _ _ _ _=ST;have h7:ST.t 111= .x (.int .i64 (x:Int)):=by rw[<-hS];exact h95
     refine rk ?_;simp +decide only[go_sem,aW,Nat.reduceBEq,h7]
   . cases hj;have b14:L.testBit 14=false:=hbj;have b14':=jb L 14;have b16':(L|||2^14).testBit 16=false:=by rw[fS L (by decide),nb]
     rw[Vh (by rw[b14];exact fun h=>by cases h)] at hIL;subst hIL;have e94:a2.eval (.tmp 110)=vi:=hx 110 (by decide) (by decide) _ rfl;obtain⟨m96,r96⟩:=hJ.read 112 (u:= .sl false 1 [.x (.int .i64 (x:Int))] none) ((hneed 112 (by decide)).trans (hval 112 (by decide))) rfl;obtain⟨v',w',g,ob,hrun,q1,q2,q3,q4,q5,q6,q7,q8,q9⟩:=uu (P:=Tryz.prog) (t:=44) (ty:=44) (el:=3) hu50 zF pV pW rfl oA hrow (fun g ob h=>hJ.at h) r96 hlen;have h2:=(ir hE hJ q1 q2 q3 q4 (q8.imp (fun e=>hrow.blk e) id) q7 q6).putX (d:=113) (by decide) rfl v';refine aT rfl (fun c e=>by cases e) rfl rfl (v:=v') (w':=w') ?_ (hK _ _ (aD H2 g (some ob)) (fun k=>if k=113 then .x v' else val k) (fun k hk=>Vh (fun e=>hk (by rw[e]))) ⟨fun k hk=>by rw[Vh hk];exact hval k hk,?_⟩ h2)
     . have e96:a2.eval (.tmp 112)=a2.tmps.getD 112 Go.undef:=rfl;rw[<-e96] at hrun;simp only[execOp,resolve,Sem.run_bind,Sem.run_pure,Result.andThen_ok,invoke,builtin];simp[e94,hrun,show aW.P=Tryz.prog from rfl]
     . rw[Vh (by rw[b16'];exact fun h=>by cases h),Va b14'];refine⟨v',Va rfl,g,ob,rfl,q5,q8.imp id (fun hge=>?_),q9 _ (ai _ _ _)⟩;cases e:H2 g with
       |none=>rfl
       |some ob'=>exact absurd (ae (hJ.at e)) (VI.2 hge)
   . cases hj;exact aT rfl (fun c e=>by cases e) rfl rfl (km (sz:=1) (el:=44) rfl hu47 (by kernel_rfl) (hx 102 (by decide) (by decide) _ rfl) (hx 103 (by decide) (by decide) _ rfl) (WS i) (by omega)) (hK _ _ _ _ (fun _ _=>rfl) (hkeep (by decide) (by decide) _ ⟨hval,rfl⟩) (fin (by decide) rfl (hJ.putX (by decide) rfl _)))
   . cases hj;have b14:L.testBit 14=true:=hdp 14 (WA.1 (by kernel_rfl));have b16':=jb L 16;rw[Va b14] at hIL;obtain⟨v',hv',hMid⟩:=hIL;have e97:a2.eval (.tmp 113)=v':=hJ.read_x 113 ((hneed 113 (by decide)).trans hv');obtain⟨hv1,hv2⟩:v'.cells= #[v']∧v'.oneCell'=true:=by obtain⟨_,_,_,_,_,hr⟩:=hMid;rcases hr with⟨_,rfl⟩|⟨_,_,_,_,_,rfl,_⟩<;>exact⟨rfl,rfl⟩
     have hset:vS.toArray.set! (i*1) v'=(vS.set i v').toArray:=by simp[Vq]
     have h2:=ir hE hJ (x:=gS) (ob:= .cells (vS.set i v').toArray 44 (0,0)) (w':=w2.setRow gS (vS.toArray.set! (i*1) v')) rfl rfl rfl (by simp) (.inl (by rw[hH2 gS (by simp),hH.s];exact fun h=>by cases h)) (fun k _ hk=>setRow_other w2 gS k _ hk) (by rw[hset];exact setRow_heap w2 gS _ _ _ (0,0) hbX);exact ja rfl (fun c e=>by cases e) rfl rfl (k9 rfl (by kernel_rfl) (hx 114 (by decide) (by decide) _ rfl) e97 hv1 hv2 hbX (by simpa using hil)) (hK _ _ _ _ (fun _ _=>rfl) ⟨hval,by rw[Va b16'];exact⟨v',hH.setS hi hMid⟩⟩ h2)
   . simp at hj
 . rintro a2 w2 H2 val ⟨_,hI⟩ hJ;rw[Va (by kernel_rfl)] at hI;obtain⟨v',hI⟩:=hI;exact hQ a2 w2 H2 _ hI (hJ.le (FG (fun o ho k hk=>by simp only[Vf,WK,X8] at ho;rcases ho with rfl|rfl|rfl|rfl|rfl|rfl|rfl|rfl|rfl|rfl|rfl|rfl|rfl|rfl|rfl|rfl|rfl<;>cases hk<;>exact hst _ (by decide) (by decide))))
def jf (x:Nat):V:= .x (.int .i64 (x:Int))
abbrev QS:=List (List Int)×List (List Int)
def c8 (i:Nat) (q:QS) (x:Nat):QS:=(q.1.set i ((q.1[i]?.getD [])++[(x:Int)]),q.2.set x ((q.2[x]?.getD [])++[(i:Int)]))
def LenB (q:QS) (b:Nat):Prop:=(∀es∈q.1,es.length<=b)∧∀es∈q.2,es.length<=b
variable {b:Nat}
theorem pZ {q:List (List Int)} {e:Int} (h:∀es∈q,es.length<=b):∀es∈q.set i ((q[i]?.getD [])++[e]),es.length<=b+1:=fun es he=>by
 rcases List.mem_or_eq_of_mem_set he with he|rfl
 . have:=h es he;omega
 . rw[U4];cases hq:q[i]? with
   |none=>simp
   |some es=>have:=h es (Vd hq);simp;omega
variable {q:QS}
theorem LenB.tell {x:Nat} (h:LenB q b):LenB (c8 i q x) (b+1):=⟨pZ h.1,pZ h.2⟩
theorem LenB.fold {i:Nat}:∀{ps:List Nat} {q:QS} {b:Nat},LenB q b->LenB (ps.foldl (c8 i) q) (b+ps.length)
 |[],_,_,h=>h
 |x::ps,q,b,h=>by have:=LenB.fold (i:=i) (ps:=ps) (h.tell (i:=i) (x:=x));rw[U3,show b+(ps.length+1)=b+1+ps.length by omega];exact this
variable {ps:List Nat}
theorem Ce {j x:Nat} (h:ps[j]?=some x):(ps.take (j+1)).foldl (c8 i) q=c8 i ((ps.take j).foldl (c8 i) q) x:=by rw[aS h,Xl];rfl
variable {nl2:Bool}
theorem QF {w1:World} {a:Act} {H:Nat->Option Obj} {vR vS:List Value} (hi:i<C.length) (hps:∀x∈ps,x<C.length) (hq:LenB q b) (hb:b+ps.length<=99999999) (hp4:ps.length<=1000000)
 (hH:HQ ao ln cp C gP bD gR gS vR vS q.1 q.2 H) (h1:HoldH aW 118 ⟨Kno.rd (.slice ao ln cp) (.sl false 3 (C.map aa) none),fun _=>true,#[],m,w⟩ H (aq [(0,.sl nl sz (l.map bK) none),(3,.fm (ksI (aj l)) (vsI (aj l))),(4,.x (.pointer (some ⟨bD,0,none⟩))),(57,.sl false 3 (C.map aa) none),(58,.x (.int .i64 (C.length:Int))),(59,.x (.int .i64 (i:Int))),(7,.x (.int .i64 (i:Int))),(77,.sl nl2 1 (ps.map jf) none),(78,.x (.int .i64 (ps.length:Int))),(79,.x (.int .i64 ((0:Nat):Int)))] []) a w1)
 (hQ:∀a' w' H' vR' vS',HQ ao ln cp C gP bD gR gS vR' vS' (ps.foldl (c8 i) q).1 (ps.foldl (c8 i) q).2 H'->HoldH aW 118 ⟨Kno.rd (.slice ao ln cp) (.sl false 3 (C.map aa) none),fun _=>true,#[],m,w⟩ H' (aq [(0,.sl nl sz (l.map bK) none),(3,.fm (ksI (aj l)) (vsI (aj l))),(4,.x (.pointer (some ⟨bD,0,none⟩))),(57,.sl false 3 (C.map aa) none),(58,.x (.int .i64 (C.length:Int))),(59,.x (.int .i64 (i:Int)))] []) a' w'->Q .normal a' w'):xN.wpIn (be none) 0 aW.P Q a w1:=by
 have hE:=ep;have hm:=ko;refine wpIn_block ?_;refine ce (X:={j:Nat//j<=ps.length}) (fun j a' w'=>∃H vR vS,HQ ao ln cp C gP bD gR gS vR vS ((ps.take j.1).foldl (c8 i) q).1 ((ps.take j.1).foldl (c8 i) q).2 H∧HoldH aW 118 ⟨Kno.rd (.slice ao ln cp) (.sl false 3 (C.map aa) none),fun _=>true,#[],m,w⟩ H (aq [(0,.sl nl sz (l.map bK) none),(3,.fm (ksI (aj l)) (vsI (aj l))),(4,.x (.pointer (some ⟨bD,0,none⟩))),(57,.sl false 3 (C.map aa) none),(58,.x (.int .i64 (C.length:Int))),(59,.x (.int .i64 (i:Int))),(7,.x (.int .i64 (i:Int))),(77,.sl nl2 1 (ps.map jf) none),(78,.x (.int .i64 (ps.length:Int))),(79,.x (.int .i64 ((j.1:Nat):Int)))] []) a' w') (fun j=>ps.length-j.1) ⟨0,VJ _⟩ ⟨H,vR,vS,hH,h1⟩ ?_;clear hH h1 a w1 H vR vS;rintro⟨j,hj0⟩ a w1 ⟨H,vR,vS,hH,h1⟩;simp only at hj0 hH h1⊢;by_cases hj:j<ps.length
 . have c1:decide ((j:Int)<(ps.length:Int))=true:=iO (by omega);have c1':(j:Int)<(ps.length:Int):=by omega
   have c2:(0:Int)<=(j:Int):=by omega
   have c4:=aF (i:=j) (by omega);have q1:ps[j]?=some ps[j]:=io hj;have hx:=hps ps[j] (V4 hj);have q2:(ps.map jf)[j]?=some (.x (.int .i64 ((ps[j]:Nat):Int))):=by rw[U5,q1];rfl
   generalize ps[j]=x at q1 hx q2;have hL:LenB ((ps.take j).foldl (c8 i) q) (b+j):=by
    have:=LenB.fold (i:=i) (ps:=ps.take j) hq
    rwa [Vj,WR hj0] at this
   have hft:=Ce (i:=i) (q:=q) q1;generalize (ps.take j).foldl (c8 i) q=qj at hH hL hft;refine wpIn_seq (fY hE hm [(0,.sl nl sz (l.map bK) none),(3,.fm (ksI (aj l)) (vsI (aj l))),(4,.x (.pointer (some ⟨bD,0,none⟩))),(57,.sl false 3 (C.map aa) none),(58,.x (.int .i64 (C.length:Int))),(59,.x (.int .i64 (i:Int))),(7,.x (.int .i64 (i:Int))),(77,.sl nl2 1 (ps.map jf) none),(78,.x (.int .i64 (ps.length:Int))),(79,.x (.int .i64 (j:Int))),(80,.x (.bool true))] [] (by kernel_rfl) (by kernel_rfl) h1 (by simp +decide (maxDischargeDepth:=200) only[go_sem,aW,Nat.reduceBEq,c1]<;>(repeat' first|rfl|constructor)) ?_);clear h1 a w1;intro a w1 h1;refine wpIn_seq (fY hE hm [(0,.sl nl sz (l.map bK) none),(3,.fm (ksI (aj l)) (vsI (aj l))),(4,.x (.pointer (some ⟨bD,0,none⟩))),(57,.sl false 3 (C.map aa) none),(58,.x (.int .i64 (C.length:Int))),(59,.x (.int .i64 (i:Int))),(7,.x (.int .i64 (i:Int))),(77,.sl nl2 1 (ps.map jf) none),(78,.x (.int .i64 (ps.length:Int))),(79,.x (.int .i64 (j:Int)))] [] (by kernel_rfl) (by kernel_rfl) h1 (by simp +decide (maxDischargeDepth:=200) only[go_sem,aW,Nat.reduceBEq]<;>(repeat' first|rfl|constructor)) ?_);clear h1 a w1;intro a w1 h1;refine wpIn_seq (wpIn_block (wpIn_seq (fY hE hm [(0,.sl nl sz (l.map bK) none),(3,.fm (ksI (aj l)) (vsI (aj l))),(4,.x (.pointer (some ⟨bD,0,none⟩))),(57,.sl false 3 (C.map aa) none),(58,.x (.int .i64 (C.length:Int))),(59,.x (.int .i64 (i:Int))),(7,.x (.int .i64 (i:Int))),(77,.sl nl2 1 (ps.map jf) none),(78,.x (.int .i64 (ps.length:Int))),(79,.x (.int .i64 (j:Int))),(11,.x (.int .i64 (x:Int)))] [] (by kernel_rfl) (by kernel_rfl) h1 (by simp +decide (maxDischargeDepth:=200) only[go_sem,aW,Nat.reduceBEq,eq,c1',c2,q2,U2]<;>(repeat' first|rfl|constructor)) ?_)));clear h1 a w1;intro a w1 h1;have hRl:=hH.lR;have hSl:=hH.lS;have hvRl:=hH.lvR;have hvSl:=hH.lvS;obtain⟨vi,hvi⟩:∃v,vR[i]?=some v:=⟨_,io (by omega)⟩;obtain⟨es,hes⟩:∃e,qj.1[i]?=some e:=⟨_,io (by omega)⟩;have hel:=hL.1 es (Vd hes);refine wpIn_seq (QD (i:=i) (x:=x) hH hvi hes (by omega) (by simp only[go_sem,Nat.reduceEqDiff,Vc,Vi,bL,aq]) (by simp only[go_sem,Nat.reduceEqDiff,Vc,Vi,bL,aq]) (by simp only[go_sem,Nat.reduceEqDiff,Vc,Vi,bL,aq]) (fun k h1 h2=>?_) h1 ?_)
   . simp only[aq,bL]
     iterate 12 (first|rw[ah _ _ (by omega)]|skip)
   intro a2 w2 H2 vR2 hH2 h2;obtain⟨vj,hvj⟩:∃v,vS[x]?=some v:=⟨_,io (by omega)⟩;obtain⟨es2,hes2⟩:∃e,qj.2[x]?=some e:=⟨_,io (by omega)⟩;have hel2:=hL.2 es2 (Vd hes2);refine QE (i:=x) (x:=i) hH2 hvj hes2 (by omega) (by simp only[go_sem,Nat.reduceEqDiff,Vc,Vi,bL,aq]) (by simp only[go_sem,Nat.reduceEqDiff,Vc,Vi,bL,aq]) (by simp only[go_sem,Nat.reduceEqDiff,Vc,Vi,bL,aq]) (fun k h1 h2=>?_) h2 ?_
   . simp only[aq,bL]
     iterate 12 (first|rw[ah _ _ (by omega)]|skip)
   intro a3 w3 H3 vS3 hH3 h3;refine fY hE hm [(0,.sl nl sz (l.map bK) none),(3,.fm (ksI (aj l)) (vsI (aj l))),(4,.x (.pointer (some ⟨bD,0,none⟩))),(57,.sl false 3 (C.map aa) none),(58,.x (.int .i64 (C.length:Int))),(59,.x (.int .i64 (i:Int))),(7,.x (.int .i64 (i:Int))),(77,.sl nl2 1 (ps.map jf) none),(78,.x (.int .i64 (ps.length:Int))),(79,.x (.int .i64 ((j+1:Nat):Int)))] [] (by kernel_rfl) (by kernel_rfl) h3 (by simp +decide (maxDischargeDepth:=200) only[go_sem,aW,Nat.reduceBEq,c4]<;>(repeat' first|rfl|constructor)) ?_;intro a4 w4 h4;refine⟨⟨j+1,hj⟩,⟨H3,vR2,vS3,?_,h4⟩,by simp only;omega⟩;have e:c8 i qj x=(qj.1.set i (es++[(x:Int)]),qj.2.set x (es2++[(i:Int)])):=by unfold c8;rw[hes,hes2];rfl
   rw[hft,e];exact hH3
 . have c1:decide ((j:Int)<(ps.length:Int))=false:=tl (by omega);have e:j=ps.length:=by omega
   subst e;rw[Ww] at hH;refine wpIn_seq (fY hE hm [(0,.sl nl sz (l.map bK) none),(3,.fm (ksI (aj l)) (vsI (aj l))),(4,.x (.pointer (some ⟨bD,0,none⟩))),(57,.sl false 3 (C.map aa) none),(58,.x (.int .i64 (C.length:Int))),(59,.x (.int .i64 (i:Int))),(7,.x (.int .i64 (i:Int))),(77,.sl nl2 1 (ps.map jf) none),(78,.x (.int .i64 (ps.length:Int))),(80,.x (.bool false))] [] (by kernel_rfl) (by kernel_rfl) h1 (by simp +decide (maxDischargeDepth:=200) only[go_sem,aW,Nat.reduceBEq,c1]<;>(repeat' first|rfl|constructor)) ?_);clear h1 a w1;intro a w1 h1;refine wpIn_seq (Iv hE hm 4 [(0,.sl nl sz (l.map bK) none),(3,.fm (ksI (aj l)) (vsI (aj l))),(4,.x (.pointer (some ⟨bD,0,none⟩))),(57,.sl false 3 (C.map aa) none),(58,.x (.int .i64 (C.length:Int))),(59,.x (.int .i64 (i:Int)))] [] (by kernel_rfl) (by kernel_rfl) h1 (by simp +decide (maxDischargeDepth:=200) only[go_sem,aW,Nat.reduceBEq]<;>(repeat' first|rfl|constructor)) ?_);clear h1 a w1;intro a w1 h1;exact hQ a w1 H vR vS hH h1
theorem IK {m' m2:Lim} (hes:∀e∈es,∃i,e= .x (.int .i64 i)) (h:Rd m' w' v (.sl nl 1 es none)) (hm:∀blk fr,m2 blk=some fr->m' blk=some fr∨∀off i,w'.cell? ⟨blk,off,none⟩≠some (.int .i64 i)):Rd m2 w' v (.sl nl 1 es none):=by
 cases h with
 |nil=>exact .nil _ _
 |emp a cap=>exact .emp _ _ _
 | sl blk off cap _ _ _ c hb hcap hsz hc hmm hr=>
   cases es with
   |nil=>exact .emp _ _ _
   | cons e es=>
     obtain⟨i,rfl⟩:=hes e (Vv ..);have h0:c 0= .int .i64 i:=Rd.x_iff.1 (hr 0 _ rfl 0 _ rfl);have hc0:=hc 0 (by simp);refine .sl blk off cap 1 _ none c hb hcap hsz hc (fun fr hf=>?_) (fun i e hi j d hd=>?_)
     . rcases hm blk fr hf with h|h
       . exact hmm fr h
       . rw[h0] at hc0;exact absurd hc0 (h _ _)
     . obtain⟨n,rfl⟩:=hes e (Vd hi);cases j with
       |zero=>cases hd;have:=hr i _ hi 0 _ rfl;rw[Rd.x_iff.1 this];exact .x _
       |succ j=>cases hd
theorem uN {rest:List Nat} {ts:Array TypeId} {sz2:Nat} {r:List C3} (hn:C.Nodup) (hH:HQ ao ln cp C gP bD gR gS vR vS R S H)
 (hi:ops[4]?=some o) (hop:o.op= .call {callee:= .value (.func 27),args:= #[.tmp 73,.tmp 76],argTypes:=ts}) (hd:o.dst=some 77) (hg:o.guard=none) (s73:st.t 73= .x (.pointer (some ⟨bD,0,none⟩))) (s76:st.t 76= .sl nl2 sz2 (r.map aa) none) (hsz:r≠[]->sz2=3) (hrl:r.length<=1000000)
 (h:HoldH aW 118 ⟨Kno.rd (.slice ao ln cp) (.sl false 3 (C.map aa) none),fun _=>true,#[],m,w⟩ H st a w1) (hK:∀a' w',HoldH aW 118 ⟨Kno.rd (.slice ao ln cp) (.sl false 3 (C.map aa) none),fun _=>true,#[],m,w⟩ H (st.put (some 77) (.sl (gu (plI 0 C) r).isEmpty 1 (gu (plI 0 C) r) none)) a' w'->wpOpsIn (be none) 0 aW.P ⟨ops⟩ Q rest a' w'):wpOpsIn (be none) 0 aW.P ⟨ops⟩ Q (4::rest) a w1:=by
 have hE:=ep;have hbD:=h.at hH.d;obtain⟨ents,clock,hp,hMX,hMb,hMn⟩:=hH.p;have hbP:=h.at hp;have hnd:=hH.ne;simp only[VL,Vf,WK,X8,not_or,Xh,VV,Wx] at hnd;obtain⟨⟨n1,_,_⟩,_,_⟩:=hnd;obtain⟨m1,O,q1,q2,q4,q5,q6,q7⟩:=h;have e73:a.eval (.tmp 73)= .pointer (some ⟨bD,0,none⟩):=q1.read_x 73 s73;have r76:Rd m1 w1 (a.eval (.tmp 76)) (.sl nl2 sz2 (r.map aa) none):=dS q1 76 s76 rfl;have hext:Ext m1 w1 (aD (aD m1 bD none) gP none) w1:=(Ext.freeze bD m1 w1).trans (Ext.freeze gP _ w1);have hmP:m1 gP=some 0:=(q2 gP _ hp).2.2.1;have rfm:Rd (aD (aD m1 bD none) gP none) w1 (.map (some gP)) (.fm (ksI (plI 0 C)) (vsI (plI 0 C))):=MapAt.freeze ⟨ents,clock,hbP,hMX m1 w1,hMb,hMn,hmP⟩ hext (ai _ _ _);have hrd:RdL (aD (aD m1 bD none) gP none) w1 [a.eval (.tmp 73),a.eval (.tmp 76)] (la ((.sl false 3 (C.map aa) none,plI 0 C,.x (.slice (some ⟨gR,0,none⟩) C.length C.length),.x (.slice (some ⟨gS,0,none⟩) C.length C.length)),nl2,sz2,r)):=by
  rw[e73];refine⟨.ip bD 0 _ (fun k=>(#[Value.slice ao ln cp,.map (some gP),.slice (some ⟨gR,0,none⟩) C.length C.length,.slice (some ⟨gS,0,none⟩) C.length C.length][k]?).getD Go.undef) (ae hbD) (fun k hk=>?_) (fun fr hf=>?_) (fun k d hk=>?_),r76.mono hext,trivial⟩
  . rw[Vt,Box.cell hbD];have hk4:k<4:=hk;rw[Vn (by simpa using hk4)];rfl
  . rw[ah _ _ n1,ai] at hf;cases hf
  . rcases k with _|_|_|_|k
    . cases hk;exact q6.mono hext
    . cases hk;exact rfm
    . cases hk;exact .x _
    . cases hk;exact .x _
    . cases hk
 have hF:Fun aW 27 (FE la B0):=hE.fn _ _ rfl;have hval:FE la B0 (la ((.sl false 3 (C.map aa) none,plI 0 C,.x (.slice (some ⟨gR,0,none⟩) C.length C.length),.x (.slice (some ⟨gS,0,none⟩) C.length C.length)),nl2,sz2,r))=some (.sl (gu (plI 0 C) r).isEmpty 1 (gu (plI 0 C) r) none):=(bC BZ B0 _).trans (Va ⟨xI hn 0,hsz,hrl⟩);have hc:=hF.2 _ w1 #[a.eval (.tmp 73),a.eval (.tmp 76)] _ _ hval rfl hrd q1.J (fun g=> .undef _);rw[wpOpsIn_cons];unfold wpOpIn;have hi':(⟨ops⟩:Array Oper)[4]?=some o:=by simpa using hi
 rw[hi'];simp only;rw[Va (by unfold Region.wanted;rw[hg])];refine⟨fun _ _=>trivial,?_⟩;rw[Oper.semAt_eq _ _ _ (by rw[hop];intro c e;cases e)];have hrun:(execOp a.eval o).run aW.P w1= .ok (.enter 27 ((#[.tmp 73,.tmp 76]:Array Operand).map a.eval)) w1:=by simp only[execOp,hop,resolve,Sem.run_bind,Act.eval,Deferred.ofValue,Sem.run_pure,Result.andThen_ok,invoke];simpa using hF.1 _ _
 rw [hrun,show((#[.tmp 73,.tmp 76]:Array Operand).map a.eval)= #[a.eval (.tmp 73),a.eval (.tmp 76)] from by simp];refine⟨(fun e=>by cases e),cF.2 (hc.mono ?_)⟩;rintro e w' ⟨v,m',rfl,hv,hb,hmb⟩;show wpOpsIn (be none) 0 aW.P ⟨ops⟩ Q rest (a.put o.dst v) w';rw[hd];have hs:Step (fun _=>False) m1 w1 (fun j=>if j<w1.heap.size then m1 j else m' j) w':=Step.of_below hb (fun k hk=>Va hk);have hJ:aW.J w':=hE.keep [] _ _ (fun x hx=>by cases hx) q1.J (hs.bel (fun k _ e=>e.elim));have hv2:Rd (fun j=>if j<w1.heap.size then m1 j else m' j) w' v (.sl (gu (plI 0 C) r).isEmpty 1 (gu (plI 0 C) r) none):=by
  refine IK (fun e he=>?_) hv (fun blk fr hf=>?_)
  . obtain⟨c,_,rfl⟩:=U7.1 he;exact⟨_,rfl⟩
  . split at hf
    . rename_i hlt;by_cases e1:blk=bD
      . subst e1;refine .inr (fun off i hc=>?_);rw[aX (hs.same _ (ae hbD) (fun h=>h)).1,Box.cell hbD] at hc;rcases off with _|_|_|_|off<;>simp at hc
      . by_cases e2:blk=gP
        . subst e2;refine .inr (fun off i hc=>?_);rw[aX (hs.same _ (ae hbP) (fun h=>h)).1] at hc;simp[World.cell?,hbP] at hc
        . exact .inl (by rw[hmb blk hlt,ah _ _ e2,ah _ _ e1];exact hf)
    . exact .inl hf
 have hput:=(q1.other hs (fun _ _ h=>h) hJ).put (d:=77) (by decide) hv2;rw[dc] at hput;refine hK _ _ ⟨_,O,hput,fun g ob hgo=>?_,q4,q5.next hs (fun _ _ h=>h.elim),Kno.mono _ _ _ _ _ q6 hs.ext,q7.put (fun k e=>by cases e;rfl)⟩;obtain⟨s1,s2,s3,s4,s5⟩:=q2 g ob hgo;have hsame:=hs.same g (ae s2) (fun h=>h);exact⟨s1,hsame.1.trans s2,hsame.2.trans s3,s4,s5⟩
theorem FH (L:List CI) (d c:C3) (v:Int):cz (L.map fun p=>if dD d p.1=true then (p.1,v) else p) c=if c=d∧cB L d=true then v else cz L c:=by
 induction L with
 |nil=>simp[cz,cB,gN]
 | cons p L ih=>
   have hh:cB (p::L) d=(dD d p.1||cB L d):=rfl;rw[VC];by_cases h1:d=p.1
   . have e1:dD d p.1=true:=iO h1;rw[Va e1,hh,e1,Bool.true_or];unfold cz;by_cases h2:c=p.1
     . rw[Va (show dD c (p.1,v).1=true from iO h2),Va ⟨h2.trans h1.symm,rfl⟩]
     . have e2: ¬dD c p.1=true:=fun h=>h2 (Vw h)
       rw[Vh e2,Vh e2,ih,Vh (fun h=>h2 (h.1.trans h1)),Vh (fun h=>h2 (h.1.trans h1))]
   . have e1: ¬dD d p.1=true:=fun h=>h1 (Vw h)
     have e1':dD d p.1=false:=by simpa using e1
     rw[Vh e1,hh,e1',Xy];unfold cz;by_cases h2:c=p.1
     . have e2:dD c p.1=true:=iO h2;rw[Va e2,Va e2,Vh (fun h=>h1 (h.1.symm.trans h2))]
     . have e2: ¬dD c p.1=true:=fun h=>h2 (Vw h)
       rw[Vh e2,Vh e2,ih]
theorem FI (L:List CI) (d c:C3) (v:Int):cz (L++[(d,v)]) c=if cB L c=true then cz L c else if c=d then v else 0:=by
 induction L with
 | nil=>
   show(if dD c (d,v).1=true then v else 0)=_;rw[Vh (show¬cB [] c=true by simp[cB,gN])];by_cases h:c=d
   . rw[Va (show dD c (d,v).1=true from iO h),Va h]
   . rw[Vh (show¬dD c (d,v).1=true from fun e=>h (Vw e)),Vh h]
 | cons p L ih=>
   have hh:cB (p::L) c=(dD c p.1||cB L c):=rfl;rw[VN,hh];unfold cz;by_cases h2:dD c p.1=true
   . rw[Va h2,Va h2,h2,Bool.true_or,Va rfl]
   . have e2:dD c p.1=false:=by simpa using h2
     rw[Vh h2,Vh h2,ih,e2,Xy]
theorem uO (L:List CI) (d c:C3) (v:Int):cB (fT L d v) c=true->cz (fT L d v) c=if c=d then v else cz L c:=by
 intro hc;unfold fT at hc⊢;split
 . rename_i h;rw[FH];by_cases e:c=d
   . rw[Va ⟨e,h⟩,Va e]
   . rw[Vh (fun h=>e h.1),Vh e]
 . rename_i h;rw[FI];split
   . rename_i h2;rw[Vh (show¬c=d from fun e=>h (e▸h2))]
   . rename_i h2;split
     . rfl
     . rename_i h3;exact(rf (by simpa using h2)).symm
theorem ro (L:List CI) (d c:C3) (v:Int) (hne:c≠d) (h:cB (fT L d v) c=true):cB L c=true:=by
 unfold fT at h;split at h
 . rw[cZ] at h⊢;obtain⟨p,hp,rfl⟩:=U7.1 h;obtain⟨p',hp',rfl⟩:=U7.1 hp;refine U7.2 ⟨p',hp',?_⟩;split<;>rfl
 . rw[cZ] at h⊢;obtain⟨p,hp,rfl⟩:=U7.1 h;rcases Vl.1 hp with hp|hp
   . exact U7.2 ⟨p,hp,rfl⟩
   . rw[Vo.1 hp] at hne;exact absurd rfl hne
theorem FJ:∀n:Nat,n<=l.length->cB (aj (l.take n)) c=true->∃k,k<n∧cz (aj (l.take n)) c=((k:Nat):Int):=by
 intro n
 induction n with
 |zero=>intro _ h;simp[aj,jQ,cB,gN] at h
 | succ n ih=>
   intro hn h;have q1:l[n]?=some l[n]:=io (by omega);have e:aj (l.take (n+1))=fT (aj (l.take n)) (l[n]).1 ((n:Nat):Int):=by unfold aj;rw[aS q1,eF,Vj,Vt,WR (by omega)]
   rw[e] at h⊢;rw[uO _ _ _ _ h];by_cases hc:c=(l[n]).1
   . rw[Va hc];exact⟨n,by omega,rfl⟩
   . rw[Vh hc];obtain⟨k,hk,e2⟩:=ih (by omega) (ro _ _ _ _ hc h);exact⟨k,by omega,e2⟩
def jG (C r:List C3):List Nat:=(r.filter fun c=>gN c C).map fun c=>(cz (plI 0 C) c).toNat
theorem FK (hn:C.Nodup) {c:C3} (h:gN c C=true):∃i:Nat,i<C.length∧cz (plI 0 C) c=(i:Int):=by obtain⟨i,hi⟩:=lO h;have:=pT (k:=0) hn hi;rw[Vt] at this;exact⟨i,(Io.1 hi).1,this⟩
theorem IM (hn:C.Nodup) (r:List C3):gu (plI 0 C) r=(jG C r).map jf:=by
 unfold gu jG;rw[Wk];have e:(r.filter fun c=>cB (plI 0 C) c)=r.filter fun c=>gN c C:=by congr 1;funext c;exact mR C 0 c
 rw[e];refine Wv fun c hc=>?_
 obtain⟨i,_,hi⟩:=FK hn (VG.1 hc).2;show V.x (.int .i64 (cz (plI 0 C) c))=V.x (.int .i64 (((cz (plI 0 C) c).toNat:Nat):Int));rw[hi,U2]
theorem zG (hn:C.Nodup) (r:List C3):∀x∈jG C r,x<C.length:=fun x hx=>by obtain⟨c,hc,rfl⟩:=U7.1 hx;obtain⟨i,h1,hi⟩:=FK hn (VG.1 hc).2;rw[hi,U2];exact h1
theorem uP (C r:List C3):(jG C r).length<=r.length:=by unfold jG;rw[eq];exact V6 _ _
def oB (l:List En) (C:List C3) (q:QS) (i:Nat):QS:=
 match C[i]? with
 |none=>q
 | some c=>match l[(cz (aj l) c).toNat]? with
   |none=>q
   |some e=>if e.2.1=true then (jG C (aw e.2.2.1)).foldl (c8 i) q else q
def eV (l:List En) (C:List C3) (n:Nat):QS:=(List.range n).foldl (oB l C) (List.replicate C.length [],List.replicate C.length [])
theorem gU (l:List En) (C:List C3) (n:Nat):eV l C (n+1)=oB l C (eV l C n) n:=by unfold eV;rw[List.range_succ,Xl];rfl
theorem Cf (hc:∀e∈l,jF e.2.2.1<=400) (h:LenB q b):LenB (oB l C q i) (b+160000):=by
 have mono:∀{q:QS} {b b':Nat},LenB q b->b<=b'->LenB q b':=fun h hb=>⟨fun es he=>VA (h.1 es he) hb,fun es he=>VA (h.2 es he) hb⟩
 unfold oB;split
 . exact mono h (by omega)
 . split
   . exact mono h (by omega)
   . rename_i e he;split
     . refine mono h.fold ?_;have h1:=uP C (aw e.2.2.1);have h2:=eC e.2.2.1;have h3:=hc e (Vd he);omega
     . exact mono h (by omega)
theorem oC {l:List En} {C:List C3} (hc:∀e∈l,jF e.2.2.1<=400):∀n,LenB (eV l C n) (n*160000)
 |0=>⟨fun es he=>by rw[(List.mem_replicate.1 he).2];exact VJ _,fun es he=>by rw[(List.mem_replicate.1 he).2];exact VJ _⟩
 |n+1=>by rw[gU,VP,WW];exact Cf hc (oC hc n)
noncomputable def QG:Code:=Jq (ld (ld Jr))
theorem QH {w1:World} {a:Act} (hn:C.Nodup) (hi:C[i]?=some c) (h400:C.length<=400) (hsz:l≠[]->sz=20) (_hl4:l.length<=400) (hcnt:∀e∈l,jF e.2.2.1<=400) (hkey:cB (aj l) c=true)
 (hH:HQ ao ln cp C gP bD gR gS vR vS (eV l C i).1 (eV l C i).2 H) (h1:HoldH aW 118 ⟨Kno.rd (.slice ao ln cp) (.sl false 3 (C.map aa) none),fun _=>true,#[],m,w⟩ H (aq [(0,.sl nl sz (l.map bK) none),(3,.fm (ksI (aj l)) (vsI (aj l))),(4,.x (.pointer (some ⟨bD,0,none⟩))),(57,.sl false 3 (C.map aa) none),(58,.x (.int .i64 (C.length:Int))),(59,.x (.int .i64 (i:Int)))] []) a w1)
 (hQ:∀a' w' H' vR' vS',HQ ao ln cp C gP bD gR gS vR' vS' (eV l C (i+1)).1 (eV l C (i+1)).2 H'->HoldH aW 118 ⟨Kno.rd (.slice ao ln cp) (.sl false 3 (C.map aa) none),fun _=>true,#[],m,w⟩ H' (aq [(0,.sl nl sz (l.map bK) none),(3,.fm (ksI (aj l)) (vsI (aj l))),(4,.x (.pointer (some ⟨bD,0,none⟩))),(57,.sl false 3 (C.map aa) none),(58,.x (.int .i64 (C.length:Int))),(59,.x (.int .i64 (i:Int)))] []) a' w'->Q .normal a' w'):QG.wpIn (be none) 0 aW.P Q a w1:=by
 have hE:=ep;have hm:=ko;have hiN:=(Io.1 hi).1;have c1':(i:Int)<(C.length:Int):=by omega
 have c2:(0:Int)<=(i:Int):=by omega
 have q2:(C.map aa)[i]?=some (aa c):=by rw[U5,hi];rfl
 simp only[aa] at q2;obtain⟨k,hk,hz⟩:=FJ (l:=l) (c:=c) l.length (Vb _) (by rw[Ww];exact hkey);rw[Ww] at hz;obtain rfl:=hsz (fun h=>by rw[h] at hk;simp at hk);have kk:=Iy (m:= .fm (ksI (aj l)) (vsI (aj l))) rfl (jC l) (c:=c);rw[hz] at kk;simp only[aa] at kk;have q3:l[k]?=some l[k]:=io hk;have q4:(l.map bK)[k]?=some (bK l[k]):=by rw[U5,q3];rfl
 have hce:=hcnt l[k] (V4 hk);have hstep:eV l C (i+1)=if (l[k]).2.1=true then (jG C (aw (l[k]).2.2.1)).foldl (c8 i) (eV l C i) else eV l C i:=by rw[gU];unfold oB;rw[hi];simp only;rw[hz,U2,q3]
 generalize l[k]=e at q3 q4 hce hstep;have d1:(k:Int)<(l.length:Int):=by omega
 have d2:(0:Int)<=(k:Int):=by omega
 obtain⟨N,T,hN,lN,lT,hnd,tkN⟩:=y9 e;rw[hN] at q4;have tA:(N++T).take 16=N++T:=Vp (by rw[U4];omega);have aA:(N++T).all V.cell=true:=by obtain⟨M,hM,_,_,hM4⟩:=ot e;rw[hN] at hM;simp only[V.agg.injEq,VE,Xo] at hM;rw[hM];exact hM4
 refine wpIn_block (wpIn_seq (fY hE hm [(0,.sl nl 20 (l.map bK) none),(3,.fm (ksI (aj l)) (vsI (aj l))),(4,.x (.pointer (some ⟨bD,0,none⟩))),(57,.sl false 3 (C.map aa) none),(58,.x (.int .i64 (C.length:Int))),(59,.x (.int .i64 (i:Int))),(7,.x (.int .i64 (i:Int))),(8,.ptr 8 0)] [(8,[.x (.string c.1),.x (.int .i64 c.2.1),.x (.int .i64 c.2.2)])] (by kernel_rfl) (by kernel_rfl) h1 (by simp +decide (maxDischargeDepth:=200) only[go_sem,aW,Nat.reduceBEq,eq,c1',c2,q2,U2]<;>(repeat' first|rfl|constructor)) ?_));clear h1 a w1;intro a w1 h1;refine wpIn_seq (fY hE hm [(0,.sl nl 20 (l.map bK) none),(3,.fm (ksI (aj l)) (vsI (aj l))),(4,.x (.pointer (some ⟨bD,0,none⟩))),(57,.sl false 3 (C.map aa) none),(58,.x (.int .i64 (C.length:Int))),(59,.x (.int .i64 (i:Int))),(7,.x (.int .i64 (i:Int))),(9,.ptr 9 0)] [(9,.x (.string e.1.1):: .x (.int .i64 e.1.2.1):: .x (.int .i64 e.1.2.2):: .x (.bool e.2.1)::(N++T))] (by kernel_rfl) (by kernel_rfl) h1 (by simp +decide (maxDischargeDepth:=200) only[go_sem,aW,Nat.reduceBEq,eq,U3,U4,lN,lT,tA,aA,kk,d1,d2,q4,U2]<;>(repeat' first|rfl|constructor)) ?_);clear h1 a w1;intro a w1 h1;cases hf:e.2.1 with
 |false=>rw[hf] at h1 hstep;rw[Vh (by decide)] at hstep;refine wpIn_seq (wpIn_seq (fY hE hm [(0,.sl nl 20 (l.map bK) none),(3,.fm (ksI (aj l)) (vsI (aj l))),(4,.x (.pointer (some ⟨bD,0,none⟩))),(57,.sl false 3 (C.map aa) none),(58,.x (.int .i64 (C.length:Int))),(59,.x (.int .i64 (i:Int))),(72,.x (.bool true))] [] (by kernel_rfl) (by kernel_rfl) h1 (by simp +decide (maxDischargeDepth:=200) only[go_sem,aW,Nat.reduceBEq,U3,U4,lN,lT]<;>(repeat' first|rfl|constructor)) ?_));clear h1 a w1;intro a w1 h1;refine Iv hE hm 3 [(0,.sl nl 20 (l.map bK) none),(3,.fm (ksI (aj l)) (vsI (aj l))),(4,.x (.pointer (some ⟨bD,0,none⟩))),(57,.sl false 3 (C.map aa) none),(58,.x (.int .i64 (C.length:Int))),(59,.x (.int .i64 (i:Int)))] [] (by kernel_rfl) (by kernel_rfl) h1 (by simp +decide (maxDischargeDepth:=200) only[go_sem,aW,Nat.reduceBEq]<;>(repeat' first|rfl|constructor)) ?_;intro a2 w2 h2;exact hQ a2 w2 H vR vS (by rw[hstep];exact hH) h2
 | true=>
   rw[hf] at h1 hstep;rw[Va rfl] at hstep;refine wpIn_seq (wpIn_seq (fY hE hm [(0,.sl nl 20 (l.map bK) none),(3,.fm (ksI (aj l)) (vsI (aj l))),(4,.x (.pointer (some ⟨bD,0,none⟩))),(57,.sl false 3 (C.map aa) none),(58,.x (.int .i64 (C.length:Int))),(59,.x (.int .i64 (i:Int))),(7,.x (.int .i64 (i:Int))),(9,.ptr 9 0),(72,.x (.bool false))] [(9,.x (.string e.1.1):: .x (.int .i64 e.1.2.1):: .x (.int .i64 e.1.2.2):: .x (.bool true)::(N++T))] (by kernel_rfl) (by kernel_rfl) h1 (by simp +decide (maxDischargeDepth:=200) only[go_sem,aW,Nat.reduceBEq,U3,U4,lN,lT]<;>(repeat' first|rfl|constructor)) ?_));clear h1 a w1;intro a w1 h1;refine fY hE hm [(0,.sl nl 20 (l.map bK) none),(3,.fm (ksI (aj l)) (vsI (aj l))),(4,.x (.pointer (some ⟨bD,0,none⟩))),(57,.sl false 3 (C.map aa) none),(58,.x (.int .i64 (C.length:Int))),(59,.x (.int .i64 (i:Int))),(7,.x (.int .i64 (i:Int))),(9,.ptr 9 0)] [(9,.x (.string e.1.1):: .x (.int .i64 e.1.2.1):: .x (.int .i64 e.1.2.2):: .x (.bool true)::(N++T))] (by kernel_rfl) (by kernel_rfl) h1 (by simp +decide (maxDischargeDepth:=200) only[go_sem,aW,Nat.reduceBEq]<;>(repeat' first|rfl|constructor)) ?_;clear h1 a w1;intro a w1 h1;have hrd:FE c9 ek [.agg N]=some (.sl (aw e.2.2.1).isEmpty (jw (aw e.2.2.1)) ((aw e.2.2.1).map aa) none):=by rw[<-hnd];exact(bC iT _ _).trans (lC hce)
   have hr4:(aw e.2.2.1).length<=160000:=by have:=eC e.2.2.1;omega
   have hzO:aw e.2.2.1≠[]->jw (aw e.2.2.1)=3:=fun h=>by
    unfold jw;cases hh:aw e.2.2.1 with
    |nil=>exact absurd hh h
    |cons _ _=>rfl
   refine wpIn_seq (wpIn_region ?_);refine rc hE 0 4 [(0,.sl nl 20 (l.map bK) none),(3,.fm (ksI (aj l)) (vsI (aj l))),(4,.x (.pointer (some ⟨bD,0,none⟩))),(57,.sl false 3 (C.map aa) none),(58,.x (.int .i64 (C.length:Int))),(59,.x (.int .i64 (i:Int))),(7,.x (.int .i64 (i:Int))),(73,.x (.pointer (some ⟨bD,0,none⟩))),(76,.sl (aw e.2.2.1).isEmpty (jw (aw e.2.2.1)) ((aw e.2.2.1).map aa) none)] [] [4,5,6] (by decide) (by kernel_rfl) (by kernel_rfl) h1 (by simp +decide (maxDischargeDepth:=200) only[go_sem,aW,Nat.reduceBEq,U3,U4,lN,lT,tkN,hrd]<;>(repeat' first|rfl|constructor)) ?_;clear h1 a w1;intro a w1 h1;refine uN (nl2:=(aw e.2.2.1).isEmpty) (sz2:=jw (aw e.2.2.1)) (r:=aw e.2.2.1) hn hH rfl rfl rfl rfl (by simp only[go_sem,St.put,Nat.reduceEqDiff,Vc,Vi,bL,aq]) (by simp only[go_sem,St.put,Nat.reduceEqDiff,Vc,Vi,bL,aq]) hzO (by omega) h1 ?_;clear h1 a w1;intro a w1 h1;rw[IM hn] at h1;have hpl:=uP C (aw e.2.2.1);refine rc hE 5 2 [(0,.sl nl 20 (l.map bK) none),(3,.fm (ksI (aj l)) (vsI (aj l))),(4,.x (.pointer (some ⟨bD,0,none⟩))),(57,.sl false 3 (C.map aa) none),(58,.x (.int .i64 (C.length:Int))),(59,.x (.int .i64 (i:Int))),(7,.x (.int .i64 (i:Int))),(77,.sl ((jG C (aw e.2.2.1)).map jf).isEmpty 1 ((jG C (aw e.2.2.1)).map jf) none),(78,.x (.int .i64 ((jG C (aw e.2.2.1)).length:Int))),(79,.x (.int .i64 ((0:Nat):Int)))] [] [] (by decide) (by kernel_rfl) (by kernel_rfl) h1 (by simp +decide (maxDischargeDepth:=200) only[go_sem,aW,Nat.reduceBEq,St.put,eq,VO]<;>(repeat' first|rfl|constructor)) ?_;clear h1 a w1;intro a w1 h1;refine QF hiN (zG hn _) (oC hcnt i) (by omega) (by omega) hH h1 ?_;intro a2 w2 H2 vR2 vS2 hH2 h2;exact hQ a2 w2 H2 vR2 vS2 (by rw[hstep];exact hH2) h2
theorem FL {es:List Int} (h:RowI H v es) (hw:∀g ob,H g=some ob->w.heap[g]?=some ob) (hm:∀g,H g≠none->m g=none):Rd m w v (rI es):=by
 rcases h with⟨rfl,rfl⟩|⟨g,cap,cur,ty,hne,rfl,hg,hcap,hsz,hc⟩
 . exact .nil _ _
 . have hh:=hw g _ hg;have hmg:=hm g (by rw[hg];exact fun h=>by cases h);have e:rI es= .sl false 1 (es.map fc) none:=by
    cases es with
    |nil=>exact absurd rfl hne
    |cons a es=>rfl
   rw[e];have:=Rd.sl (m:=m) (w:=w) g 0 cap 1 (es.map fc) none (fun k=>(cur[k]?).getD Go.undef) (ae hh) (by rw[eq];exact hcap) (fun i e hi=>by
    rw[U5,U9] at hi;obtain⟨n,_,rfl⟩:=hi;rfl) (fun k hk=>by
    rw[eq,Vq] at hk;rw[Vt,Box.cell hh,Vn (by omega)];rfl) (fun fr hf=>by rw[hmg] at hf;cases hf) (fun i e hi j d hd=>by
    rw[U5,U9] at hi;obtain⟨n,hn,rfl⟩:=hi;cases j with
    |zero=>cases hd;rw[Vq,Wj,hc i n hn];exact .x _
    |succ j=>cases hd)
   rwa [eq] at this
theorem qa {g N:Nat} {vs:List Value} {es:List (List Int)} {ty:TypeId} (hg:H g=some (.cells vs.toArray ty (0,0))) (hr:∀(i:Nat) (v:Value) (e:List Int),vs[i]?=some v->es[i]?=some e->RowI H v e) (hv:vs.length=N) (he:es.length=N) (hw:∀g ob,H g=some ob->w.heap[g]?=some ob) (hm:∀g,H g≠none->m g=none):
 Rd m w (.slice (some ⟨g,0,none⟩) N N) (.sl false 1 (es.map rI) none):=by
 have hh:=hw g _ hg;have hmg:=hm g (by rw[hg];exact fun h=>by cases h);have:=Rd.sl (m:=m) (w:=w) g 0 N 1 (es.map rI) none (fun k=>(vs[k]?).getD Go.undef) (ae hh) (by rw[eq];omega) (fun i e hi=>by
  rw[U5,U9] at hi;obtain⟨n,_,rfl⟩:=hi;rfl) (fun k hk=>by
  rw[eq,Vq] at hk;rw[Vt,Box.cell hh,Xe,io (by omega)];rfl) (fun fr hf=>by rw[hmg] at hf;cases hf) (fun i e hi j d hd=>by
  rw[U5,U9] at hi;obtain⟨n,hn,rfl⟩:=hi;cases j with
  |zero=>cases hd;have hil:=(Io.1 hn).1;rw[Vq,Wj,io (by omega)];exact FL (hr i _ n (io (by omega)) hn) hw hm
  |succ j=>cases hd)
 rwa [eq,he] at this
theorem Cg (hH:HQ ao ln cp C gP bD gR gS vR vS R S H) (hw:∀g ob,H g=some ob->w.heap[g]?=some ob) (hm:∀g,H g≠none->m g=none) (hk:Rd m w (.slice ao ln cp) (.sl false 3 (C.map aa) none)):Rd m w (.pointer (some ⟨bD,0,none⟩)) (jR (C,R,S)):=by
 have hbD:=hw bD _ hH.d;have hmD:=hm bD (by rw[hH.d];exact fun h=>by cases h);obtain⟨ents,clock,hp,hMX,hMb,hMn⟩:=hH.p;have hbP:=hw gP _ hp;have hmP:=hm gP (by rw[hp];exact fun h=>by cases h);have rfm:Rd m w (.map (some gP)) (.fm (ksI (plI 0 C)) (vsI (plI 0 C))):=by
  refine MapAt.freeze (m:=aD m gP (some 0)) ⟨ents,clock,hbP,hMX _ _,hMb,hMn,ai _ _ _⟩ ⟨Vb _,fun _ _ _ _ _ h=>h,fun b _ fr' hf=>?_,fun _ _ _ _ h=>h⟩ hmP;by_cases e:b=gP
  . rw[e,hmP] at hf;cases hf
  . exact⟨fr',by rw[ah _ _ e];exact hf,Vb _⟩
 have hlen:R.length=vR.length:=by rw[hH.lR,hH.lvR]
 have rR:=qa (m:=m) hH.r (fun i v e hi he=>hH.rows.row i v e (by rw[Vg (Io.1 hi).1];exact hi) (by rw[Vg (Io.1 he).1];exact he)) hH.lvR hH.lR hw hm;have rS:=qa (m:=m) hH.s (fun i v e hi he=>hH.rows.row (vR.length+i) v e (by rw[Vs (by omega),W5];exact hi) (by rw[Vs (by omega),show vR.length+i-R.length=i by omega];exact he)) hH.lvS hH.lS hw hm;refine .ip bD 0 _ (fun k=>(#[Value.slice ao ln cp,.map (some gP),.slice (some ⟨gR,0,none⟩) C.length C.length,.slice (some ⟨gS,0,none⟩) C.length C.length][k]?).getD Go.undef) (ae hbD) (fun k hk=>?_) (fun fr hf=>by rw[hmD] at hf;cases hf) (fun k d hk'=>?_)
 . rw[Vt,Box.cell hbD];have hk4:k<4:=hk;rw[Vn (by simpa using hk4)];rfl
 . rcases k with _|_|_|_|k
   . cases hk';exact hk
   . cases hk';exact rfm
   . cases hk';exact rR
   . cases hk';exact rS
   . cases hk'
theorem QI {w1:World} {a:Act} {H:Nat->Option Obj} (hn:C.Nodup) (h400:C.length<=400) (hsz:l≠[]->sz=20) (hl4:l.length<=400) (hcnt:∀e∈l,jF e.2.2.1<=400) (hkey:∀c∈C,cB (aj l) c=true)
 (hH:HQ ao ln cp C gP bD gR gS (List.replicate C.length (.slice none 0 0)) (List.replicate C.length (.slice none 0 0)) (List.replicate C.length []) (List.replicate C.length []) H) (h1:HoldH aW 118 ⟨Kno.rd (.slice ao ln cp) (.sl false 3 (C.map aa) none),fun _=>true,#[],m,w⟩ H (aq [(0,.sl nl sz (l.map bK) none),(3,.fm (ksI (aj l)) (vsI (aj l))),(4,.x (.pointer (some ⟨bD,0,none⟩)))] []) a w1):
 rm.wpIn (be none) 0 aW.P (fun e a' w'=>(e=Exit.normal∨e=Exit.ret)∧∃P' st',Hold aW 118 1 ⟨Kno.top,fun _=>true,#[],m,w⟩ P' st' a' w'∧eY aW st' Tryz.f9.results.toList=some (jR (C,(eV l C C.length).1,(eV l C C.length).2))) a w1:=by
 have hE:=ep;have hm:=ko;refine wpIn_seq (wpIn_seq (wpIn_region ?_));obtain⟨fs,fd,f1,f2,f3,f4⟩:=je 0 (by decide);have t4:a.eval (.tmp 4)=(.pointer (some ⟨bD,0,none⟩)):=h1.read_x 4 (by simp only[go_sem,St.put,Nat.reduceEqDiff,Vc,Vi,bL,aq]);have hbD:=h1.at hH.d;refine cC (i:=0) (rest:=[1,2,3,4,5]) (d:=54) rfl (fun c e=>by cases e) rfl (by decide) rfl rfl h1 (bp rfl t4) ?_;intro a1 h6;refine cC (i:=1) (rest:=[2,3,4,5]) (d:=55) rfl (fun c e=>by cases e) rfl (by decide) rfl rfl h6 (du (p:=⟨bD,0,none⟩) rfl (h6.read_x 54 (v:=(.pointer (some ⟨bD,0,none⟩))) (by simp only[go_sem,St.put,Nat.reduceEqDiff,Vc,Vi,bL,aq]))) ?_;intro a2 h7;refine cC (i:=2) (rest:=[3,4,5]) (d:=56) rfl (fun c e=>by cases e) rfl (by decide) rfl rfl h7 (bT rfl f1 f2 f4 (by decide) (h7.read_x 55 (v:=(.pointer (some ⟨bD,0,none⟩))) (by simp only[go_sem,St.put,Nat.reduceEqDiff,Vc,Vi,bL,aq])) (by rw[f3])) ?_;intro a3 h8;refine cC (i:=3) (rest:=[4,5]) (d:=57) rfl (fun c e=>by cases e) rfl (by decide) rfl rfl h8 (cd (v:= .slice ao ln cp) rfl (by kernel_rfl) (h8.read_x 56 (v:=(.pointer (some ⟨bD,0,none⟩))) (by simp only[go_sem,St.put,Nat.reduceEqDiff,Vc,Vi,bL,aq])) ((Box.cell hbD _).trans rfl)) ?_;intro a4 h9;have h10:=h9.know (d:=57) (u:= .sl false 3 (C.map aa) none) (by decide) (fun m hk=>by rw[show a4.tmps.getD 57 Go.undef= .slice ao ln cp from h9.read_x 57 (by simp only[go_sem,St.put,Nat.reduceEqDiff,Vc,Vi,bL,aq])];exact hk)
 rw[dc] at h10;clear h1 h6 h7 h8 h9 t4 hbD a a1 a2 a3;refine rc hE 4 2 [(0,.sl nl sz (l.map bK) none),(3,.fm (ksI (aj l)) (vsI (aj l))),(4,.x (.pointer (some ⟨bD,0,none⟩))),(57,.sl false 3 (C.map aa) none),(58,.x (.int .i64 (C.length:Int))),(59,.x (.int .i64 ((0:Nat):Int)))] [] [] (by decide) (by kernel_rfl) (by kernel_rfl) h10 (by simp +decide (maxDischargeDepth:=200) only[go_sem,aW,Nat.reduceBEq,St.put,eq,VO]<;>(repeat' first|rfl|constructor)) ?_;clear h10 a4;intro a w6 h6;refine wpIn_block ?_;refine ce (X:={i:Nat//i<=C.length}) (fun i a' w'=>∃H vR vS,HQ ao ln cp C gP bD gR gS vR vS (eV l C i.1).1 (eV l C i.1).2 H∧HoldH aW 118 ⟨Kno.rd (.slice ao ln cp) (.sl false 3 (C.map aa) none),fun _=>true,#[],m,w⟩ H (aq [(0,.sl nl sz (l.map bK) none),(3,.fm (ksI (aj l)) (vsI (aj l))),(4,.x (.pointer (some ⟨bD,0,none⟩))),(57,.sl false 3 (C.map aa) none),(58,.x (.int .i64 (C.length:Int))),(59,.x (.int .i64 ((i.1:Nat):Int)))] []) a' w') (fun i=>C.length-i.1) ⟨0,VJ _⟩ ⟨H,_,_,hH,h6⟩ ?_;clear h6 a w6 hH H w1;rintro⟨i,hi0⟩ a w6 ⟨H,vR,vS,hH,h1⟩;simp only at hi0 hH h1⊢;by_cases hi:i<C.length
 . have c1:decide ((i:Int)<(C.length:Int))=true:=iO (by omega);have c4:=aF (i:=i) (by omega);have q1:C[i]?=some C[i]:=io hi;refine wpIn_seq (fY hE hm [(0,.sl nl sz (l.map bK) none),(3,.fm (ksI (aj l)) (vsI (aj l))),(4,.x (.pointer (some ⟨bD,0,none⟩))),(57,.sl false 3 (C.map aa) none),(58,.x (.int .i64 (C.length:Int))),(59,.x (.int .i64 (i:Int))),(60,.x (.bool true))] [] (by kernel_rfl) (by kernel_rfl) h1 (by simp +decide (maxDischargeDepth:=200) only[go_sem,aW,Nat.reduceBEq,c1]<;>(repeat' first|rfl|constructor)) ?_);clear h1 a w6;intro a w6 h1;refine wpIn_seq (fY hE hm [(0,.sl nl sz (l.map bK) none),(3,.fm (ksI (aj l)) (vsI (aj l))),(4,.x (.pointer (some ⟨bD,0,none⟩))),(57,.sl false 3 (C.map aa) none),(58,.x (.int .i64 (C.length:Int))),(59,.x (.int .i64 (i:Int)))] [] (by kernel_rfl) (by kernel_rfl) h1 (by simp +decide (maxDischargeDepth:=200) only[go_sem,aW,Nat.reduceBEq]<;>(repeat' first|rfl|constructor)) ?_);clear h1 a w6;intro a w6 h1;refine wpIn_seq (QH hn q1 h400 hsz hl4 hcnt (hkey _ (V4 hi)) hH h1 ?_);clear h1 a w6;intro a w6 H2 vR2 vS2 hH2 h1;refine fY hE hm [(0,.sl nl sz (l.map bK) none),(3,.fm (ksI (aj l)) (vsI (aj l))),(4,.x (.pointer (some ⟨bD,0,none⟩))),(57,.sl false 3 (C.map aa) none),(58,.x (.int .i64 (C.length:Int))),(59,.x (.int .i64 ((i+1:Nat):Int)))] [] (by kernel_rfl) (by kernel_rfl) h1 (by simp +decide (maxDischargeDepth:=200) only[go_sem,aW,Nat.reduceBEq,c4]<;>(repeat' first|rfl|constructor)) ?_;intro a8 w8 h8;exact⟨⟨i+1,hi⟩,⟨H2,vR2,vS2,hH2,h8⟩,by simp only;omega⟩
 . have c1:decide ((i:Int)<(C.length:Int))=false:=tl (by omega);have e:i=C.length:=by omega
   subst e;refine wpIn_seq (fY hE hm [(4,.x (.pointer (some ⟨bD,0,none⟩))),(60,.x (.bool false))] [] (by kernel_rfl) (by kernel_rfl) h1 (by simp +decide (maxDischargeDepth:=200) only[go_sem,aW,Nat.reduceBEq,c1]<;>(repeat' first|rfl|constructor)) ?_);clear h1 a w6;intro a w6 h1;refine wpIn_seq (Iv hE hm 2 [(4,.x (.pointer (some ⟨bD,0,none⟩)))] [] (by kernel_rfl) (by kernel_rfl) h1 (by simp +decide (maxDischargeDepth:=200) only[go_sem,aW,Nat.reduceBEq]<;>(repeat' first|rfl|constructor)) ?_);clear h1 a w6;intro a w6 h1;refine wpIn_seq (fY hE hm [(2,.x (.pointer (some ⟨bD,0,none⟩)))] [] (by kernel_rfl) (by kernel_rfl) h1 (by simp +decide (maxDischargeDepth:=200) only[go_sem,aW,Nat.reduceBEq]<;>(repeat' first|rfl|constructor)) ?_);clear h1 a w6;intro a w6 h1;have e2:a.tmps.getD 2 Go.undef=(.pointer (some ⟨bD,0,none⟩)):=h1.read_x 2 (by simp only[go_sem,St.put,Nat.reduceEqDiff,Vc,Vi,bL,aq]);have h2:Hold aW 118 1 ⟨Kno.rd (.pointer (some ⟨bD,0,none⟩)) (jR (C,(eV l C C.length).1,(eV l C C.length).2)),fun _=>true,#[],m,w⟩ [] (aq [(2,.x (.pointer (some ⟨bD,0,none⟩)))] []) a w6:=HoldH.done h1 (fun m hm hk=>Cg hH (fun g ob h=>h1.at h) hm hk);obtain⟨m2,O2,gs,r1,r2,r3,r4,r5,r6,r7⟩:=h2;have r8:=r1.learn (d:=2) (by decide) (u:=(jR (C,(eV l C C.length).1,(eV l C C.length).2))) (by rw[e2];exact r6);exact wpIn_ret ⟨.inr rfl,[],_,⟨m2,O2,gs,r8,r2,r3,r4,r5,trivial,r7⟩,by simp +decide (maxDischargeDepth:=200) only[go_sem,aW,jR]⟩
theorem xO:∀n:Nat,n<=l.length->cB (aj (l.take n)) c=true->∃e∈l,e.1=c:=by
 intro n
 induction n with
 |zero=>intro _ h;simp[aj,jQ,cB,gN] at h
 | succ n ih=>
   intro hn h;have q1:l[n]?=some l[n]:=io (by omega);have e:aj (l.take (n+1))=fT (aj (l.take n)) (l[n]).1 ((n:Nat):Int):=by unfold aj;rw[aS q1,eF,Vj,Vt,WR (by omega)]
   rw[e] at h;by_cases hc:c=(l[n]).1
   . exact⟨_,V4 _,hc.symm⟩
   . exact ih (by omega) (ro _ _ _ _ hc h)
theorem qb (h:c∈(aj l).map fun p=>p.1):∃e∈l,e.1=c:=
 xO l.length (Vb _) (by rw[Ww];exact cZ.2 h)
theorem dw (L:List CI):(bh L).Nodup:=(lc L).imp fun {a b} h e=>by subst e;rw[bH.irr] at h;cases h
def IN (p:ES):Prop:=EN p∧∀e∈p.2.2,e.1.1.size<=281474976710656
def it (l:List En):PD:=(bh (aj l),(eV l (bh (aj l)) (bh (aj l)).length).1,(eV l (bh (aj l)) (bh (aj l)).length).2)
open Classical in
noncomputable def FN (p:ES):Option V:=if IN p then some (jR (it p.2.2)) else none
theorem uQ (h:l.length<=400):(aj l).length<=400:=by
 have:=dY (l':=l.map fun e=>e.1) (jC l) (fun c hc=>by obtain⟨e,he,rfl⟩:=qb hc;exact U7.2 ⟨e,he,rfl⟩)
 simp only[eq] at this;omega
theorem uR (h:l.length<=400):(bh (aj l)).length<=400:=by have h1:=uQ h;have:=dY (l':=(aj l).map fun p=>p.1) (dw _) (fun c hc=>(gO _ _).1 hc);rw[eq] at this;omega
theorem uS:bM 9 (FE cf FN):=by
 refine uq (E:=aW) (n:=118) (sz:=1) (k:=1) Tryz.func9 rfl (fun a w=>Tryz.call9 a w) Tryz.ntmps9 (by decide) (by decide) ?_;intro us r m w a hF hdat h0;obtain⟨⟨nl,sz,l⟩,hus,hG⟩:=aZ hF;clear hF;subst hus;unfold FN at hG;split at hG
 case isFalse=>cases hG
 rename_i hok;cases hG;obtain⟨⟨hsz,hl4,hcnt⟩,hs8⟩:=hok;simp only at hsz hl4 hcnt hs8;replace h0:=h0 rfl;refine⟨rfl,?_⟩;have h400:=uR hl4;have hn:=dw (aj l);have hso:FB (aj l):=⟨jC l,uQ hl4,fun p hp=>by obtain⟨e,he,h⟩:=qb (l:=l) (c:=p.1) (U7.2 ⟨p,hp,rfl⟩);rw[<-h];exact hs8 e he⟩
 refine QB (nl:=nl) (sz:=sz) (l:=l) ⟨hsz,hl4⟩ hs8 rfl h400 hn hso h0 (fun v15 gP bD H a' w' hHP h=>?_);obtain⟨ao,ln,cp,rfl⟩:∃ao ln cp,v15= .slice ao ln cp:=by obtain⟨m',O',_,_,_,_,q6,_⟩:=h;exact uF q6
 refine QC h400 hHP h (fun gR gS H' a2 w2 hHQ h2=>?_);exact QI hn h400 hsz hl4 hcnt (fun c hc=>cZ.2 ((gO _ _).1 hc)) hHQ h2
end Go.Proofs.YtalkmhjanlljhaaGreat

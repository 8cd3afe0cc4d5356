/- Chapter 12: package deps: the cells of a map, sorted. -/
import Derived.Test.YtmfojhkjbkombaaGreatMQ
import Derived.Test.YtmfojhkjbkombaaGreatMH
import Derived.Test.YtmfojhkjbkombaaGreatMU
import Derived.Test.YtmfojhkjbkombaaGreatMD
namespace Go.Proofs.YtmfojhkjbkombaaGreat
set_option linter.unusedSimpArgs false
set_option maxHeartbeats 16000000
set_option maxRecDepth 100000
open Go Go.RowKit
open Go.Sort (PermIn SortedIn)
open Go.ChangeMaps (setBlock)
attribute [go_sem] Tryz.results32 Tryz.results46
def bR (L:List CI):List C3:=(L.map fun p=>p.1).foldl aQ []
theorem kE (L:List CI):iD ae (bR L):=nO _ List.Pairwise.nil
theorem gE (L:List CI) (c:C3):c∈bR L↔c∈L.map fun p=>p.1:=by unfold bR;rw[Gs];simp
def me (L:List CI):List V:=[.fm (ksI L) (vsI L)]
theorem DE (p q:List CI) (e:me p=me q):p=q:=by
 simp only[me,Zb,V.fm.injEq,Z7] at e;obtain⟨h1,h2⟩:=e;have h3:(p.map fun p=>p.1)=q.map fun p=>p.1:=aZ cF h1
 have h4:(p.map fun p=>p.2)=q.map fun p=>p.2:=by
  have e1:∀L:List CI,vsI L=(L.map fun p=>p.2).map fun i=>V.x (.int .i64 i):=fun L=>by unfold vsI;rw[ZT];rfl
  rw[e1,e1] at h2;exact aZ (fun a b e=>by cases e;rfl) h2
 apply ZO;intro i;have a1:=aap (fun l=>l[i]?) h3;have a2:=aap (fun l=>l[i]?) h4;simp only[Io] at a1 a2;cases hp:p[i]? with
 | none=>rw[hp] at a1;cases hq:q[i]? with
   |none=>rfl
   |some y=>rw[hq] at a1;cases a1
 | some y=>rw[hp] at a1 a2;cases hq:q[i]? with
   |none=>rw[hq] at a1;cases a1
   |some z=>rw[hq] at a1 a2;obtain⟨y1,y2⟩:=y;obtain⟨z1,z2⟩:=z;simp only[Zk,Y8] at a1 a2;rw[a1,a2]
def HT (L:List CI):Prop:=vj L∧L.length<=400∧∀p∈L,p.1.1.size<=281474976710656
open Classical in
noncomputable def Oy (L:List CI):Option V:=if HT L then some (.sl false 3 ((bR L).map aa) none) else none
def XM:V->C3
 | .agg [.x (.string s),.x (.int _ c),.x (.int _ r)]=>(s,c,r)
 |_=>(⟨#[]⟩,0,0)
def rM (sp:List (MapEntry×V)):Nat:=if sp.isEmpty then 8 else 18
theorem DF (sp:List (MapEntry×V)) (p:MapEntry×V):rM (sp++[p])=18:=by unfold rM;cases sp<;>rfl
def Kno.map (g:Nat) (ents:Array MapEntry) (clock:Nat):Kno:=⟨fun m w=>w.heap[g]?=some (.map ents clock)∧m g=none,fun _ _ _ _ h he=>⟨he.map _ _ _ h.2 h.1,he.noLim (dv h.1) h.2⟩⟩
theorem ow:EnvOK (aV [(61,bY)] (fun _=>false) [] (fun i=>i==3) (fun _=>false)):=fQ _ _ _ _ _ ⟨pQ,trivial⟩ trivial
theorem DG:∀l:List V,(∀k∈l,∃p:C3,k=aa p)->∃ss:List C3,l=ss.map aa:=by
 intro l
 induction l with
 |nil=>exact fun _=>⟨[],rfl⟩
 |cons x l ih=>intro h;obtain⟨ss,rfl⟩:=ih (fun k hk=>h k (YY _ hk));obtain⟨s,rfl⟩:=h x (Zc ..);exact⟨s::ss,rfl⟩
def SZ:Option Code->Code
 |some (Code.seq _ (Code.seq _ (Code.seq _ c)))=>c
 |_=>Code.skip
noncomputable def S2:Code:=SZ Tryz.f46.body
theorem pb:∀{a b:List C3},(a.map aa).Perm (b.map aa)->a.Perm b:=by
 intro a b h;have e:∀l:List C3,(l.map aa).map XM=l:=fun l=>by
  rw[ZT]
  conv=>rhs;rw[<-List.map_id l]
  exact aad fun p _=>rfl
 have:=h.map XM
 rwa [e,e] at this
def AV (L:List CI):Prop:=∀(m:Lim) (w:World) (a':Act) (w':World) (l:List C3) (tok:Nat),l.Perm (L.map fun p=>p.1)->One (aV [(61,bY)] (fun _=>false) [] (fun i=>i==3) (fun _=>false)) 40 ⟨[],Kno.top,fun _=>true,#[],fun _=>False,m,w⟩ (au [(3,.ptr 3 0)] [(3,[.sl false 3 (l.map aa) (some tok)])]) a' w'->S2.wpIn (bo none) 0 Tryz.prog (fun e a' w'=>(e=Exit.normal∨e=Exit.ret)∧∃D' Kn W' t' st',One (aV [(61,bY)] (fun _=>false) [] (fun i=>i==3) (fun _=>false)) 40 ⟨D',Kn,W',t',fun _=>False,m,w⟩ st' a' w'∧dZ (aV [(61,bY)] (fun _=>false) [] (fun i=>i==3) (fun _=>false)) st' Tryz.f46.results.toList=some (.sl false 3 ((bR L).map aa) none)) a' w'
theorem DH (hrest:∀L,HT L->AV L):cM 46 (FE me Oy):=by
 have hE:EnvOK (aV [(61,bY)] (fun _=>false) [] (fun i=>i==3) (fun _=>false)):=ow;have hm:(aV [(61,bY)] (fun _=>false) [] (fun i=>i==3) (fun _=>false)).P.follows .mixedOrders=true:=A0a
 refine xN (E:=(aV [(61,bY)] (fun _=>false) [] (fun i=>i==3) (fun _=>false))) (n:=40) (k:=1) hE Tryz.func46 rfl (fun a w=>Tryz.call46 a w) Tryz.ntmps46 A0c A0c ?_;intro us r m w a hF hdat h0;obtain⟨L,hus,hG⟩:=bE hF;clear hF;subst hus;unfold Oy at hG;split at hG
 case isFalse=>cases hG
 rename_i hok;cases hG;have hrest:=hrest L hok;obtain⟨hn,h400,hsz⟩:=hok;replace h0:=h0 rfl;refine⟨rfl,?_⟩;simp only[me] at h0;refine wpIn_seq (Sk hE hm [(0,.fm (ksI L) (vsI L))] [] A0a h0 A0f ?_);clear h0 a;intro a w1 h1;refine wpIn_seq (wpIn_region ?_);refine F9 hE 0 1 [(0,.fm (ksI L) (vsI L)),(6,.fm (ksI L) (vsI L))] [] [1,2,3,4] A0c A0a h1 A0f ?_;clear h1 a w1;intro a w1 h1;obtain⟨g,ents,clock,he6,hh1,hrd1,hlt,hnd⟩:∃g ents clock,a.tmps.getD 6 Go.undef= .map (some g)∧w1.heap[g]?=some (.map ents clock)∧ents.size=L.length∧(∀e∈ents.toList,e.born<clock)∧(ents.toList.map (·.born)).Nodup:=by obtain⟨m1,O1,hn1,_⟩:=h1;have hrd:=ib hn1 6 (u:= .fm (ksI L) (vsI L)) A0i rfl;obtain⟨g,ents,clock,e,q1,q2,q3,q4,_⟩:=hrd.fm_at;refine⟨g,ents,clock,e,q1,?_,q3,q4⟩;have:=q2.len.1;simp only[ksI,eq,YW] at this;exact this
 refine KS (i:=1) (rest:=[2,3,4]) (d:=7) rfl (fun c e=>by cases e) rfl A0c rfl rfl h1 (.int .i64 (ents.size:Int)) ?_ ?_
 . have e6:a.eval (.tmp 6)= .map (some g):=he6;have hu:Tryz.prog.underlying 77=some (.map (Tryz.prog.mapKeyOf 77) (Tryz.prog.mapElemOf 77)):=A0a
   have hl:=run_len_map (P:=Tryz.prog) w1 77 3 g ents clock hu hh1;simp only[execOp,resolve,Sem.run_bind,Sem.run_pure,Result.andThen_ok,invoke,builtin,List.map_toArray,Y0,aah,e6,Ai,jN];rw[hl];rfl
 clear h1;intro a2 h1 ha2;rw[hrd1] at h1;have c0:(0:Int)<=(L.length:Int):=A0b
 have c1:(16*2:Int)*(L.length:Int)<=281474976710656:=A0b
 have c6:(L.length:Int)<=9223372036854775807:=A0b
 have c7:((32:Nat):Int)*(L.length:Int)<=281474976710656:=A0b
 refine F9 hE 2 3 [(0,.fm (ksI L) (vsI L)),(3,.ptr 3 0)] [(3,[.sl false 3 [] (some 8)])] [] A0c A0a h1 (by simp +decide (maxDischargeDepth:=200) only[go_sem,Nat.reduceBEq,St.put,c0,c6,c7]<;>(repeat' first|rfl|constructor)) ?_;clear h1 hh1 he6 ha2 a a2 w1 hlt hnd hrd1 ents clock g;intro a w1 h1;refine wpIn_seq (wpIn_seq (wpIn_region ?_));refine F9 hE 0 1 [(3,.ptr 3 0),(9,.fm (ksI L) (vsI L))] [(3,[.sl false 3 [] (some 8)])] [1] A0c A0a h1 A0f ?_;clear h1 a w1;intro a w1 h1;obtain⟨m1,O1,hn1,g2,g3,g4,g5,g6⟩:=h1;obtain⟨g,ents,clock,he9,hh1,hrd1,hlt,hnd,hmg⟩:=(ib hn1 9 (u:= .fm (ksI L) (vsI L)) A0i rfl).fm_at;rw[wpOpsIn_cons];have he9':a.eval (.tmp 9)= .map (some g):=he9
 refine km (v:= .pointer (some ⟨w1.heap.size,0,none⟩)) (w':=w1.alloc (.mapIter (some g) clock #[] clock)) rfl rfl A0R (by simp only[execOp,he9',Sem.run_bind,o0 (P:=Tryz.prog) Tryz.underlying77 hh1,Result.andThen_ok,Sem.run_pure,jN]) ?_
 have hbl:Below w1.heap.size w1 (w1.alloc (.mapIter (some g) clock #[] clock)):=(Below.refl _ w1).alloc (YJ _) _;have hst:Step (fun _=>False) m1 w1 m1 (w1.alloc (.mapIter (some g) clock #[] clock)):=Step.of_below hbl (fun _ _=>rfl);have hJ1:(aV [(61,bY)] (fun _=>false) [] (fun i=>i==3) (fun _=>false)).J (w1.alloc (.mapIter (some g) clock #[] clock)):=hE.keep [] _ _ (fun x hx=>by cases hx) hn1.J ⟨hbl.os,hbl.tape,hbl.output,hbl.size,fun k hk _=>hbl.block k hk⟩;have hKr:(aV [(61,bY)] (fun _=>false) [] (fun i=>i==3) (fun _=>false)).K<=w1.heap.size:=hE.high _ hn1.J;have hws:w.heap.size<=w1.heap.size:=g3.ext.size;have hgr:g≠w1.heap.size:=by have:=ai hh1;omega
 have h2:=OneG.after (E:=(aV [(61,bY)] (fun _=>false) [] (fun i=>i==3) (fun _=>false))) (n:=40) (Kn':=Kno.map g ents clock) (d:=10) (g:=w1.heap.size) (ob:= .mapIter (some g) clock #[] clock) A0c (v:= .pointer (some ⟨w1.heap.size,0,none⟩)) hn1 g2 g3 g4 g6 rfl hst hJ1 ⟨(Below.heap_alloc _ _ _ (ai hh1)).trans hh1,by rw[ag _ _ hgr];exact hmg⟩ (YJ _) (World.heap_new _ _);generalize w1.heap.size=rr at h2 hKr hws hgr;generalize w1.alloc _=w2 at h2⊢;clear hst hJ1 hbl hn1 g2 g3 g4 g5 g6 he9 he9' hmg;replace h2:=h2.le (st':=au [(3,.ptr 3 0),(10,.x (.pointer (some ⟨rr,0,none⟩)))] [(3,[.sl false 3 [] (some 8)])]) (aJ A0K A0K);obtain⟨ps,hps⟩:∃ps,ps=ents.toList.zip (ksI L):=⟨_,rfl⟩;have hlen:=hrd1.len.1;have hp1:ps.map (fun p=>p.1)=ents.toList:=by rw[hps];exact List.map_fst_zip A0b
 have hp2:ps.map (fun p=>p.2)=ksI L:=by rw[hps];exact List.map_snd_zip A0b
 have hpb:(ps.map fun p=>p.1.born).Nodup:=by
  have:(ps.map fun p=>p.1.born)=(ps.map fun p=>p.1).map (·.born):=by rw[ZT];rfl
  rw[this,hp1];exact hnd
 have hpk:∀p∈ps,p.2.val=some p.1.key:=fun p hp=>by obtain⟨i,hi⟩:=ZW hp;rw[hps,abl] at hi;obtain⟨k,v,q1,_,q2,_⟩:=hrd1.get i p.1 hi.1;rw[q1] at hi;cases hi.2;exact q2.2
 have hks:∀k∈ksI L,∃p:C3,k=aa p:=fun k hk=>by obtain⟨p,_,rfl⟩:=YR.1 hk;exact⟨p,rfl⟩
 clear hrd1 hh1;refine(show wpOpsIn (bo none) 0 _ _ _ [] _ _ from ?_);refine wpIn_block ?_;refine dE (X:=List (MapEntry×V)) (fun sp a' w'=>(∀p∈sp,p∈ps)∧(sp.map fun p=>p.1.born).Nodup∧OneG (aV [(61,bY)] (fun _=>false) [] (fun i=>i==3) (fun _=>false)) 40 ⟨[],Kno.map g ents clock,fun _=>true,#[],fun _=>False,m,w⟩ (au [(3,.ptr 3 0),(10,.x (.pointer (some ⟨rr,0,none⟩)))] [(3,[.sl false 3 (sp.map fun p=>p.2) (some (rM sp))])]) a' w' rr (.mapIter (some g) clock (sp.map fun p=>p.1.born).toArray clock) (some 0)) (fun sp=>(ents.toList.filter fun e=> !(sp.map fun p=>p.1.born).contains e.born).length) [] ⟨(fun p hp=>by cases hp),ZD,h2⟩ ?_;clear h2 w2 a w1;rintro sp a2 w2 ⟨hsub,hspn,h2⟩;refine wpIn_seq (wpIn_region ?_);show wpOpsIn (bo none) 0 _ _ _ (0::List.range' 1 1++[]) _ _;rw[Zz,wpOpsIn_cons];have h2':=h2;obtain⟨m2,O2,hn2,-,-,-,⟨k6,-⟩,-,-,k8,-⟩:=h2';have he10:a2.eval (.tmp 10)= .pointer (some ⟨rr,0,none⟩):=hn2.read_x 10 A0i;have hcont:∀b:Nat,((sp.map fun p=>p.1.born).toArray.contains b)=(sp.map fun p=>p.1.born).contains b:=fun b=>by simp
 rcases run_next_at (P:=Tryz.prog) w2 0 rr g clock clock _ ents clock k8 k6 hlt (YJ _) with⟨hz,hrun⟩|⟨e,he,w3,hw3,hrun⟩
 . --nothing is left
   refine km (v:= .tuple #[.bool false]) (w':=w2) rfl rfl A0R A07 ?_;have h3:=OneG.putV (d:=11) (v:= .tuple #[.bool false]) (u:= .tup [.x (.bool false)]) A0c rfl h2 (fun _ _=>Rd.tup_iff.2 ⟨_,rfl,.x _,trivial⟩);rw[f9] at h3;refine jf hE 1 1 [(3,.ptr 3 0),(12,.x (.bool false))] [(3,[.sl false 3 (sp.map fun p=>p.2) (some (rM sp))])] [] A0c A0a A0a h3 A0f ?_;clear h3 h2 hn2;intro a3 w3 h3;refine wpIn_seq (AH hE hm 0 [(3,.ptr 3 0)] [(3,[.sl false 3 (sp.map fun p=>p.2) (some (rM sp))])] A0a A0a h3 A0f ?_);clear h3 a3 w3;intro a3 w3 h3;have hperm:sp.Perm ps:=Gb hpb hsub hspn (fun p hp=>by
    have hz':Go.leftOf ents (sp.map fun p=>p.1.born).toArray= #[]:=aaA hz;have:p.1∈ents.toList:=by rw[<-hp1];exact YR.2 ⟨p,hp,rfl⟩
    unfold Go.leftOf at hz';rw[Array.filter_eq_empty_iff] at hz';have:=hz' p.1 (by simpa using this);rw[hcont] at this;simpa using this)
   have hpk2:(sp.map fun p=>p.2).Perm (ksI L):=by rw[<-hp2];exact hperm.map _
   obtain⟨l,hl⟩:=DG (sp.map fun p=>p.2) (fun k hk=>hks k (hpk2.mem_iff.1 hk));have hlp:l.Perm (L.map fun p=>p.1):=by rw[hl] at hpk2;exact pb hpk2
   have h4:=h3.one;rw[hl] at h4;obtain⟨m4,O4,r1,r2,r3,r4,_,r6⟩:=h4;exact hrest m w a3 w3 l (rM sp) hlp ⟨m4,O4,r1,r2,r3,r4,trivial,r6⟩
 . --an entry has come
   obtain⟨hem,hnew⟩:=mem_left he;rw[hcont] at hnew;obtain⟨pe,hpe,rfl⟩:∃p∈ps,p.1=e:=by rw[<-hp1] at hem;obtain⟨p,hp,rfl⟩:=YR.1 hem;exact⟨p,hp,rfl⟩
   obtain⟨e,kv⟩:=pe;simp only at hem hnew hrun;have hkey:=hpk _ hpe;simp only at hkey;have hkin:kv∈ksI L:=by rw[<-hp2];exact YR.2 ⟨_,hpe,rfl⟩
   obtain⟨pc,rfl⟩:=hks kv hkin;have hkrd:∀(m:Lim) (w:World),Rd m w e.key (aa pc):=fun m w=>by have hk2:(aa pc).val=some e.key:=hkey;simp only[V.val,aa,aaG,V.one,List.mapM_nil,abr,aaY,Z0,Zk,Y8] at hk2;rw[<-hk2];exact Rd.agg_iff.2 ⟨_,rfl,.x _,.x _,.x _,trivial⟩
   have hseen:(sp.map fun p=>p.1.born).toArray.push e.born=((sp++[(e,aa pc)]).map fun p=>p.1.born).toArray:=A0j
   rw[hseen] at hrun;have hs3:Step (fun k=>k=rr) m2 w2 m2 (setBlock w3 rr (.mapIter (some g) clock ((sp++[(e,aa pc)]).map fun p=>p.1.born).toArray clock)):=Step.iter hw3 k8;have hr3:=oZ (o:= .mapIter (some g) clock ((sp++[(e,aa pc)]).map fun p=>p.1.born).toArray clock) hw3 k8;refine km (v:= .tuple #[.bool true,e.key,e.val]) (w':=setBlock w3 rr (.mapIter (some g) clock ((sp++[(e,aa pc)]).map fun p=>p.1.born).toArray clock)) rfl rfl A0R A07 ?_;have h3:=(OneG.wrote hE h2 (fun l e=>by cases e) hws hKr (hs3.bel (fun k _ h=>YF.2 h)) hr3).putV (d:=11) (v:= .tuple #[.bool true,e.key,e.val]) (u:= .tup [.x (.bool true),.undef,.undef]) A0c rfl (fun _ _=>Rd.tup_iff.2 ⟨_,rfl,.x _,.undef _,.undef _,trivial⟩);rw[f9] at h3;clear hn2 h2 k6 k8 hs3 hr3 hrun he10 hw3;generalize setBlock w3 rr _=w4 at h3;refine jf hE 1 1 [(3,.ptr 3 0),(10,.x (.pointer (some ⟨rr,0,none⟩))),(12,.x (.bool true))] [(3,[.sl false 3 (sp.map fun p=>p.2) (some (rM sp))])] [] A0c A0a A0a h3 A0f ?_;clear h3;intro a3 w5 h3;refine wpIn_seq (ie hE hm [(3,.ptr 3 0),(10,.x (.pointer (some ⟨rr,0,none⟩)))] [(3,[.sl false 3 (sp.map fun p=>p.2) (some (rM sp))])] A0a A0a h3 A0f ?_);clear h3 a3 w5;intro a3 w5 h3;refine wpIn_block (wpIn_seq (wpIn_region ?_));show wpOpsIn (bo none) 0 _ _ _ (0::List.range' 1 3++[]) _ _;rw[Zz,wpOpsIn_cons];have h3':=h3;obtain⟨m5,O5,hn5,-,-,-,⟨k6,-⟩,-,-,k8,-⟩:=h3';have he10:a3.eval (.tmp 10)= .pointer (some ⟨rr,0,none⟩):=hn5.read_x 10 A0i;have hen:=run_entry_at (P:=Tryz.prog) w5 rr g clock (sp.map fun p=>p.1.born).toArray ents clock e (by rw[hseen];exact k8) k6 hem hnd;refine km (v:= .tuple #[e.key,e.val]) (w':=w5) rfl rfl A0R (by simp only[execOp,he10,Sem.run_bind,jN];rw[hen];rfl) ?_;have h4:=h3.putV (d:=13) (v:= .tuple #[e.key,e.val]) (u:= .tup [aa pc,.undef]) A0c rfl (fun _ _=>Rd.tup_iff.2 ⟨_,rfl,hkrd _ _,.undef _,trivial⟩);rw[f9] at h4;clear hn5 h3 k6 k8 he10 hen;refine jf hE 1 3 [(3,.ptr 3 0),(10,.x (.pointer (some ⟨rr,0,none⟩))),(4,.ptr 4 0)] [(3,[.sl false 3 (sp.map fun p=>p.2) (some (rM sp))]),(4,[.x (.string pc.1),.x (.int .i64 pc.2.1),.x (.int .i64 pc.2.2)])] [] A0c A0a A0a h4 (by simp +decide (maxDischargeDepth:=200) only[go_sem,Nat.reduceBEq,aa]<;>(repeat' first|rfl|constructor)) ?_;clear h4 a3 w5;intro a3 w5 h3;have hsub2:∀p∈sp++[(e,aa pc)],p∈ps:=fun p hp=>by
    rcases YM.1 hp with hp|hp
    . exact hsub p hp
    . rw[YF.1 hp];exact hpe
   have hspn2:((sp++[(e,aa pc)]).map fun p=>p.1.born).Nodup:=by
    rw[Y4,aaa];refine⟨hspn,A0j,fun b hb c hc e1=>?_⟩;have hc1:c=e.born:=by simpa using hc
    subst hc1;subst e1;have:(sp.map fun p=>p.1.born).contains e.born=true:=by simpa using hb
    rw[this] at hnew;cases hnew
   have hspl:sp.length<=400:=by
    have:=gw (g7 _ hspn) hsub;have h5:ps.length=L.length:=by have:=aap List.length hp2;simpa[ksI] using this
    omega
   have gg:=AS (E:=(aV [(61,bY)] (fun _=>false) [] (fun i=>i==3) (fun _=>false))) (el:=37) (n:=3) ns nt nu A0c rfl (es:=sp.map fun p=>p.2) (es':=[aa pc]) (m:=3) (fun _=>rfl) rfl (by simp only[eq,YI,Zd];omega) (by simp only[eq,YI,Zd];omega);simp only[aa] at gg;refine ie hE hm [(3,.ptr 3 0),(10,.x (.pointer (some ⟨rr,0,none⟩)))] [(3,[.sl false 3 ((sp.map fun p=>p.2)++[aa pc]) (some 18)])] A0a A0a h3 (by simp +decide (maxDischargeDepth:=200) only[go_sem,Nat.reduceBEq,aa,gg]<;>(repeat' first|rfl|constructor)) ?_;clear h3 a3 w5 gg;intro a3 w5 h3;refine⟨sp++[(e,aa pc)],⟨hsub2,hspn2,?_⟩,?_⟩
   . rw[DF,Y4];exact h3
   . refine lZ (fun e'=> !(sp.map fun p=>p.1.born).contains e'.born) (fun e'=> !((sp++[(e,aa pc)]).map fun p=>p.1.born).contains e'.born) (fun y hy=>?_) _ e hem (by rw[hnew];rfl) A0j;simp only[Y4,List.contains_append,Bool.not_or,YH] at hy;exact hy.1
variable {st:St}
theorem iW {val:Nat->Value} {ops:List Oper} {L k:Nat} (h:(ops.all fun o=>o.dst !=some k)=true):(uv st val ops L).t k=st.t k:=by
 show(if cI ops L k=true then V.x (val k) else st.t k)=_;rw[YL];unfold cI;intro hd;obtain⟨i,_,hi⟩:=Z2.1 hd;rw[YH] at hi;split at hi
 . rename_i o ho;have:=YK.1 h o (YB ho);rw[eq_of_beq hi.2] at this;simp at this
 . cases hi.2
def Xx (V0:Value) (g i:Nat) (s:ByteArray) (k:Nat):Value:=
 if k=28 then V0 else if k=29 then .int .i64 (i:Int) else if k=30 then V0 else if k=31 then .int .i64 (i:Int) else if k=34 then .string s else if k=35 then .string s else .pointer (some ⟨g,i*3,none⟩)
def S3:Nat->List Nat
 |4=>[30,31]
 |5=>[32]
 |6=>[33]
 |7=>[34]
 |8=>[28,29]
 |9=>[36]
 |10=>[35,37]
 |_=>[]
theorem DI (l:List C3):(l.flatMap cu).length=l.length*3:=by
 induction l with
 |nil=>rfl
 |cons c l ih=>rw[ZG,YD,ih,YI,show(cu c).length=3 from rfl];omega
theorem Oa:∃fs fd,Tryz.prog.underlying 37=some (.struct fs)∧fs[0]?=some fd∧fd.offset=0∧bm Tryz.prog fd.type=some 1:=⟨_,_,Tryz.underlying37,rfl,rfl,A0a⟩
theorem HU (L:List CI) (hok:HT L):AV L:=by
 have hE:EnvOK (aV [(61,bY)] (fun _=>false) [] (fun i=>i==3) (fun _=>false)):=ow;have hm:(aV [(61,bY)] (fun _=>false) [] (fun i=>i==3) (fun _=>false)).P.follows .mixedOrders=true:=A0a
 intro m w a1 w1 l tok hp h1;obtain⟨hn,h400,hsz⟩:=hok;have hll:l.length=L.length:=hp.length_eq.trans A0j;have hnd:l.Nodup:=hp.nodup_iff.2 hn;obtain⟨g,cap,cur,ty,m0,h2,hcap,hgs,hKg,hrd⟩:=One.shedB (E:=(aV [(61,bY)] (fun _=>false) [] (fun i=>i==3) (fun _=>false))) (fun _=>rfl) rfl (fun _ h=>h) rfl h1;have hlen:(l.map aa).length=l.toArray.size:=A0j
 rw[hlen] at h2 hcap hrd;replace h2:OneG (aV [(61,bY)] (fun _=>false) [] (fun i=>i==3) (fun _=>false)) 40 ⟨[],Kno.top,fun _=>true,#[],fun _=>False,m,w⟩ (au [(3,.ptr 3 0)] [(3,[.x (.slice (some ⟨g,0,none⟩) l.toArray.size cap)])]) a1 w1 g (.cells cur ty (0,0)) (some 0):=h2;have hhg:w1.heap[g]?=some (.cells cur ty (0,0)):=by obtain⟨m5,O5,_,_,_,_,_,_,_,hh9,_⟩:=h2;exact hh9
 have hcur:=NL rfl hrd hhg;clear h1 hrd hhg;refine wpIn_seq (wpIn_region ?_);refine jf hE 0 1 [(3,.ptr 3 0),(19,.x (.slice (some ⟨g,0,none⟩) l.toArray.size cap))] [(3,[.x (.slice (some ⟨g,0,none⟩) l.toArray.size cap)])] [1,2,3] A0c A0a A0a h2 A0f ?_;clear h2 a1 w1;intro a7 w7 h7;have e19:a7.eval (.tmp 19)=(.slice (some ⟨g,0,none⟩) l.toArray.size cap):=h7.read_x 19 A0i;refine nT (i:=1) (rest:=[2,3]) (d:=20) rfl (fun c e=>by cases e) rfl A0c rfl rfl h7 (.iface 30 (.slice (some ⟨g,0,none⟩) l.toArray.size cap)) ?_ ?_
 . have hmi:(Instr.makeInterface 30 (.slice (some ⟨g,0,none⟩) l.toArray.size cap)).run Tryz.prog w7= .ok (.iface 30 (.slice (some ⟨g,0,none⟩) l.toArray.size cap)) w7:=run_makeInterface _ _ _ A0a;simp only[execOp,Sem.run_bind,e19,jN,hmi,Result.andThen_ok,Sem.run_pure]
 intro a8 h8 ha8;obtain⟨Bk,valsB,tyB,frB,e3,hB,hB0,hne⟩:∃Bk vals tyB frB,a8.tmps.getD 3 Go.undef= .pointer (some ⟨Bk,0,none⟩)∧w7.heap[Bk]?=some (.cells vals tyB frB)∧vals[0]?=some (.slice (some ⟨g,0,none⟩) l.toArray.size cap)∧Bk≠g:=by obtain⟨m5,O5,hn5,_,_,_,_,_,hng,_⟩:=h8;obtain⟨b,vals,ty,fr,e,e2,e3,e4⟩:=hn5.box_at (i:=3) (s:=3) (v:=(.slice (some ⟨g,0,none⟩) l.toArray.size cap)) A0g (by simp only[go_sem,St.put,Nat.reduceEqDiff,YU,YX,wa,au]);exact⟨b,vals,ty,fr,e,e2,e3,fun e=>hng (e▸e4)⟩
 refine nT (i:=2) (rest:=[3]) (d:=21) rfl (fun c e=>by cases e) rfl A0c rfl rfl h8 (.func (.func 59) #[] #[.pointer (some ⟨Bk,0,none⟩)]) ?_ ?_
 . have e3':a8.eval (.tmp 3)= .pointer (some ⟨Bk,0,none⟩):=e3;simp only[execOp,Sem.run_bind,Instr.makeFunc,Sem.run_pure,Result.andThen_ok];simp[e3']
 intro a9 h9 ha9;have e20:a9.tmps.getD 20 Go.undef= .iface 30 (.slice (some ⟨g,0,none⟩) l.toArray.size cap):=h9.read_x 20 A0g;have e21:a9.tmps.getD 21 Go.undef= .func (.func 59) #[] #[.pointer (some ⟨Bk,0,none⟩)]:=h9.read_x 21 A0g;obtain⟨hj9,hh9⟩:(ba []).J w7∧w7.heap[g]?=some (.cells cur ty (0,0)):=by obtain⟨m5,O5,hn5,_,_,_,_,_,_,hh9,_⟩:=h9;exact⟨hn5.J,hh9⟩
 have hS:=NM (blk:=g) (Bk:=Bk) (cap:=cap) (d:=l.toArray) hh9 (by simpa using hcur) hB hB0 hne hcap (by simp only[Z3];unfold MX;omega) hKg hj9;refine CZ (i:=3) (rest:=[]) rfl rfl rfl rfl (fun a w=>Tryz.call58 a w) (by rw[show Array.map a9.eval #[.tmp 20,.tmp 21]= #[a9.tmps.getD 20 Go.undef,a9.tmps.getD 21 Go.undef] from by simp[Act.eval],e20,e21];exact hS) ?_;rintro e w8 ⟨rfl,d',hp',hs8,hb8,m8,hbx⟩;refine⟨_,rfl,?_⟩;obtain⟨hsrt,hpm⟩:=NK hp' hs8 (by simpa using hnd);have hrn:d'.toList=bR L:=rm bQ hsrt (kE L) (fun c=>by rw[gE,hpm.mem_iff];exact hp.mem_iff)
 have hds:d'.size=l.toArray.size:=hp'.1;obtain⟨_,vals,ty8,xs,rest,hh8,hx8,hr8⟩:=hbx;rw[dL,hrn] at hr8;have hxs:=nR hr8;subst hxs;have hC:(bR L).length=l.toArray.size:=by rw[<-hrn,YW,hds]
 have hmC:∀c∈bR L,c.1.size<=281474976710656:=fun c hc=>by rw[gE] at hc;obtain⟨p,hp,rfl⟩:=YR.1 hc;exact hsz p hp
 have hN4:l.toArray.size<=400:=by simp only[Z3];omega
 generalize bR L=C at*;have h10:=(OneG.wrote hE h9 (fun l e=>by cases e) hgs hKg hb8 hh8).putV (d:=22) (v:= .tuple #[]) (u:= .undef) A0c rfl (fun _ _=> .undef _);show Exit.then _ _ Exit.normal _ _;generalize a9.put (some 22) _=a10 at h10;clear e19 h7 h8 ha8 e3 hB hB0 hne h9 ha9 e20 e21 hj9 hh9 hS hs8 hb8 hr8 hsrt hpm hcur hp' hh8;generalize hNN:l.toArray.size=N at*;have hvs:vals.toList=C.flatMap cu++rest:=hx8;clear hx8 hrn;refine wpIn_seq (wpIn_seq (wpIn_region ?_));refine jf hE 0 1 [(3,.ptr 3 0),(23,.x (.slice (some ⟨g,0,none⟩) N cap))] [(3,[.x (.slice (some ⟨g,0,none⟩) N cap)])] [1,2] A0c A0a A0a h10 (by simp +decide (maxDischargeDepth:=200) only[go_sem,Nat.reduceBEq,St.put,gK]<;>(repeat' first|rfl|constructor)) ?_;clear h10 a10;intro a1 w1 h1;have e23:a1.eval (.tmp 23)=(.slice (some ⟨g,0,none⟩) N cap):=h1.read_x 23 A0i;refine nT (i:=1) (rest:=[2]) (d:=24) rfl (fun c e=>by cases e) rfl A0c rfl rfl h1 (.int .i64 (N:Int)) ?_ ?_
 . have hu:(aV [(61,bY)] (fun _=>false) [] (fun i=>i==3) (fun _=>false)).P.underlying 30=some (.slice 37):=A0a
   simp[execOp,resolve,invoke,builtin,Builtin.len_,e23,ax hu,goInt]
 clear h1;intro a2 h1 ha2;refine jf hE 2 1 [(3,.ptr 3 0),(24,.x (.int .i64 (N:Int))),(25,.x (.int .i64 ((0:Nat):Int)))] [(3,[.x (.slice (some ⟨g,0,none⟩) N cap)])] [] A0c A0a A0a h1 (by simp +decide (maxDischargeDepth:=200) only[go_sem,Nat.reduceBEq,St.put,YO]<;>(repeat' first|rfl|constructor)) ?_;clear h1 e23 ha2 a1 a2 w1;intro a1 w1 h1;refine wpIn_block ?_;refine dE (X:={i:Nat//i<=N}) (fun i a' w'=>OneG (aV [(61,bY)] (fun _=>false) [] (fun i=>i==3) (fun _=>false)) 40 ⟨[],Kno.top,fun _=>true,#[],fun _=>False,m,w⟩ (au [(3,.ptr 3 0),(24,.x (.int .i64 (N:Int))),(25,.x (.int .i64 ((i.1:Nat):Int)))] [(3,[.x (.slice (some ⟨g,0,none⟩) N cap)])]) a' w' g (.cells vals ty8.ty ty8.fz) (some 0)) (fun i=>N-i.1) ⟨0,Zf _⟩ h1 ?_;clear h1 a1 w1;rintro⟨i,hi0⟩ a1 w1 h1;simp only at hi0 h1⊢;by_cases hi:i<N
 . have c1:decide ((i:Int)<(N:Int))=true:=Yz A0b;have c4:=aD (i:=i) A0b;refine wpIn_seq (ie hE hm [(3,.ptr 3 0),(24,.x (.int .i64 (N:Int))),(25,.x (.int .i64 (i:Int))),(26,.x (.bool true))] [(3,[.x (.slice (some ⟨g,0,none⟩) N cap)])] A0a A0a h1 A0P ?_);clear h1 a1 w1;intro a1 w1 h1;refine wpIn_seq (ie hE hm [(3,.ptr 3 0),(24,.x (.int .i64 (N:Int))),(25,.x (.int .i64 (i:Int)))] [(3,[.x (.slice (some ⟨g,0,none⟩) N cap)])] A0a A0a h1 A0f ?_);clear h1 a1 w1;intro a1 w1 h1;refine wpIn_seq (wpIn_block (wpIn_seq (ie hE hm [(3,.ptr 3 0),(24,.x (.int .i64 (N:Int))),(25,.x (.int .i64 (i:Int))),(5,.x (.int .i64 (i:Int)))] [(3,[.x (.slice (some ⟨g,0,none⟩) N cap)])] A0a A0a h1 A0f ?_)));clear h1 a1 w1;intro a1 w1 h1;have hiC:i<C.length:=A0b
   obtain⟨s,hs⟩:∃s,s=C[i].1:=⟨_,rfl⟩;have hs8:s.size<=281474976710656:=by rw[hs];exact hmC _ (Y5 hiC)
   have hcell:vals[i*3]?=some (.string s):=by rw[<-YV,hvs,YN (by rw[DI];omega),mA,show i*3/3=i by omega,io hiC,show i*3%3=0 by omega,hs];rfl
   have hFC:bY [.x (.string s)]=some (.x (.string s)):=by show(if s.size<=281474976710656 then some (V.x (.string s)) else none)=_;rw[YG hs8]
   obtain⟨fs,fd,f1,f2,f3,f4⟩:=Oa;have h3o:g*0=0:=Nat.mul_zero g;refine GN (ps:=[(0,0,1),(0,1,2),(0,2,4),(0,3,8),(1,1,3),(1,2,5),(1,3,9),(2,0,3),(2,2,6),(2,3,10),(4,0,5),(4,1,6),(4,3,12),(8,0,9),(8,1,10),(8,2,12),(3,2,7),(3,3,11),(5,1,7),(5,3,13),(9,1,11),(9,2,13),(6,0,7),(6,3,14),(10,0,11),(10,2,14),(12,0,13),(12,1,14),(12,4,28),(7,3,15),(11,2,15),(13,1,15),(13,4,29),(14,0,15),(14,4,30),(28,0,29),(28,1,30),(28,5,60),(15,4,31),(29,1,31),(29,5,61),(30,0,31),(30,5,62),(60,0,61),(60,1,62),(60,6,124),(31,5,63),(61,1,63),(61,6,125),(62,0,63),(62,6,126),(124,0,125),(124,1,126),(124,7,252),(63,6,127),(125,1,127),(125,7,253),(126,0,127),(126,7,254),(252,0,253),(252,1,254),(127,7,255),(253,1,255),(254,0,255),(255,8,511),(511,9,1023),(1023,10,2047)]) hE hm A0a (Xx (.slice (some ⟨g,0,none⟩) N cap) g i s) S3 A0a ?_ ?_ h1
   . intro j o L a w2 K hj hJ hneed hK;have hgw:w2.heap[g]?=some (.cells vals ty8.ty ty8.fz):=by obtain⟨m5,O5,_,_,_,_,_,_,_,hh9,_⟩:=hJ;exact hh9
     have t5:a.eval (.tmp 5)= .int .i64 (i:Int):=hJ.read_x 5 ((iW A0a).trans A0i);have t3:∃Bk,a.eval (.tmp 3)= .pointer (some ⟨Bk,0,none⟩)∧w2.cell? ⟨Bk,0,none⟩=some (.slice (some ⟨g,0,none⟩) N cap):=by obtain⟨m5,O5,hn5,_⟩:=hJ;obtain⟨b,vals,ty,fr,e,e2,e3,e4⟩:=hn5.box_at (i:=3) (s:=3) (v:=(.slice (some ⟨g,0,none⟩) N cap)) ((iW A0a).trans A0i) (by simp only[uv,go_sem,Nat.reduceEqDiff,YU,YX,wa,au]);exact⟨b,e,(Box.cell e2 _).trans e3⟩
     obtain⟨Bk,t3,t3c⟩:=t3;rcases j with _|_|_|_|_|_|_|_|_|_|_|j
     . cases hj;exact du rfl (fun c e=>by cases e) rfl A0c rfl rfl hJ (dM rfl A0a t3 t3c) (fun h=>hK _ _ h)
     . cases hj;exact du rfl (fun c e=>by cases e) rfl A0c rfl rfl hJ (c8 rfl t5) (fun h=>hK _ _ h)
     . cases hj;exact du rfl (fun c e=>by cases e) rfl A0c rfl rfl hJ (dM rfl A0a t3 t3c) (fun h=>hK _ _ h)
     . cases hj;exact du rfl (fun c e=>by cases e) rfl A0c rfl rfl hJ (c8 rfl t5) (fun h=>hK _ _ h)
     . cases hj;exact du rfl (fun c e=>by cases e) rfl A0c rfl rfl hJ (yh (sz:=3) (el:=37) rfl A0a A0a (hneed 30 A0c) (hneed 31 A0c) (aar i) A0b) (fun h=>hK _ _ h)
     . cases hj;exact du rfl (fun c e=>by cases e) rfl A0c rfl rfl hJ (cH rfl f1 f2 f4 A0c (hneed 32 A0c) (by rw[f3,ZE])) (fun h=>hK _ _ h)
     . cases hj;exact du rfl (fun c e=>by cases e) rfl A0c rfl rfl hJ (dM rfl A0a (hneed 33 A0c) ((Box.cell hgw _).trans hcell)) (fun h=>hK _ _ h)
     . cases hj;refine yk hE rfl rfl rfl A0c rfl rfl (fun _=>rfl) pQ hFC rfl hJ (fun _=>?_) (fun v w' h=>hK _ _ (by rw[de] at h;exact h));have e34:a.eval (.tmp 34)= .string s:=hneed 34 A0c;rw[show Array.map a.eval #[.tmp 34]= #[a.eval (.tmp 34)] from by simp,e34];exact⟨.x _,trivial⟩
     . cases hj;exact du rfl (fun c e=>by cases e) rfl A0c rfl rfl hJ (yh (sz:=3) (el:=37) rfl A0a A0a (hneed 28 A0c) (hneed 29 A0c) (aar i) A0b) (fun h=>hK _ _ h)
     . cases hj;exact du rfl (fun c e=>by cases e) rfl A0c rfl rfl hJ (cH rfl f1 f2 f4 A0c (hneed 36 A0c) (by rw[f3,ZE])) (fun h=>hK _ _ h)
     . cases hj;exact ym rfl (fun c e=>by cases e) rfl rfl (yi rfl A0a (hneed 37 A0c) (hneed 35 A0c) rfl rfl hgw ty8.ok hcell) (hK _ _ hJ)
     . simp at hj
   . intro a2 w2 h2;have h3:=h2.le (st':=au [(3,.ptr 3 0),(24,.x (.int .i64 (N:Int))),(25,.x (.int .i64 (i:Int)))] [(3,[.x (.slice (some ⟨g,0,none⟩) N cap)])]) (aJ ⟨(iW A0a).trans A0i,(iW A0a).trans A0i,(iW A0a).trans A0i,trivial⟩ (by simp +decide only[uv,go_sem]<;>(repeat' first|rfl|constructor)));refine ie hE hm [(3,.ptr 3 0),(24,.x (.int .i64 (N:Int))),(25,.x (.int .i64 ((i+1:Nat):Int)))] [(3,[.x (.slice (some ⟨g,0,none⟩) N cap)])] A0a A0a h3 A0O ?_;intro a3 w3 h4;exact⟨⟨i+1,hi⟩,h4,by simp only;omega⟩
 . have c1:decide ((i:Int)<(N:Int))=false:=YA A0b;refine wpIn_seq (ie hE hm [(3,.ptr 3 0),(26,.x (.bool false))] [(3,[.x (.slice (some ⟨g,0,none⟩) N cap)])] A0a A0a h1 A0P ?_);clear h1 a1 w1;intro a1 w1 h1;refine wpIn_seq (AH hE hm 2 [(3,.ptr 3 0)] [(3,[.x (.slice (some ⟨g,0,none⟩) N cap)])] A0a A0a h1 A0f ?_);clear h1 a1 w1;intro a1 w1 h1;have hgw:w1.heap[g]?=some (.cells vals ty8.ty ty8.fz):=by obtain⟨m5,O5,_,_,_,_,_,_,_,hh9,_⟩:=h1;exact hh9
   have hCs:C.toArray.size=N:=by simpa using hC
   have h2:=OneG.done (v:=(.slice (some ⟨g,0,none⟩) N cap)) (u:= .sl false 3 (C.map aa) none) hE h1 ⟨_,_,_,rfl⟩ hgs hKg (Bel.refl _ _) (fun m hm=>by have hb:BoxAt (fun _=>some 0) w1 g (aC C.toArray):=⟨rfl,vals,ty8,C.flatMap cu,rest,hgw,hvs,by rw[dL];exact nS _⟩;have:=NJ hb (by rw[hCs];exact hcap) m hm;rw[hCs] at this;exact this)
   refine wpIn_seq (F8 hE hm [(2,.x (.slice (some ⟨g,0,none⟩) N cap))] [] A0a A0a h2 A0f ?_);clear h1 h2 hgw;intro a2 w2 h2;have e2:a2.tmps.getD 2 Go.undef=(.slice (some ⟨g,0,none⟩) N cap):=by obtain⟨m5,O5,hn5,_⟩:=h2;exact hn5.read_x 2 A0i
   have h3:=One.know (n:=40) (d:=2) A0c h2 e2 (dP _ _ _ _);exact wpIn_ret ⟨.inr rfl,_,_,_,_,_,h3,A1b⟩
theorem vw:cM 46 (FE me Oy):=DH HU
--of values alone New asks neither for places nor for what a formula reads
noncomputable def bM:Env:=ft [(46,FE me Oy)] [] [(45,y4)] (fun _=>false) (fun _=>false) (fun d=>d==3) (fun _=>false)
theorem ik:EnvOK bM:=Am _ _ _ _ _ _ _ ⟨vw,trivial⟩ trivial ⟨y5,trivial⟩
theorem rO:bM.P.follows .mixedOrders=true:=A0a
def MapX (ents:Array MapEntry) (clock:Nat) (ks vs:List V):Prop:=(∀m w,MapRd m w ents.toList ks vs)∧(∀e∈ents.toList,e.born<clock)∧(ents.toList.map (·.born)).Nodup
theorem qj:∀{es:List MapEntry} {ks vs:List V} {m m':Lim} {w w':World},(∀v∈vs,∃x,v= .x x)->MapRd m w es ks vs->MapRd m' w' es ks vs
 |[],[],[],_,_,_,_,_,_=>trivial
 |e::es,k::ks,v::vs,_,_,_,_,hv,h=>by obtain⟨x,rfl⟩:=hv v (Zc ..);refine⟨h.1,⟨h.2.1.1,?_⟩,qj (fun u hu=>hv u (YY _ hu)) h.2.2⟩;rw[Rd.x_iff.1 h.2.1.2];exact .x _
theorem S4 (L:List CI):∀v∈vsI L,∃x,v= .x x:=fun v hv=>by obtain⟨p,_,rfl⟩:=YR.1 hv;exact⟨_,rfl⟩
theorem AW:∀(C:List C3) (k:Nat) (c:C3),plI k (C++[c])=plI k C++[(c,((k+C.length:Nat):Int))]
 |[],k,c=>by simp[plI]
 |d::C,k,c=>by have:=AW C (k+1) c;rw[show k+1+C.length=k+(C.length+1) by omega] at this;simp only[Zz,plI,this,YI]
variable {C:List C3} {c:C3}
theorem HV {i:Nat} (hn:C.Nodup) (hi:C[i]?=some c):wn Tryz.prog 77 (ksI (plI 0 (C.take i))) (vsI (plI 0 (C.take i))) (aa c) (.x (.int .i64 (i:Int)))=some (ksI (plI 0 (C.take (i+1))),vsI (plI 0 (C.take (i+1)))):=by
 have hil:=(iO.1 hi).1;have hnt:(C.take i).Nodup:=List.Nodup.sublist (List.take_sublist i C) hn;rw[SL (y7 hnt 0),aF hi,AW];have hno:cP (plI 0 (C.take i)) c=false:=by
  rw[rJ];cases h:jW c (C.take i) with
  |false=>rfl
  | true=>
    obtain⟨j,hj⟩:=rK h;have hjl:=(iO.1 hj).1;rw[Zm] at hj;split at hj
    . rename_i hji;have h1:=(iO.1 hj).2;have h2:=(iO.1 hi).2;have:=(List.getElem_inj hn).1 (h1.trans h2.symm);omega
    . cases hj
 have e:fB (plI 0 (C.take i)) c (i:Int)=plI 0 (C.take i)++[(c,(i:Int))]:=by unfold fB;rw[YL (by rw[hno];exact fun h=>by cases h)]
 rw[e,YQ,aae A0b,YC]
abbrev obD (v15:Value) (gP:Nat) (r s:Value):Obj:= .cells #[v15,.map (some gP),r,s] 94 (0,0)
def HP (v15:Value) (C:List C3) (gP bD i:Nat) (H:Nat->Option Obj):Prop:=H bD=some (obD v15 gP (.slice none 0 0) (.slice none 0 0))∧(∃ents clock,H gP=some (.map ents clock)∧MapX ents clock (ksI (plI 0 (C.take i))) (vsI (plI 0 (C.take i))))∧gP≠bD
theorem lu (f:Nat) (hf:f<4):∃fs fd,Tryz.prog.underlying 94=some (.struct fs)∧fs[f]?=some fd∧fd.offset=f∧bm Tryz.prog fd.type=some 1:=by
 rcases f with _|_|_|_|f
 . exact⟨_,_,Tryz.underlying94,rfl,rfl,A0a⟩
 . exact⟨_,_,Tryz.underlying94,rfl,rfl,A0a⟩
 . exact⟨_,_,Tryz.underlying94,rfl,rfl,A0a⟩
 . exact⟨_,_,Tryz.underlying94,rfl,rfl,A0a⟩
 . omega
def DJ (c:C3) (i gP bD:Nat) (k:Nat):V:=
 if k=31 then .x (.pointer (some ⟨bD,1,none⟩)) else if k=32 then .x (.map (some gP)) else if k=33 then aa c else if k=34 then .x (.int .i64 (i:Int)) else .x (.pointer (some ⟨bD,0,none⟩))
def Mi:Nat->List Nat
 |1=>[29]
 |2=>[30]
 |3=>[31]
 |6=>[32,33,34]
 |_=>[]
variable {E:Env}
theorem Ln {ops:Array Oper} {o:Oper} {st1:St} (h:bB E ops [o] st fun st'=>st'=st1):gc E ops o st=some st1:=by
 obtain⟨st',hs,rfl⟩:=cx _ _ h;unfold dR at hs;split at hs
 . rename_i s1 h1;unfold dR at hs;rw[h1];exact hs
 . cases hs
def TB:Code->Code
 | .seq a _=>a
 |c=>c
def wd:Code->Code
 | .seq _ b=>b
 |c=>c
def Ob:Code->Code
 | .block _ c=>c
 |c=>c
def S5:Code->Code
 | .loop c=>c
 |c=>c
noncomputable def HW:Code:=(Tryz.f32.body).getD .skip
def Xy:Code->List Oper
 | .region _ ops _=>ops.toList
 |_=>[]
noncomputable def S6:Code:=wd (Ob (TB (wd (wd (S5 (Ob (wd (TB (wd (wd (wd HW)))))))))))
noncomputable def S7:List Oper:=Xy S6
variable {gP bD sz:Nat} {m:Lim} {w:World} {H:Nat->Option Obj} {nl:Bool} {l:List En} {Q:Exit->Act->World->Prop}
theorem vx {v15:Value} {i:Nat} {w1:World} {a1:Act} {ks vs:List V} (hn:C.Nodup) (hi:C[i]?=some c)
 (h1:HoldH bM 118 ⟨Kno.rd v15 (.sl false 3 (C.map aa) none),fun _=>true,#[],m,w⟩ H (au [(0,.sl nl sz (l.map cj) none),(3,.fm ks vs),(4,.x (.pointer (some ⟨bD,0,none⟩))),(22,.sl false 3 (C.map aa) none),(23,.x (.int .i64 (C.length:Int))),(24,.x (.int .i64 (i:Int))),(5,.x (.int .i64 (i:Int))),(6,.ptr 6 0)] [(6,[.x (.string c.1),.x (.int .i64 c.2.1),.x (.int .i64 c.2.2)])]) a1 w1) (hH:HP v15 C gP bD i H)
 (hQ:∀a' w' H',HP v15 C gP bD (i+1) H'->HoldH bM 118 ⟨Kno.rd v15 (.sl false 3 (C.map aa) none),fun _=>true,#[],m,w⟩ H' (au [(0,.sl nl sz (l.map cj) none),(3,.fm ks vs),(4,.x (.pointer (some ⟨bD,0,none⟩))),(22,.sl false 3 (C.map aa) none),(23,.x (.int .i64 (C.length:Int))),(24,.x (.int .i64 (i:Int)))] []) a' w'->Q .normal a' w'):
 S6.wpIn (bo none) 0 bM.P Q a1 w1:=by
 obtain⟨fs,fd,f1,f2,f3,f4⟩:=lu 1 A0c;refine NR ik rO A0a Mi A0a (fun L H' val=>val=DJ c i gP bD∧if L.testBit 6=true then HP v15 C gP bD (i+1) H' else H'=H) ?_ (DJ c i gP bD) ⟨rfl,rfl⟩ ?_ h1
 . intro L j o H2 val a w2 K hj hb _ hcl hIv hJ hneed hK;obtain⟨rfl,hIL⟩:=hIv;have hjl:j<7:=(iO.1 hj).1;have hL:L.testBit 6=false:=KV hcl rfl A0a A0b hb;rw[YL (by rw[hL];exact fun h=>by cases h)] at hIL;subst hIL;have t4:a.eval (.tmp 4)= .pointer (some ⟨bD,0,none⟩):=hJ.read_x 4 ((ar A0a).trans A0i);have t5:a.eval (.tmp 5)= .int .i64 (i:Int):=hJ.read_x 5 ((ar A0a).trans A0i);have hx:∀k∈Mi j,∀v,DJ c i gP bD k= .x v->a.eval (.tmp k)=v:=fun k hk v hv=>hJ.read_x k ((hneed k hk).trans hv)
   have hL':j≠6-> ¬(L|||2^j).testBit 6=true:=fun h=>by rw[av L h,hL];exact fun h=>by cases h
   have hbD:w2.heap[bD]?=some (obD v15 gP (.slice none 0 0) (.slice none 0 0)):=hJ.at hH.1;rcases j with _|_|_|_|_|_|_|j
   . cases hj;exact ew rfl (fun c e=>by cases e) rfl rfl (c8 rfl t4) (hK _ _ _ _ (fun _ _=>rfl) ⟨rfl,by rw[YL (hL' A0c)]⟩ (hJ.putX A0c rfl _))
   . cases hj;exact ew rfl (fun c e=>by cases e) rfl rfl (eK rfl (hx 29 A0c _ rfl)) (hK _ _ _ _ (fun _ _=>rfl) ⟨rfl,by rw[YL (hL' A0c)]⟩ (hJ.putX A0c rfl _))
   . cases hj;exact ew rfl (fun c e=>by cases e) rfl rfl (cH rfl f1 f2 f4 A0c (hx 30 A0c _ rfl) (by rw[f3])) (hK _ _ _ _ (fun _ _=>rfl) ⟨rfl,by rw[YL (hL' A0c)]⟩ (hJ.putX A0c rfl _))
   . cases hj;exact ew rfl (fun c e=>by cases e) rfl rfl (dM rfl A0a (hx 31 A0c _ rfl) (Box.cell hbD _)) (hK _ _ _ _ (fun _ _=>rfl) ⟨rfl,by rw[YL (hL' A0c)]⟩ (hJ.putX A0c rfl _))
   . cases hj;have h6:=(ar (st:=au [(0,.sl nl sz (l.map cj) none),(3,.fm ks vs),(4,.x (.pointer (some ⟨bD,0,none⟩))),(22,.sl false 3 (C.map aa) none),(23,.x (.int .i64 (C.length:Int))),(24,.x (.int .i64 (i:Int))),(5,.x (.int .i64 (i:Int))),(6,.ptr 6 0)] [(6,[.x (.string c.1),.x (.int .i64 c.2.1),.x (.int .i64 c.2.2)])]) (val:=DJ c i gP bD) (ops:=S7) (L:=L) (k:=6) A0a).trans (show _=V.ptr 6 0 by simp only[go_sem,Nat.reduceEqDiff,YU,YX,cJ,au]);have h6b:(iB (au [(0,.sl nl sz (l.map cj) none),(3,.fm ks vs),(4,.x (.pointer (some ⟨bD,0,none⟩))),(22,.sl false 3 (C.map aa) none),(23,.x (.int .i64 (C.length:Int))),(24,.x (.int .i64 (i:Int))),(5,.x (.int .i64 (i:Int))),(6,.ptr 6 0)] [(6,[.x (.string c.1),.x (.int .i64 c.2.1),.x (.int .i64 c.2.2)])]) (DJ c i gP bD) S7 L).b 6=some [.x (.string c.1),.x (.int .i64 c.2.1),.x (.int .i64 c.2.2)]:=by simp only[iB,go_sem,Nat.reduceEqDiff,YU,YX,wa,au]
     refine L6 ik rfl A0a A0a hJ (st1:=(iB _ (DJ c i gP bD) _ L).put (some 33) (aa c)) ?_ (fun a' w' h'=>hK _ _ _ _ (fun _ _=>rfl) ⟨rfl,by rw[YL (hL' A0c)]⟩ h');generalize hS:iB _ _ _ _=ST;have h7:ST.t 6= .ptr 6 0:=by rw[<-hS];exact h6
     have h7b:ST.b 6=some [.x (.string c.1),.x (.int .i64 c.2.1),.x (.int .i64 c.2.2)]:=by rw[<-hS];exact h6b
     refine Ln ?_;simp +decide only[go_sem,bM,Nat.reduceBEq,h7,h7b,aa]
   . cases hj;exact ew rfl (fun c e=>by cases e) rfl rfl (c8 rfl t5) (hK _ _ _ _ (fun _ _=>rfl) ⟨rfl,by rw[YL (hL' A0c)]⟩ (hJ.putX A0c rfl _))
   . cases hj;obtain⟨hD,⟨ents,clock,hP,hMX,hMb,hMn⟩,hne⟩:=hH;have e32:a.eval (.tmp 32)= .map (some gP):=hx 32 A0c _ rfl;have e34:a.eval (.tmp 34)= .int .i64 (i:Int):=hx 34 A0c _ rfl;obtain⟨m33,r33⟩:=hJ.read 33 (u:=aa c) (hneed 33 A0c) rfl;have e33:a.eval (.tmp 33)= .agg #[.string c.1,.int .i64 c.2.1,.int .i64 c.2.2]:=r33.val_is rfl;obtain⟨ents',clock',hrun,hMA,_⟩:=mO (P:=Tryz.prog) (t:=77) (x:=a.eval (.tmp 33)) (y:=a.eval (.tmp 34)) (m:=fun _=>some 0) ⟨ents,clock,hJ.at hP,hMX _ _,hMb,hMn,rfl⟩ (k:=aa c) (v:= .x (.int .i64 (i:Int))) (by rw[e33];exact Rd.agg_iff.2 ⟨_,rfl,.x _,.x _,.x _,trivial⟩) (by rw[e34];exact .x _) (HV hn hi);refine nV rfl (fun c e=>by cases e) rfl rfl (w':={w2 with heap:=w2.heap.setIfInBounds gP (.map ents' clock')}) ?_ ?_
     . simp only[execOp,e32,Sem.run_bind];have hrun':=hrun;rw[show bM.P=Tryz.prog from rfl,hrun'];rfl
     . obtain⟨ents2,clock2,hh2,hrd2,hb2,hn2,_⟩:=hMA;have hPl:=ai (hJ.at hP);have hset:({w2 with heap:=w2.heap.setIfInBounds gP (.map ents' clock')}:World).heap[gP]?=some (.map ents' clock'):=by show(w2.heap.setIfInBounds gP _)[gP]?=_;rw[Array.getElem?_setIfInBounds_self_of_lt hPl]
       rw[hset] at hh2;cases hh2;refine hK _ _ (upd H2 gP (some (.map ents' clock'))) _ (fun _ _=>rfl) ⟨rfl,?_⟩ (hJ.wrote ik rfl rfl rfl A0j (fun k _ hk=>?_) (fun g ob hg=>?_))
       . rw[YG (cD L 6)];exact⟨by rw[ag _ _ (ZY hne)];exact hD,⟨ents',clock',aj _ _ _,⟨fun _ _=>qj (S4 _) hrd2,hb2,hn2⟩⟩,hne⟩
       . show(w2.heap.setIfInBounds gP _)[k]?=_;rw[aaX (fun e=>by rw[<-e,hP] at hk;cases hk)]
       . by_cases e:g=gP
         . subst e;rw[aj] at hg;cases hg;exact⟨hset,.inl (by rw[hP];exact fun h=>by cases h)⟩
         . rw[ag _ _ e] at hg;refine⟨?_,.inl A0z ⟩;show(w2.heap.setIfInBounds gP _)[g]?=_;rw[aaX (ZY e)];exact hJ.at hg
   . simp at hj
 . rintro a w2 H2 val ⟨_,hI⟩ hJ;rw[YG A0a] at hI;refine hQ a w2 H2 hI (hJ.le (aJ ⟨(ar A0a).trans A0i,(ar A0a).trans A0i,(ar A0a).trans A0i,(ar A0a).trans A0i,(ar A0a).trans A0i,(ar A0a).trans A0i,trivial⟩ trivial))
noncomputable def zi:Code:=wd (wd (wd (wd HW)))
variable {ob:Obj} {n:Nat} {a:Act}
theorem rP {x:Nat} {w':World} {B:Hb} (hE:EnvOK E) (h:HoldH E n B H st a w) (hos:w'.os=w.os) (htp:w'.tape=w.tape) (hou:w'.output=w.output) (hsz:w.heap.size<=w'.heap.size) (hx:H x≠none∨w.heap.size<=x) (hb:∀k,k<w.heap.size->k≠x->w'.heap[k]?=w.heap[k]?) (hn:w'.heap[x]?=some ob):HoldH E n B (upd H x (some ob)) st a w':=by
 refine h.wrote hE hos htp hou hsz (fun k hk hH=>hb k hk (fun e=>?_)) (fun g o hg=>?_)
 . rcases hx with hx|hx
   . exact hx (e▸hH)
   . omega
 . by_cases e:g=x
   . subst e;rw[aj] at hg;cases hg;exact⟨hn,hx⟩
   . rw[ag _ _ e] at hg;exact⟨(hb g (ai (h.at hg)) e).trans (h.at hg),.inl A0z ⟩
theorem kF {B:Hb} (hE:EnvOK E) (h:HoldH E n B H st a w):HoldH E n B (upd H w.heap.size (some ob)) st a (w.alloc ob):=
 rP hE h rfl rfl rfl (abF (ai (World.heap_new w ob))) (.inr (YJ _)) (fun k hk _=>Below.heap_alloc w ob k hk) (World.heap_new w ob)
variable {v:Value} {es:List V} {tok:Option Nat}
theorem vy (h:Rd m w v (.sl false sz es tok)):∃ao ln cp,v= .slice ao ln cp:=by cases h<;>exact⟨_,_,_,rfl⟩
theorem HX (h:Rd m w v (.sl true sz es tok)):v= .slice none 0 0:=by cases h;rfl
theorem S8 {a:Act} (hok:Hs (nl,sz,l)) (_hsz:∀e∈l,e.1.1.size<=281474976710656) (hC:C=bR (am l)) (h400:C.length<=400) (hn:C.Nodup) (hso:HT (am l))
 (h1:Hold bM 118 1 ⟨Kno.top,fun _=>true,#[],m,w⟩ [] (start [.sl nl sz (l.map cj) none]) a w)
 (hrest:∀v15 gP bD H a' w',HP v15 C gP bD C.length H->HoldH bM 118 ⟨Kno.rd v15 (.sl false 3 (C.map aa) none),fun _=>true,#[],m,w⟩ H (au [(0,.sl nl sz (l.map cj) none),(3,.fm (ksI (am l)) (vsI (am l))),(4,.x (.pointer (some ⟨bD,0,none⟩)))] []) a' w'->zi.wpIn (bo none) 0 bM.P Q a' w'):HW.wpIn (bo none) 0 bM.P Q a w:=by
 have hE:=ik;have hm:=rO;have h0:=HoldH.of h1;clear h1;refine wpIn_seq (jS hE hm [(0,.sl nl sz (l.map cj) none)] [] A0a A0a h0 A0n ?_);clear h0 a;intro a w1 h1;have e1:y4 [.sl nl sz (l.map cj) none]=some (ksI (am l),vsI (am l)):=La (p:=(nl,sz,l)) hok;refine wpIn_seq (jS hE hm [(0,.sl nl sz (l.map cj) none),(3,.fm (ksI (am l)) (vsI (am l)))] [] A0a A0a h1 (by simp +decide (maxDischargeDepth:=200) only[go_sem,bM,Nat.reduceBEq,e1]<;>(repeat' first|rfl|constructor)) ?_);clear h1 a w1;intro a w1 h1;have e2:FE me Oy [.fm (ksI (am l)) (vsI (am l))]=some (.sl false 3 (C.map aa) none):=by rw[hC];exact(cq DE Oy (am l)).trans (YG hso)
 refine wpIn_seq (wpIn_region ?_);refine yp hE 0 2 [(0,.sl nl sz (l.map cj) none),(3,.fm (ksI (am l)) (vsI (am l))),(15,.sl false 3 (C.map aa) none)] [] [2,3,4,5] A0c A0a A0a h1 (by simp +decide (maxDischargeDepth:=200) only[go_sem,bM,Nat.reduceBEq,e2]<;>(repeat' first|rfl|constructor)) ?_;clear h1 a w1;intro a w1 h1;obtain⟨v15,hv15⟩:∃v,v=a.tmps.getD 15 Go.undef:=⟨_,rfl⟩;have h2:HoldH bM 118 ⟨Kno.rd v15 (.sl false 3 (C.map aa) none),fun _=>true,#[],m,w⟩ (fun _=>none) (au [(0,.sl nl sz (l.map cj) none),(3,.fm (ksI (am l)) (vsI (am l))),(15,.sl false 3 (C.map aa) none)] []) a w1:=h1.learn (Kn':=Kno.rd v15 (.sl false 3 (C.map aa) none)) (fun m O hn _=>by rw[hv15];exact ib hn 15 A0i rfl)
 have h3:=h2.know (d:=15) (u:= .x v15) A0c (fun _ _=>by rw[<-hv15];exact .x _);rw[de] at h3;obtain⟨ao,ln,cp,hsh⟩:∃ao ln cp,v15= .slice ao ln cp:=by obtain⟨m5,r5⟩:=h2.read 15 (u:= .sl false 3 (C.map aa) none) A0i rfl;rw[<-hv15] at r5;exact vy r5
 clear h1 h2 hv15;subst hsh
 --the map
 rw[wpOpsIn_cons];refine ew rfl (fun c e=>by cases e) rfl rfl (GR rfl) ?_;have h4:=(kF hE h3 (ob:= .map #[] 0)).putX (d:=16) A0c rfl (.map (some w1.heap.size));have hl1:=ai (World.heap_new w1 (.map #[] 0));generalize hgP:w1.heap.size=gP at h4 hl1;generalize w1.alloc _=w2 at h4 hl1;clear h3;refine yp hE 3 1 [(0,.sl nl sz (l.map cj) none),(3,.fm (ksI (am l)) (vsI (am l))),(17,.agg [.x (.slice ao ln cp),.x (.map (some gP)),.sl true 0 [] none,.sl true 0 [] none])] [] [4,5] A0c A0a A0a h4 A0o ?_;clear h4 a;intro a w3 h4;have hl3:gP<w3.heap.size:=ai (h4.at (aj _ _ _));obtain⟨m17,r17⟩:=h4.read 17 (u:= .agg [.x (.slice ao ln cp),.x (.map (some gP)),.sl true 0 [] none,.sl true 0 [] none]) A0i rfl;have e17:a.eval (.tmp 17)= .agg #[(.slice ao ln cp),.map (some gP),.slice none 0 0,.slice none 0 0]:=by
  obtain⟨cs,hcs,hr⟩:=Rd.agg_iff.1 r17;show a.tmps.getD 17 Go.undef=_;rw[hcs];congr 1;obtain⟨L⟩:=cs
  match L,hr with
  |[c1,c2,c3,c4],⟨q1,q2,q3,q4,_⟩=>rw[Rd.x_iff.1 q1,Rd.x_iff.1 q2,HX q3,HX q4]
 rw[wpOpsIn_cons];refine ew rfl (fun c e=>by cases e) rfl rfl (uw rfl) ?_;rw[e17];have h5:=(kF hE h4 (ob:=obD (.slice ao ln cp) gP (.slice none 0 0) (.slice none 0 0))).putX (d:=18) A0c rfl (.pointer (some ⟨w3.heap.size,0,none⟩));change HoldH _ _ _ _ _ _ (w3.alloc (.cells (Value.agg #[(.slice ao ln cp),.map (some gP),.slice none 0 0,.slice none 0 0]).cells 94)) at h5;have hHP:HP (.slice ao ln cp) C gP w3.heap.size 0 (upd (upd (fun _=>none) gP (some (.map #[] 0))) w3.heap.size (some (obD (.slice ao ln cp) gP (.slice none 0 0) (.slice none 0 0)))):=by refine⟨aj _ _ _,⟨#[],0,?_,fun _ _=>trivial,fun e he=>(by cases he),ZD⟩,A0b⟩;rw[ag _ _ A0b,aj]
 generalize hH3:upd (upd (fun _=>none) gP (some (.map #[] 0))) w3.heap.size (some (obD (.slice ao ln cp) gP (.slice none 0 0) (.slice none 0 0)))=H3 at h5 hHP;generalize w3.heap.size=bD at h5 hHP;generalize w3.alloc _=w4 at h5;clear h4 hl3 r17 e17 hH3 hl1;refine yp hE 5 1 [(0,.sl nl sz (l.map cj) none),(3,.fm (ksI (am l)) (vsI (am l))),(4,.x (.pointer (some ⟨bD,0,none⟩)))] [] [] A0c A0a A0a h5 A0o ?_;clear h5 a;intro a w5 h5
 --the places
 refine wpIn_seq (wpIn_seq (wpIn_region ?_));obtain⟨fs,fd,f1,f2,f3,f4⟩:=lu 0 A0c;have t4:a.eval (.tmp 4)= .pointer (some ⟨bD,0,none⟩):=h5.read_x 4 A0i;have hbD:=h5.at hHP.1;refine cv (i:=0) (rest:=[1,2,3,4,5]) (d:=19) rfl (fun c e=>by cases e) rfl A0c rfl rfl h5 (c8 rfl t4) ?_;intro a1 h6;refine cv (i:=1) (rest:=[2,3,4,5]) (d:=20) rfl (fun c e=>by cases e) rfl A0c rfl rfl h6 (eK (p:=⟨bD,0,none⟩) rfl (h6.read_x 19 (v:= .pointer (some ⟨bD,0,none⟩)) A0g)) ?_;intro a2 h7;refine cv (i:=2) (rest:=[3,4,5]) (d:=21) rfl (fun c e=>by cases e) rfl A0c rfl rfl h7 (cH rfl f1 f2 f4 A0c (h7.read_x 20 (v:= .pointer (some ⟨bD,0,none⟩)) A0g) (by rw[f3])) ?_;intro a3 h8;refine cv (i:=3) (rest:=[4,5]) (d:=22) rfl (fun c e=>by cases e) rfl A0c rfl rfl h8 (dM (v:= .slice ao ln cp) rfl A0a (h8.read_x 21 (v:= .pointer (some ⟨bD,0,none⟩)) A0g) ((Box.cell hbD _).trans rfl)) ?_;intro a4 h9;have h10:=h9.know (d:=22) (u:= .sl false 3 (C.map aa) none) A0c (fun m hk=>by rw[show a4.tmps.getD 22 Go.undef=(.slice ao ln cp) from h9.read_x 22 (v:=(.slice ao ln cp)) A0g];exact hk)
 rw[dP] at h10;clear h5 h6 h7 h8 h9 t4 hbD a a1 a2 a3;refine yp hE 4 2 [(0,.sl nl sz (l.map cj) none),(3,.fm (ksI (am l)) (vsI (am l))),(4,.x (.pointer (some ⟨bD,0,none⟩))),(22,.sl false 3 (C.map aa) none),(23,.x (.int .i64 (C.length:Int))),(24,.x (.int .i64 ((0:Nat):Int)))] [] [] A0c A0a A0a h10 A0G ?_;clear h10 a4;intro a w6 h6;refine wpIn_block ?_;refine dE (X:={i:Nat//i<=C.length}) (fun i a' w'=>∃H,HP (.slice ao ln cp) C gP bD i.1 H∧HoldH bM 118 ⟨Kno.rd (.slice ao ln cp) (.sl false 3 (C.map aa) none),fun _=>true,#[],m,w⟩ H (au [(0,.sl nl sz (l.map cj) none),(3,.fm (ksI (am l)) (vsI (am l))),(4,.x (.pointer (some ⟨bD,0,none⟩))),(22,.sl false 3 (C.map aa) none),(23,.x (.int .i64 (C.length:Int))),(24,.x (.int .i64 ((i.1:Nat):Int)))] []) a' w') (fun i=>C.length-i.1) ⟨0,Zf _⟩ ⟨_,hHP,h6⟩ ?_;clear h6 a w6 hHP w5;rintro⟨i,hi0⟩ a w6 ⟨H,hH,h1⟩;simp only at hi0 hH h1⊢;by_cases hi:i<C.length
 . have c1:decide ((i:Int)<(C.length:Int))=true:=Yz A0b;have c1':(i:Int)<(C.length:Int):=A0b
   have c2:(0:Int)<=(i:Int):=A0b
   have c4:=aD (i:=i) A0b;have q1:C[i]?=some C[i]:=io hi;have q2:(C.map aa)[i]?=some (aa C[i]):=by rw[Io,q1];rfl
   generalize C[i]=c at q1 q2;simp only[aa] at q2;refine wpIn_seq (jS hE hm [(0,.sl nl sz (l.map cj) none),(3,.fm (ksI (am l)) (vsI (am l))),(4,.x (.pointer (some ⟨bD,0,none⟩))),(22,.sl false 3 (C.map aa) none),(23,.x (.int .i64 (C.length:Int))),(24,.x (.int .i64 (i:Int))),(25,.x (.bool true))] [] A0a A0a h1 A0u ?_);clear h1 a w6;intro a w6 h1;refine wpIn_seq (jS hE hm [(0,.sl nl sz (l.map cj) none),(3,.fm (ksI (am l)) (vsI (am l))),(4,.x (.pointer (some ⟨bD,0,none⟩))),(22,.sl false 3 (C.map aa) none),(23,.x (.int .i64 (C.length:Int))),(24,.x (.int .i64 (i:Int)))] [] A0a A0a h1 A0n ?_);clear h1 a w6;intro a w6 h1;refine wpIn_seq (wpIn_block (wpIn_seq (jS hE hm [(0,.sl nl sz (l.map cj) none),(3,.fm (ksI (am l)) (vsI (am l))),(4,.x (.pointer (some ⟨bD,0,none⟩))),(22,.sl false 3 (C.map aa) none),(23,.x (.int .i64 (C.length:Int))),(24,.x (.int .i64 (i:Int))),(5,.x (.int .i64 (i:Int))),(6,.ptr 6 0)] [(6,[.x (.string c.1),.x (.int .i64 c.2.1),.x (.int .i64 c.2.2)])] A0a A0a h1 A0F ?_)));clear h1 a w6;intro a w6 h1;refine vx hn q1 h1 hH ?_;intro a7 w7 H' hH' h7;refine jS hE hm [(0,.sl nl sz (l.map cj) none),(3,.fm (ksI (am l)) (vsI (am l))),(4,.x (.pointer (some ⟨bD,0,none⟩))),(22,.sl false 3 (C.map aa) none),(23,.x (.int .i64 (C.length:Int))),(24,.x (.int .i64 ((i+1:Nat):Int)))] [] A0a A0a h7 A0L ?_;intro a8 w8 h8;exact⟨⟨i+1,hi⟩,⟨H',hH',h8⟩,by simp only;omega⟩
 . have c1:decide ((i:Int)<(C.length:Int))=false:=YA A0b;have e:i=C.length:=A0b
   subst e;refine wpIn_seq (jS hE hm [(0,.sl nl sz (l.map cj) none),(3,.fm (ksI (am l)) (vsI (am l))),(4,.x (.pointer (some ⟨bD,0,none⟩))),(25,.x (.bool false))] [] A0a A0a h1 A0u ?_);clear h1 a w6;intro a w6 h1;refine wpIn_seq (NQ hE hm 0 [(0,.sl nl sz (l.map cj) none),(3,.fm (ksI (am l)) (vsI (am l))),(4,.x (.pointer (some ⟨bD,0,none⟩)))] [] A0a A0a h1 A0n ?_);clear h1 a w6;intro a w6 h1;exact hrest (.slice ao ln cp) gP bD H a w6 hH h1
noncomputable def rQ:Code:=wd (wd zi)
noncomputable def AX:TypeInfo:=(Tryz.prog.info? 41).get A0a
theorem vz:Tryz.prog.info? 41=some AX:=A0a
theorem ox:AX.size=1:=A0a
theorem oy:AX.zero=some (.slice none 0 0):=A0a
theorem mf:AX.bytes=24:=A0a
theorem vA (N:Nat):madeCells (Value.slice none 0 0).cells (N*1)=(List.replicate N (Value.slice none 0 0)).toArray:=by
 apply Zt.1;apply ZO;intro i;show _=(List.replicate N (Value.slice none 0 0))[i]?;by_cases hi:i<N
 . have:=jv (Value.slice none 0 0).cells N 1 rfl i 0 hi A0c;rw[show i*1+0=i by omega] at this;rw[this,Zl,YG hi];rfl
 . rw[Y1,Y1]
   . simp;omega
   . rw[YW,size_madeCells];omega
structure HQ (ao:Option Addr) (ln cp:Nat) (C:List C3) (gP bD gR gS:Nat) (vR vS:List Value) (R S:List (List Int)) (H:Nat->Option Obj):Prop where
 d:H bD=some (obD (.slice ao ln cp) gP (.slice (some ⟨gR,0,none⟩) C.length C.length) (.slice (some ⟨gS,0,none⟩) C.length C.length))
 p:∃ents clock,H gP=some (.map ents clock)∧MapX ents clock (ksI (plI 0 C)) (vsI (plI 0 C))
 r:H gR=some (.cells vR.toArray 41 (0,0))
 s:H gS=some (.cells vS.toArray 41 (0,0))
 ne:[bD,gP,gR,gS].Nodup
 rows:Piles H (vR++vS) (R++S) [bD,gP,gR,gS]
 lR:R.length=C.length
 lS:S.length=C.length
 lvR:vR.length=C.length
 lvS:vS.length=C.length
variable {ao:Option Addr} {ln cp:Nat}
theorem S9 {w1:World} {a:Act} (h400:C.length<=400) (hH:HP (.slice ao ln cp) C gP bD C.length H)
 (h1:HoldH bM 118 ⟨Kno.rd (.slice ao ln cp) (.sl false 3 (C.map aa) none),fun _=>true,#[],m,w⟩ H (au [(0,.sl nl sz (l.map cj) none),(3,.fm (ksI (am l)) (vsI (am l))),(4,.x (.pointer (some ⟨bD,0,none⟩)))] []) a w1)
 (hrest:∀gR gS H' a' w',HQ ao ln cp C gP bD gR gS (List.replicate C.length (.slice none 0 0)) (List.replicate C.length (.slice none 0 0)) (List.replicate C.length []) (List.replicate C.length []) H'->HoldH bM 118 ⟨Kno.rd (.slice ao ln cp) (.sl false 3 (C.map aa) none),fun _=>true,#[],m,w⟩ H' (au [(0,.sl nl sz (l.map cj) none),(3,.fm (ksI (am l)) (vsI (am l))),(4,.x (.pointer (some ⟨bD,0,none⟩)))] []) a' w'->rQ.wpIn (bo none) 0 bM.P Q a' w'):zi.wpIn (bo none) 0 bM.P Q a w1:=by
 have hE:=ik;obtain⟨fs0,fd0,f1,f2,f3,f4⟩:=lu 0 A0c;obtain⟨fs2,fd2,g1,g2,g3,g4⟩:=lu 2 A0c;obtain⟨fs3,fd3,k1,k2,k3,k4⟩:=lu 3 A0c;have c0:(0:Int)<=(C.length:Int):=A0b
 have hu47:Tryz.prog.underlying 52=some (.slice 41):=A0a
 obtain⟨hD,hP,hne⟩:=hH;rw[Zy] at hP;refine wpIn_seq (wpIn_region ?_);have t4:a.eval (.tmp 4)=(.pointer (some ⟨bD,0,none⟩)):=h1.read_x 4 A0g;have hbD:=h1.at hD;refine cv (n:=118) (E:=bM) (i:=0) (rest:=[1,2,3,4,5,6,7,8,9]) (d:=36) rfl (fun c e=>by cases e) rfl A0c rfl rfl h1 (c8 rfl t4) ?_;clear h1;intro a1 h1;refine cv (i:=1) (rest:=[2,3,4,5,6,7,8,9]) (d:=37) rfl (fun c e=>by cases e) rfl A0c rfl rfl h1 (c8 rfl (h1.read_x 4 (v:=(.pointer (some ⟨bD,0,none⟩))) A0g)) ?_;clear h1 t4;intro a2 h1;refine cv (i:=2) (rest:=[3,4,5,6,7,8,9]) (d:=38) rfl (fun c e=>by cases e) rfl A0c rfl rfl h1 (eK (p:=⟨bD,0,none⟩) rfl (h1.read_x 37 (v:=(.pointer (some ⟨bD,0,none⟩))) A0g)) ?_;clear h1;intro a3 h1;refine cv (i:=3) (rest:=[4,5,6,7,8,9]) (d:=39) rfl (fun c e=>by cases e) rfl A0c rfl rfl h1 (cH rfl f1 f2 f4 A0c (h1.read_x 38 (v:=(.pointer (some ⟨bD,0,none⟩))) A0g) (by rw[f3])) ?_;clear h1;intro a4 h1;refine cv (i:=4) (rest:=[5,6,7,8,9]) (d:=40) rfl (fun c e=>by cases e) rfl A0c rfl rfl h1 (dM (v:= .slice ao ln cp) rfl A0a (h1.read_x 39 (v:=(.pointer (some ⟨bD,0,none⟩))) A0g) ((Box.cell hbD _).trans rfl)) ?_;clear h1;intro a5 h1;have h2:=h1.know (d:=40) (u:= .sl false 3 (C.map aa) none) A0c (fun m hk=>by rw[show a5.tmps.getD 40 Go.undef= .slice ao ln cp from h1.read_x 40 A0g];exact hk)
 rw[dP] at h2;clear h1;refine yp hE 5 1 [(0,.sl nl sz (l.map cj) none),(3,.fm (ksI (am l)) (vsI (am l))),(4,.x (.pointer (some ⟨bD,0,none⟩))),(36,.x (.pointer (some ⟨bD,0,none⟩))),(41,.x (.int .i64 (C.length:Int)))] [] [6,7,8,9] A0c A0a A0a h2 A0I ?_;clear h2 hbD a a1 a2 a3 a4 a5;intro a w2 h1;rw[wpOpsIn_cons];have t41:a.eval (.tmp 41)= .int .i64 (C.length:Int):=h1.read_x 41 A0g;refine ew rfl (fun c e=>by cases e) rfl rfl (kX rfl hu47 vz oy t41 t41 c0 (by rw[mf];omega) A0b) ?_;rw[ox,tl,vA];have h2:=(kF hE h1 (ob:= .cells (List.replicate C.length (Value.slice none 0 0)).toArray 41 (0,0))).putX (d:=42) A0c rfl (.slice (some ⟨w2.heap.size,0,none⟩) C.length C.length);have hlt:∀k ob,H k=some ob->k≠w2.heap.size:=fun k ob hk e=>by have:=ai (h1.at hk);omega
 generalize w2.heap.size=gR at h2 hlt;generalize w2.alloc _=w3 at h2;generalize a.put (some 42) _=b at h2;clear h1 t41;refine cv (i:=7) (rest:=[8,9]) (d:=43) rfl (fun c e=>by cases e) rfl A0c rfl rfl h2 (eK (p:=⟨bD,0,none⟩) rfl (h2.read_x 36 (v:=(.pointer (some ⟨bD,0,none⟩))) A0g)) ?_;intro b1 h3;refine cv (i:=8) (rest:=[9]) (d:=44) rfl (fun c e=>by cases e) rfl A0c rfl rfl h3 (cH rfl g1 g2 g4 A0c (h3.read_x 43 (v:=(.pointer (some ⟨bD,0,none⟩))) A0g) (by rw[g3,YC])) ?_;intro b2 h4;rw[wpOpsIn_cons];have hbD4:=h4.at (show upd H gR _ bD=some _ from(ag _ _ (hlt bD _ hD)).trans hD);refine nV rfl (fun c e=>by cases e) rfl rfl (ux rfl A0a (h4.read_x 44 (v:= .pointer (some ⟨bD,2,none⟩)) A0g) (h4.read_x 42 (v:= .slice (some ⟨gR,0,none⟩) C.length C.length) A0g) rfl rfl hbD4 (by show 2<4;decide)) ?_;have h5:=rP hE h4 (x:=bD) (ob:=(obD (.slice ao ln cp) gP (.slice (some ⟨gR,0,none⟩) C.length C.length) (.slice none 0 0))) (w':=w3.setRow bD _) rfl rfl rfl A0j (.inl (by rw[ag _ _ (hlt bD _ hD),hD];exact fun h=>by cases h)) (fun k _ hk=>setRow_other w3 bD k _ hk) (setRow_heap w3 bD _ _ _ (0,0) hbD4);replace h5:=h5.le (st':=au [(0,.sl nl sz (l.map cj) none),(3,.fm (ksI (am l)) (vsI (am l))),(4,.x (.pointer (some ⟨bD,0,none⟩)))] []) (aJ A0o A0o);clear h2 h3 h4 hbD4;change wpOpsIn _ _ _ _ _ _ _ (w3.setRow bD #[.slice ao ln cp,.map (some gP),(.slice (some ⟨gR,0,none⟩) C.length C.length),(.slice none 0 0)]);change HoldH _ _ _ _ _ _ (w3.setRow bD #[.slice ao ln cp,.map (some gP),(.slice (some ⟨gR,0,none⟩) C.length C.length),(.slice none 0 0)]) at h5;generalize w3.setRow bD #[.slice ao ln cp,.map (some gP),(.slice (some ⟨gR,0,none⟩) C.length C.length),(.slice none 0 0)]=w4 at h5⊢;clear a b b1;have hRD:gR≠bD:=fun e=>hlt bD _ hD e.symm
 obtain⟨ents,clock,hPm,hMX⟩:=hP;have hRP:gR≠gP:=fun e=>hlt gP _ hPm e.symm
 obtain⟨H2,hH2⟩:∃H2,H2=upd (upd H gR (some (.cells (List.replicate C.length (Value.slice none 0 0)).toArray 41 (0,0)))) bD (some (obD (.slice ao ln cp) gP (.slice (some ⟨gR,0,none⟩) C.length C.length) (.slice none 0 0))):=⟨_,rfl⟩;rw[<-hH2] at h5;have hD2:H2 bD=some (obD (.slice ao ln cp) gP (.slice (some ⟨gR,0,none⟩) C.length C.length) (.slice none 0 0)):=by rw[hH2,aj]
 have hP2:H2 gP=some (.map ents clock):=by rw[hH2,ag _ _ hne,ag _ _ (ZY hRP)];exact hPm
 have hR2:H2 gR=some (.cells (List.replicate C.length (Value.slice none 0 0)).toArray 41 (0,0)):=by rw[hH2,ag _ _ hRD,aj]
 clear hlt hH2 hD hPm;have h1:=h5;clear h5;refine wpIn_seq (wpIn_region ?_);have t4:b2.eval (.tmp 4)=(.pointer (some ⟨bD,0,none⟩)):=h1.read_x 4 A0g;have hbD:=h1.at hD2;refine cv (n:=118) (E:=bM) (i:=0) (rest:=[1,2,3,4,5,6,7,8,9]) (d:=45) rfl (fun c e=>by cases e) rfl A0c rfl rfl h1 (c8 rfl t4) ?_;clear h1;intro a1 h1;refine cv (i:=1) (rest:=[2,3,4,5,6,7,8,9]) (d:=46) rfl (fun c e=>by cases e) rfl A0c rfl rfl h1 (c8 rfl (h1.read_x 4 (v:=(.pointer (some ⟨bD,0,none⟩))) A0g)) ?_;clear h1 t4;intro a2 h1;refine cv (i:=2) (rest:=[3,4,5,6,7,8,9]) (d:=47) rfl (fun c e=>by cases e) rfl A0c rfl rfl h1 (eK (p:=⟨bD,0,none⟩) rfl (h1.read_x 46 (v:=(.pointer (some ⟨bD,0,none⟩))) A0g)) ?_;clear h1;intro a3 h1;refine cv (i:=3) (rest:=[4,5,6,7,8,9]) (d:=48) rfl (fun c e=>by cases e) rfl A0c rfl rfl h1 (cH rfl f1 f2 f4 A0c (h1.read_x 47 (v:=(.pointer (some ⟨bD,0,none⟩))) A0g) (by rw[f3])) ?_;clear h1;intro a4 h1;refine cv (i:=4) (rest:=[5,6,7,8,9]) (d:=49) rfl (fun c e=>by cases e) rfl A0c rfl rfl h1 (dM (v:= .slice ao ln cp) rfl A0a (h1.read_x 48 (v:=(.pointer (some ⟨bD,0,none⟩))) A0g) ((Box.cell hbD _).trans rfl)) ?_;clear h1;intro a5 h1;have h2:=h1.know (d:=49) (u:= .sl false 3 (C.map aa) none) A0c (fun m hk=>by rw[show a5.tmps.getD 49 Go.undef= .slice ao ln cp from h1.read_x 49 A0g];exact hk)
 rw[dP] at h2;clear h1;refine yp hE 5 1 [(0,.sl nl sz (l.map cj) none),(3,.fm (ksI (am l)) (vsI (am l))),(4,.x (.pointer (some ⟨bD,0,none⟩))),(45,.x (.pointer (some ⟨bD,0,none⟩))),(50,.x (.int .i64 (C.length:Int)))] [] [6,7,8,9] A0c A0a A0a h2 A0I ?_;clear h2 hbD a1 a2 a3 a4 a5;intro a w2 h1;rw[wpOpsIn_cons];have t41:a.eval (.tmp 50)= .int .i64 (C.length:Int):=h1.read_x 50 A0g;refine ew rfl (fun c e=>by cases e) rfl rfl (kX rfl hu47 vz oy t41 t41 c0 (by rw[mf];omega) A0b) ?_;rw[ox,tl,vA];have h2:=(kF hE h1 (ob:= .cells (List.replicate C.length (Value.slice none 0 0)).toArray 41 (0,0))).putX (d:=51) A0c rfl (.slice (some ⟨w2.heap.size,0,none⟩) C.length C.length);have hlt:∀k ob,H2 k=some ob->k≠w2.heap.size:=fun k ob hk e=>by have:=ai (h1.at hk);omega
 generalize w2.heap.size=gS at h2 hlt;generalize w2.alloc _=w3 at h2;generalize a.put (some 51) _=b at h2;clear h1 t41;refine cv (i:=7) (rest:=[8,9]) (d:=52) rfl (fun c e=>by cases e) rfl A0c rfl rfl h2 (eK (p:=⟨bD,0,none⟩) rfl (h2.read_x 45 (v:=(.pointer (some ⟨bD,0,none⟩))) A0g)) ?_;intro b1 h3;refine cv (i:=8) (rest:=[9]) (d:=53) rfl (fun c e=>by cases e) rfl A0c rfl rfl h3 (cH rfl k1 k2 k4 A0c (h3.read_x 52 (v:=(.pointer (some ⟨bD,0,none⟩))) A0g) (by rw[k3,YC])) ?_;intro b2 h4;rw[wpOpsIn_cons];have hbD4:=h4.at (show upd H2 gS _ bD=some _ from(ag _ _ (hlt bD _ hD2)).trans hD2);refine nV rfl (fun c e=>by cases e) rfl rfl (ux rfl A0a (h4.read_x 53 (v:= .pointer (some ⟨bD,3,none⟩)) A0g) (h4.read_x 51 (v:= .slice (some ⟨gS,0,none⟩) C.length C.length) A0g) rfl rfl hbD4 (by show 3<4;decide)) ?_;have h5:=rP hE h4 (x:=bD) (ob:=(obD (.slice ao ln cp) gP (.slice (some ⟨gR,0,none⟩) C.length C.length) (.slice (some ⟨gS,0,none⟩) C.length C.length))) (w':=w3.setRow bD _) rfl rfl rfl A0j (.inl (by rw[ag _ _ (hlt bD _ hD2),hD2];exact fun h=>by cases h)) (fun k _ hk=>setRow_other w3 bD k _ hk) (setRow_heap w3 bD _ _ _ (0,0) hbD4);replace h5:=h5.le (st':=au [(0,.sl nl sz (l.map cj) none),(3,.fm (ksI (am l)) (vsI (am l))),(4,.x (.pointer (some ⟨bD,0,none⟩)))] []) (aJ A0o A0o);clear h2 h3 h4 hbD4;change wpOpsIn _ _ _ _ _ _ _ (w3.setRow bD #[.slice ao ln cp,.map (some gP),(.slice (some ⟨gR,0,none⟩) C.length C.length),(.slice (some ⟨gS,0,none⟩) C.length C.length)]);change HoldH _ _ _ _ _ _ (w3.setRow bD #[.slice ao ln cp,.map (some gP),(.slice (some ⟨gR,0,none⟩) C.length C.length),(.slice (some ⟨gS,0,none⟩) C.length C.length)]) at h5;generalize w3.setRow bD #[.slice ao ln cp,.map (some gP),(.slice (some ⟨gR,0,none⟩) C.length C.length),(.slice (some ⟨gS,0,none⟩) C.length C.length)]=w4 at h5⊢;clear a b b1;have hSD:gS≠bD:=fun e=>hlt bD _ hD2 e.symm
 have hSP:gS≠gP:=fun e=>hlt gP _ hP2 e.symm
 have hSR:gS≠gR:=fun e=>hlt gR _ hR2 e.symm
 refine hrest gR gS _ _ _ ⟨aj _ _ _,⟨ents,clock,by rw[ag _ _ hne,ag _ _ (ZY hSP)];exact hP2,hMX⟩,by rw[ag _ _ hRD,ag _ _ (ZY hSR)];exact hR2,by rw[ag _ _ hSD,aj],?_,?_,A0j,A0j,A0j,A0j⟩ h5
 . simp only[Zj,YT,aa0,or_false,not_or,aa9,ZD,Z7];exact⟨⟨ZY hne,ZY hRD,ZY hSD⟩,⟨ZY hRP,ZY hSP⟩,ZY hSR⟩
 . rw[aav,aav];have hv:∀(i:Nat) (v:Value),(List.replicate (C.length+C.length) (Value.slice none 0 0))[i]?=some v->v= .slice none 0 0:=fun i v hi=>by
    rw[Zl] at hi;split at hi
    . cases hi;rfl
    . cases hi
   refine⟨A0j,fun i v es hi he=> .inl ⟨?_,hv i v hi⟩,fun i j v v' g _ hi _ hb=>?_,fun i v g hi hb=>?_⟩
   . rw[Zl] at he;split at he
     . cases he;rfl
     . cases he
   . rw[hv i v hi] at hb;cases hb
   . rw[hv i v hi] at hb;cases hb
noncomputable def Ta:Code:=S5 (Ob (wd (TB rQ)))
def XN (H:Nat->Option Obj) (vi:Value) (es:List Int) (H':Nat->Option Obj) (v':Value):Prop:=∃g ob,H'=upd H g (some ob)∧blkOf v'=some g∧(blkOf vi=some g∨H g=none)∧RowI H' v' es
section
variable {ao:Option Addr} {ln cp:Nat} {C:List C3} {gP bD gR gS:Nat} {vR vS:List Value} {R S:List (List Int)} {H:Nat->Option Obj}
theorem HQ.on (h:HQ ao ln cp C gP bD gR gS vR vS R S H):∀x∈[bD,gP,gR,gS],H x≠none:=by
 intro x hx;obtain⟨ents,clock,hp,_⟩:=h.p;simp only[YT,aa0,or_false] at hx;rcases hx with rfl|rfl|rfl|rfl
 . rw[h.d];exact fun h=>by cases h
 . rw[hp];exact fun h=>by cases h
 . rw[h.r];exact fun h=>by cases h
 . rw[h.s];exact fun h=>by cases h
theorem HQ.far (h:HQ ao ln cp C gP bD gR gS vR vS R S H) {j:Nat} {vi:Value} (hi:(vR++vS)[j]?=some vi) {g:Nat} (hg:blkOf vi=some g∨H g=none):∀x∈[bD,gP,gR,gS],x≠g:=by
 intro x hx e;subst e;rcases hg with hg|hg
 . exact h.rows.out j vi x hi hg hx
 . exact h.on x hx hg
theorem HQ.setR (h:HQ ao ln cp C gP bD gR gS vR vS R S H) {i:Nat} {vi v':Value} {es:List Int} {H':Nat->Option Obj} (hi:vR[i]?=some vi) (hm:XN H vi es H' v'):HQ ao ln cp C gP bD gR gS (vR.set i v') vS (R.set i es) S (upd H' gR (some (.cells (vR.set i v').toArray 41 (0,0)))):=by
 obtain⟨g,ob,rfl,hb,hg,hr⟩:=hm;have hil:=(iO.1 hi).1;have hi2:(vR++vS)[i]?=some vi:=by rw[YN hil];exact hi
 have hf:=h.far hi2 hg;have hn:=h.ne;simp only[Zj,YT,aa0,or_false,not_or,aa9,ZD,Z7] at hn;obtain⟨⟨n1,n2,n3⟩,⟨n4,n5⟩,n6⟩:=hn;obtain⟨ents,clock,hp,hx⟩:=h.p;have hR:=h.lR;have hvR:=h.lvR;refine⟨?_,⟨ents,clock,?_,hx⟩,aj _ _ _,?_,h.ne,?_,by rw[Za];exact h.lR,h.lS,by rw[Za];exact h.lvR,h.lvS⟩
 . rw[ag _ _ n2,ag _ _ (hf bD A0j)];exact h.d
 . rw[ag _ _ n4,ag _ _ (hf gP A0j)];exact hp
 . rw[ag _ _ (ZY n6),ag _ _ (hf gS A0j)];exact h.s
 . have:=(h.rows.set hi2 h.on hb hg hr).other (x:=gR) (o:=some (.cells (vR.set i v').toArray 41 (0,0))) A0j;rw[abi _ _ hil,abi _ _ A0b] at this;exact this
theorem HQ.setS (h:HQ ao ln cp C gP bD gR gS vR vS R S H) {i:Nat} {vi v':Value} {es:List Int} {H':Nat->Option Obj} (hi:vS[i]?=some vi) (hm:XN H vi es H' v'):HQ ao ln cp C gP bD gR gS vR (vS.set i v') R (S.set i es) (upd H' gS (some (.cells (vS.set i v').toArray 41 (0,0)))):=by
 obtain⟨g,ob,rfl,hb,hg,hr⟩:=hm;have hil:=(iO.1 hi).1;have hi2:(vR++vS)[vR.length+i]?=some vi:=by rw[Y7 A0b,aas];exact hi
 have hf:=h.far hi2 hg;have hn:=h.ne;simp only[Zj,YT,aa0,or_false,not_or,aa9,ZD,Z7] at hn;obtain⟨⟨n1,n2,n3⟩,⟨n4,n5⟩,n6⟩:=hn;obtain⟨ents,clock,hp,hx⟩:=h.p;have hR:=h.lR;have hvR:=h.lvR;refine⟨?_,⟨ents,clock,?_,hx⟩,?_,aj _ _ _,h.ne,?_,h.lR,by rw[Za];exact h.lS,h.lvR,by rw[Za];exact h.lvS⟩
 . rw[ag _ _ n3,ag _ _ (hf bD A0j)];exact h.d
 . rw[ag _ _ n5,ag _ _ (hf gP A0j)];exact hp
 . rw[ag _ _ n6,ag _ _ (hf gR A0j)];exact h.r
 . have:=(h.rows.set hi2 h.on hb hg hr).other (x:=gS) (o:=some (.cells (vS.set i v').toArray 41 (0,0))) A0j;rw[aa8 _ _ A0b,aa8 _ _ A0b,aas,show vR.length+i-R.length=i by omega] at this;exact this
end
abbrev QS:=List (List Int)×List (List Int)
def fU (i:Nat) (q:QS) (x:Nat):QS:=(q.1.set i ((q.1[i]?.getD [])++[(x:Int)]),q.2.set x ((q.2[x]?.getD [])++[(i:Int)]))
def LenB (q:QS) (b:Nat):Prop:=(∀es∈q.1,es.length<=b)∧∀es∈q.2,es.length<=b
variable {b:Nat}
theorem qk {q:List (List Int)} {i:Nat} {e:Int} (h:∀es∈q,es.length<=b):∀es∈q.set i ((q[i]?.getD [])++[e]),es.length<=b+1:=fun es he=>by
 rcases aaT he with he|rfl
 . have:=h es he;omega
 . rw[YD];cases hq:q[i]? with
   |none=>simp
   |some es=>have:=h es (YB hq);simp;omega
variable {q:QS}
theorem LenB.tell {i x:Nat} (h:LenB q b):LenB (fU i q x) (b+1):=⟨qk h.1,qk h.2⟩
theorem LenB.fold {i:Nat}:∀{ps:List Nat} {q:QS} {b:Nat},LenB q b->LenB (ps.foldl (fU i) q) (b+ps.length)
 |[],_,_,h=>h
 |x::ps,q,b,h=>by have:=LenB.fold (i:=i) (ps:=ps) (h.tell (i:=i) (x:=x));rw[YI,show b+(ps.length+1)=b+1+ps.length by omega];exact this
theorem HY (L:List CI) (d c:C3) (v:Int):dp (L.map fun p=>if eI d p.1=true then (p.1,v) else p) c=if c=d∧cP L d=true then v else dp L c:=by
 induction L with
 |nil=>simp[dp,cP,jW]
 | cons p L ih=>
   have hh:cP (p::L) d=(eI d p.1||cP L d):=rfl;rw[Y0];by_cases h1:d=p.1
   . have e1:eI d p.1=true:=Yz h1;rw[YG e1,hh,e1,Bool.true_or];unfold dp;by_cases h2:c=p.1
     . rw[YG (show eI c (p.1,v).1=true from Yz h2),YG ⟨h2.trans h1.symm,rfl⟩]
     . have e2: ¬eI c p.1=true:=fun h=>h2 (Y9 h)
       rw[YL e2,YL e2,ih,YL (fun h=>h2 (h.1.trans h1)),YL (fun h=>h2 (h.1.trans h1))]
   . have e1: ¬eI d p.1=true:=fun h=>h1 (Y9 h)
     have e1':eI d p.1=false:=by simpa using e1
     rw[YL e1,hh,e1',aaZ];unfold dp;by_cases h2:c=p.1
     . have e2:eI c p.1=true:=Yz h2;rw[YG e2,YG e2,YL (fun h=>h1 (h.1.symm.trans h2))]
     . have e2: ¬eI c p.1=true:=fun h=>h2 (Y9 h)
       rw[YL e2,YL e2,ih]
theorem HZ (L:List CI) (d c:C3) (v:Int):dp (L++[(d,v)]) c=if cP L c=true then dp L c else if c=d then v else 0:=by
 induction L with
 | nil=>
   show(if eI c (d,v).1=true then v else 0)=_;rw[YL (show¬cP [] c=true by simp[cP,jW])];by_cases h:c=d
   . rw[YG (show eI c (d,v).1=true from Yz h),YG h]
   . rw[YL (show¬eI c (d,v).1=true from fun e=>h (Y9 e)),YL h]
 | cons p L ih=>
   have hh:cP (p::L) c=(eI c p.1||cP L c):=rfl;rw[Zz,hh];unfold dp;by_cases h2:eI c p.1=true
   . rw[YG h2,YG h2,h2,Bool.true_or,YG rfl]
   . have e2:eI c p.1=false:=by simpa using h2
     rw[YL h2,YL h2,ih,e2,aaZ]
theorem vB (L:List CI) (d c:C3) (v:Int):cP (fB L d v) c=true->dp (fB L d v) c=if c=d then v else dp L c:=by
 intro hc;unfold fB at hc⊢;split
 . rename_i h;rw[HY];by_cases e:c=d
   . rw[YG ⟨e,h⟩,YG e]
   . rw[YL (fun h=>e h.1),YL e]
 . rename_i h;rw[HZ];split
   . rename_i h2;rw[YL (show¬c=d from fun e=>h (e▸h2))]
   . rename_i h2;split
     . rfl
     . rename_i h3;exact(rG (by simpa using h2)).symm
theorem rT (L:List CI) (d c:C3) (v:Int) (hne:c≠d) (h:cP (fB L d v) c=true):cP L c=true:=by
 unfold fB at h;split at h
 . rw[cX] at h⊢;obtain⟨p,hp,rfl⟩:=YR.1 h;obtain⟨p',hp',rfl⟩:=YR.1 hp;refine YR.2 ⟨p',hp',?_⟩;split<;>rfl
 . rw[cX] at h⊢;obtain⟨p,hp,rfl⟩:=YR.1 h;rcases YM.1 hp with hp|hp
   . exact YR.2 ⟨p,hp,rfl⟩
   . rw[YF.1 hp] at hne;exact absurd rfl hne
theorem H4:∀n:Nat,n<=l.length->cP (am (l.take n)) c=true->∃k,k<n∧dp (am (l.take n)) c=((k:Nat):Int):=by
 intro n
 induction n with
 |zero=>intro _ h;simp[am,jA,cP,jW] at h
 | succ n ih=>
   intro hn h;have q1:l[n]?=some l[n]:=io A0b;have e:am (l.take (n+1))=fB (am (l.take n)) (l[n]).1 ((n:Nat):Int):=by unfold am;rw[aF q1,ep,YQ,YC,aae A0b]
   rw[e] at h⊢;rw[vB _ _ _ _ h];by_cases hc:c=(l[n]).1
   . rw[YG hc];exact⟨n,A0b,rfl⟩
   . rw[YL hc];obtain⟨k,hk,e2⟩:=ih A0b (rT _ _ _ _ hc h);exact⟨k,A0b,e2⟩
def oz (C r:List C3):List Nat:=(r.filter fun c=>jW c C).map fun c=>(dp (plI 0 C) c).toNat
theorem Od (hn:C.Nodup) {c:C3} (h:jW c C=true):∃i:Nat,i<C.length∧dp (plI 0 C) c=(i:Int):=by obtain⟨i,hi⟩:=rK h;have:=qh (k:=0) hn hi;rw[YC] at this;exact⟨i,(iO.1 hi).1,this⟩
theorem Lo (hn:C.Nodup) (r:List C3):∀x∈oz C r,x<C.length:=fun x hx=>by obtain⟨c,hc,rfl⟩:=YR.1 hx;obtain⟨i,h1,hi⟩:=Od hn (Zq.1 hc).2;rw[hi,tl];exact h1
theorem H5 (C r:List C3):(oz C r).length<=r.length:=by unfold oz;rw[eq];exact Z5 _ _
def oA (l:List En) (C:List C3) (q:QS) (i:Nat):QS:=
 match C[i]? with
 |none=>q
 | some c=>match l[(dp (am l) c).toNat]? with
   |none=>q
   |some e=>if e.2.1=true then (oz C (aM e.2.2.1)).foldl (fU i) q else q
def eO (l:List En) (C:List C3) (n:Nat):QS:=(List.range n).foldl (oA l C) (List.replicate C.length [],List.replicate C.length [])
theorem gF (l:List En) (C:List C3) (n:Nat):eO l C (n+1)=oA l C (eO l C n) n:=by unfold eO;rw[aaC,aan];rfl
theorem DK {i:Nat} (hc:∀e∈l,nH e.2.2.1<=400) (h:LenB q b):LenB (oA l C q i) (b+160000):=by
 have mono:∀{q:QS} {b b':Nat},LenB q b->b<=b'->LenB q b':=fun h hb=>⟨fun es he=>Y6 (h.1 es he) hb,fun es he=>Y6 (h.2 es he) hb⟩
 unfold oA;split
 . exact mono h A0b
 . split
   . exact mono h A0b
   . rename_i e he;split
     . refine mono h.fold ?_;have h1:=H5 C (aM e.2.2.1);have h2:=fv e.2.2.1;have h3:=hc e (YB he);omega
     . exact mono h A0b
theorem vC {l:List En} {C:List C3} (hc:∀e∈l,nH e.2.2.1<=400):∀n,LenB (eO l C n) (n*160000)
 |0=>⟨fun es he=>by rw[(List.mem_replicate.1 he).2];exact Zf _,fun es he=>by rw[(List.mem_replicate.1 he).2];exact Zf _⟩
 |n+1=>by rw[gF,ZC,aaS];exact DK hc (vC hc n)
noncomputable def Tb:Code:=TB (wd (wd Ta))
variable {gR gS:Nat} {vR vS:List Value}
theorem Tc {w1:World} {a:Act} {i:Nat} (_hn:C.Nodup) (hi:C[i]?=some c) (_h400:C.length<=400) (hsz:l≠[]->sz=20) (_hl4:l.length<=400) (hcnt:∀e∈l,nH e.2.2.1<=400) (hkey:cP (am l) c=true)
 (hpl:∀e∈l,e.2.1=false)
 (hH:HQ ao ln cp C gP bD gR gS vR vS (eO l C i).1 (eO l C i).2 H) (h1:HoldH bM 118 ⟨Kno.rd (.slice ao ln cp) (.sl false 3 (C.map aa) none),fun _=>true,#[],m,w⟩ H (au [(0,.sl nl sz (l.map cj) none),(3,.fm (ksI (am l)) (vsI (am l))),(4,.x (.pointer (some ⟨bD,0,none⟩))),(57,.sl false 3 (C.map aa) none),(58,.x (.int .i64 (C.length:Int))),(59,.x (.int .i64 (i:Int)))] []) a w1)
 (hQ:∀a' w' H' vR' vS',HQ ao ln cp C gP bD gR gS vR' vS' (eO l C (i+1)).1 (eO l C (i+1)).2 H'->HoldH bM 118 ⟨Kno.rd (.slice ao ln cp) (.sl false 3 (C.map aa) none),fun _=>true,#[],m,w⟩ H' (au [(0,.sl nl sz (l.map cj) none),(3,.fm (ksI (am l)) (vsI (am l))),(4,.x (.pointer (some ⟨bD,0,none⟩))),(57,.sl false 3 (C.map aa) none),(58,.x (.int .i64 (C.length:Int))),(59,.x (.int .i64 (i:Int)))] []) a' w'->Q .normal a' w'):Tb.wpIn (bo none) 0 bM.P Q a w1:=by
 have hE:=ik;have hm:=rO;have hiN:=(iO.1 hi).1;have c1':(i:Int)<(C.length:Int):=A0b
 have c2:(0:Int)<=(i:Int):=A0b
 have q2:(C.map aa)[i]?=some (aa c):=by rw[Io,hi];rfl
 simp only[aa] at q2;obtain⟨k,hk,hz⟩:=H4 (l:=l) (c:=c) l.length (YJ _) (by rw[Zy];exact hkey);rw[Zy] at hz;obtain rfl:=hsz (fun h=>by rw[h] at hk;simp at hk);have kk:=AQ (m:= .fm (ksI (am l)) (vsI (am l))) rfl (jh l) (c:=c);rw[hz] at kk;simp only[aa] at kk;have q3:l[k]?=some l[k]:=io hk;have q4:(l.map cj)[k]?=some (cj l[k]):=by rw[Io,q3];rfl
 have hce:=hcnt l[k] (Y5 hk);have hstep:eO l C (i+1)=if (l[k]).2.1=true then (oz C (aM (l[k]).2.2.1)).foldl (fU i) (eO l C i) else eO l C i:=by rw[gF];unfold oA;rw[hi];simp only;rw[hz,tl,q3]
 have hpe:=hpl l[k] (Y5 hk);generalize l[k]=e at q3 q4 hce hstep hpe;have d1:(k:Int)<(l.length:Int):=A0b
 have d2:(0:Int)<=(k:Int):=A0b
 obtain⟨N,T,hN,lN,lT,hnd,tkN⟩:=AO e;rw[hN] at q4;have tA:(N++T).take 16=N++T:=YS (by rw[YD];omega);have aA:(N++T).all V.cell=true:=by obtain⟨M,hM,_,_,hM4⟩:=vp e;rw[hN] at hM;simp only[V.agg.injEq,Zb,aaU] at hM;rw[hM];exact hM4
 refine wpIn_block (wpIn_seq (jS hE hm [(0,.sl nl 20 (l.map cj) none),(3,.fm (ksI (am l)) (vsI (am l))),(4,.x (.pointer (some ⟨bD,0,none⟩))),(57,.sl false 3 (C.map aa) none),(58,.x (.int .i64 (C.length:Int))),(59,.x (.int .i64 (i:Int))),(7,.x (.int .i64 (i:Int))),(8,.ptr 8 0)] [(8,[.x (.string c.1),.x (.int .i64 c.2.1),.x (.int .i64 c.2.2)])] A0a A0a h1 A0F ?_));clear h1 a w1;intro a w1 h1;refine wpIn_seq (jS hE hm [(0,.sl nl 20 (l.map cj) none),(3,.fm (ksI (am l)) (vsI (am l))),(4,.x (.pointer (some ⟨bD,0,none⟩))),(57,.sl false 3 (C.map aa) none),(58,.x (.int .i64 (C.length:Int))),(59,.x (.int .i64 (i:Int))),(7,.x (.int .i64 (i:Int))),(9,.ptr 9 0)] [(9,.x (.string e.1.1):: .x (.int .i64 e.1.2.1):: .x (.int .i64 e.1.2.2):: .x (.bool e.2.1)::(N++T))] A0a A0a h1 (by simp +decide (maxDischargeDepth:=200) only[go_sem,bM,Nat.reduceBEq,eq,YI,YD,lN,lT,tA,aA,kk,d1,d2,q4,tl]<;>(repeat' first|rfl|constructor)) ?_);clear h1 a w1;intro a w1 h1;cases hf:e.2.1 with
 |false=>rw[hf] at h1 hstep;rw[YL A0c] at hstep;refine wpIn_seq (wpIn_seq (jS hE hm [(0,.sl nl 20 (l.map cj) none),(3,.fm (ksI (am l)) (vsI (am l))),(4,.x (.pointer (some ⟨bD,0,none⟩))),(57,.sl false 3 (C.map aa) none),(58,.x (.int .i64 (C.length:Int))),(59,.x (.int .i64 (i:Int))),(72,.x (.bool true))] [] A0a A0a h1 (by simp +decide (maxDischargeDepth:=200) only[go_sem,bM,Nat.reduceBEq,YI,YD,lN,lT]<;>(repeat' first|rfl|constructor)) ?_));clear h1 a w1;intro a w1 h1;refine NQ hE hm 3 [(0,.sl nl 20 (l.map cj) none),(3,.fm (ksI (am l)) (vsI (am l))),(4,.x (.pointer (some ⟨bD,0,none⟩))),(57,.sl false 3 (C.map aa) none),(58,.x (.int .i64 (C.length:Int))),(59,.x (.int .i64 (i:Int)))] [] A0a A0a h1 A0n ?_;intro a2 w2 h2;exact hQ a2 w2 H vR vS (by rw[hstep];exact hH) h2
 |true=>rw[hpe] at hf;cases hf
theorem H6 {es:List Int} (h:RowI H v es) (hw:∀g ob,H g=some ob->w.heap[g]?=some ob) (hm:∀g,H g≠none->m g=none):Rd m w v (rI es):=by
 rcases h with⟨rfl,rfl⟩|⟨g,cap,cur,ty,hne,rfl,hg,hcap,hsz,hc⟩
 . exact .nil _ _
 . have hh:=hw g _ hg;have hmg:=hm g A0z;have e:rI es= .sl false 1 (es.map aq) none:=by
    cases es with
    |nil=>exact absurd rfl hne
    |cons a es=>rfl
   rw[e];have:=Rd.sl (m:=m) (w:=w) g 0 cap 1 (es.map aq) none (fun k=>(cur[k]?).getD Go.undef) (ai hh) (by rw[eq];exact hcap) (fun i e hi=>by
    rw[Io,YE] at hi;obtain⟨n,_,rfl⟩:=hi;rfl) (fun k hk=>by
    rw[eq,YP] at hk;rw[YC,Box.cell hh,Y3 A0b];rfl) (fun fr hf=>by rw[hmg] at hf;cases hf) (fun i e hi j d hd=>by
    rw[Io,YE] at hi;obtain⟨n,hn,rfl⟩:=hi;cases j with
    |zero=>cases hd;rw[YP,ZE,hc i n hn];exact .x _
    |succ j=>cases hd)
   rwa [eq] at this
theorem gG {g N:Nat} {vs:List Value} {es:List (List Int)} {ty:TypeId} (hg:H g=some (.cells vs.toArray ty (0,0))) (hr:∀(i:Nat) (v:Value) (e:List Int),vs[i]?=some v->es[i]?=some e->RowI H v e) (hv:vs.length=N) (he:es.length=N) (hw:∀g ob,H g=some ob->w.heap[g]?=some ob) (hm:∀g,H g≠none->m g=none):
 Rd m w (.slice (some ⟨g,0,none⟩) N N) (.sl false 1 (es.map rI) none):=by
 have hh:=hw g _ hg;have hmg:=hm g A0z;have:=Rd.sl (m:=m) (w:=w) g 0 N 1 (es.map rI) none (fun k=>(vs[k]?).getD Go.undef) (ai hh) A0v (fun i e hi=>by
  rw[Io,YE] at hi;obtain⟨n,_,rfl⟩:=hi;rfl) (fun k hk=>by
  rw[eq,YP] at hk;rw[YC,Box.cell hh,ZL,io A0b];rfl) (fun fr hf=>by rw[hmg] at hf;cases hf) (fun i e hi j d hd=>by
  rw[Io,YE] at hi;obtain⟨n,hn,rfl⟩:=hi;cases j with
  |zero=>cases hd;have hil:=(iO.1 hn).1;rw[YP,ZE,io A0b];exact H6 (hr i _ n (io A0b) hn) hw hm
  |succ j=>cases hd)
 rwa [eq,he] at this
theorem DL {R S:List (List Int)} (hH:HQ ao ln cp C gP bD gR gS vR vS R S H) (hw:∀g ob,H g=some ob->w.heap[g]?=some ob) (hm:∀g,H g≠none->m g=none) (hk:Rd m w (.slice ao ln cp) (.sl false 3 (C.map aa) none)):Rd m w (.pointer (some ⟨bD,0,none⟩)) (vr (C,R,S)):=by
 have hbD:=hw bD _ hH.d;have hmD:=hm bD (by rw[hH.d];exact fun h=>by cases h);obtain⟨ents,clock,hp,hMX,hMb,hMn⟩:=hH.p;have hbP:=hw gP _ hp;have hmP:=hm gP (by rw[hp];exact fun h=>by cases h);have rfm:Rd m w (.map (some gP)) (.fm (ksI (plI 0 C)) (vsI (plI 0 C))):=by
  refine MapAt.freeze (m:=upd m gP (some 0)) ⟨ents,clock,hbP,hMX _ _,hMb,hMn,aj _ _ _⟩ ⟨YJ _,fun _ _ _ _ _ h=>h,fun b _ fr' hf=>?_,fun _ _ _ _ h=>h⟩ hmP;by_cases e:b=gP
  . rw[e,hmP] at hf;cases hf
  . exact⟨fr',by rw[ag _ _ e];exact hf,YJ _⟩
 have hlen:R.length=vR.length:=by rw[hH.lR,hH.lvR]
 have rR:=gG (m:=m) hH.r (fun i v e hi he=>hH.rows.row i v e (by rw[YN (iO.1 hi).1];exact hi) (by rw[YN (iO.1 he).1];exact he)) hH.lvR hH.lR hw hm;have rS:=gG (m:=m) hH.s (fun i v e hi he=>hH.rows.row (vR.length+i) v e (by rw[Y7 A0b,aas];exact hi) (by rw[Y7 A0b,show vR.length+i-R.length=i by omega];exact he)) hH.lvS hH.lS hw hm;refine .ip bD 0 _ (fun k=>(#[Value.slice ao ln cp,.map (some gP),.slice (some ⟨gR,0,none⟩) C.length C.length,.slice (some ⟨gS,0,none⟩) C.length C.length][k]?).getD Go.undef) (ai hbD) (fun k hk=>?_) (fun fr hf=>by rw[hmD] at hf;cases hf) (fun k d hk'=>?_)
 . rw[YC,Box.cell hbD];have hk4:k<4:=hk;rw[Y3 (by simpa using hk4)];rfl
 . rcases k with _|_|_|_|k
   . cases hk';exact hk
   . cases hk';exact rfm
   . cases hk';exact rR
   . cases hk';exact rS
   . cases hk'
theorem Td {w1:World} {a:Act} {H:Nat->Option Obj} (hn:C.Nodup) (h400:C.length<=400) (hsz:l≠[]->sz=20) (hl4:l.length<=400) (hcnt:∀e∈l,nH e.2.2.1<=400) (hkey:∀c∈C,cP (am l) c=true)
 (hpl:∀e∈l,e.2.1=false)
 (hH:HQ ao ln cp C gP bD gR gS (List.replicate C.length (.slice none 0 0)) (List.replicate C.length (.slice none 0 0)) (List.replicate C.length []) (List.replicate C.length []) H) (h1:HoldH bM 118 ⟨Kno.rd (.slice ao ln cp) (.sl false 3 (C.map aa) none),fun _=>true,#[],m,w⟩ H (au [(0,.sl nl sz (l.map cj) none),(3,.fm (ksI (am l)) (vsI (am l))),(4,.x (.pointer (some ⟨bD,0,none⟩)))] []) a w1):
 rQ.wpIn (bo none) 0 bM.P (fun e a' w'=>(e=Exit.normal∨e=Exit.ret)∧∃P' st',Hold bM 118 1 ⟨Kno.top,fun _=>true,#[],m,w⟩ P' st' a' w'∧dZ bM st' Tryz.f32.results.toList=some (vr (C,(eO l C C.length).1,(eO l C C.length).2))) a w1:=by
 have hE:=ik;have hm:=rO;refine wpIn_seq (wpIn_seq (wpIn_region ?_));obtain⟨fs,fd,f1,f2,f3,f4⟩:=lu 0 A0c;have t4:a.eval (.tmp 4)=(.pointer (some ⟨bD,0,none⟩)):=h1.read_x 4 A0g;have hbD:=h1.at hH.d;refine cv (i:=0) (rest:=[1,2,3,4,5]) (d:=54) rfl (fun c e=>by cases e) rfl A0c rfl rfl h1 (c8 rfl t4) ?_;intro a1 h6;refine cv (i:=1) (rest:=[2,3,4,5]) (d:=55) rfl (fun c e=>by cases e) rfl A0c rfl rfl h6 (eK (p:=⟨bD,0,none⟩) rfl (h6.read_x 54 (v:=(.pointer (some ⟨bD,0,none⟩))) A0g)) ?_;intro a2 h7;refine cv (i:=2) (rest:=[3,4,5]) (d:=56) rfl (fun c e=>by cases e) rfl A0c rfl rfl h7 (cH rfl f1 f2 f4 A0c (h7.read_x 55 (v:=(.pointer (some ⟨bD,0,none⟩))) A0g) (by rw[f3])) ?_;intro a3 h8;refine cv (i:=3) (rest:=[4,5]) (d:=57) rfl (fun c e=>by cases e) rfl A0c rfl rfl h8 (dM (v:= .slice ao ln cp) rfl A0a (h8.read_x 56 (v:=(.pointer (some ⟨bD,0,none⟩))) A0g) ((Box.cell hbD _).trans rfl)) ?_;intro a4 h9;have h10:=h9.know (d:=57) (u:= .sl false 3 (C.map aa) none) A0c (fun m hk=>by rw[show a4.tmps.getD 57 Go.undef= .slice ao ln cp from h9.read_x 57 A0g];exact hk)
 rw[dP] at h10;clear h1 h6 h7 h8 h9 t4 hbD a a1 a2 a3;refine yp hE 4 2 [(0,.sl nl sz (l.map cj) none),(3,.fm (ksI (am l)) (vsI (am l))),(4,.x (.pointer (some ⟨bD,0,none⟩))),(57,.sl false 3 (C.map aa) none),(58,.x (.int .i64 (C.length:Int))),(59,.x (.int .i64 ((0:Nat):Int)))] [] [] A0c A0a A0a h10 A0G ?_;clear h10 a4;intro a w6 h6;refine wpIn_block ?_;refine dE (X:={i:Nat//i<=C.length}) (fun i a' w'=>∃H vR vS,HQ ao ln cp C gP bD gR gS vR vS (eO l C i.1).1 (eO l C i.1).2 H∧HoldH bM 118 ⟨Kno.rd (.slice ao ln cp) (.sl false 3 (C.map aa) none),fun _=>true,#[],m,w⟩ H (au [(0,.sl nl sz (l.map cj) none),(3,.fm (ksI (am l)) (vsI (am l))),(4,.x (.pointer (some ⟨bD,0,none⟩))),(57,.sl false 3 (C.map aa) none),(58,.x (.int .i64 (C.length:Int))),(59,.x (.int .i64 ((i.1:Nat):Int)))] []) a' w') (fun i=>C.length-i.1) ⟨0,Zf _⟩ ⟨H,_,_,hH,h6⟩ ?_;clear h6 a w6 hH H w1;rintro⟨i,hi0⟩ a w6 ⟨H,vR,vS,hH,h1⟩;simp only at hi0 hH h1⊢;by_cases hi:i<C.length
 . have c1:decide ((i:Int)<(C.length:Int))=true:=Yz A0b;have c4:=aD (i:=i) A0b;have q1:C[i]?=some C[i]:=io hi;refine wpIn_seq (jS hE hm [(0,.sl nl sz (l.map cj) none),(3,.fm (ksI (am l)) (vsI (am l))),(4,.x (.pointer (some ⟨bD,0,none⟩))),(57,.sl false 3 (C.map aa) none),(58,.x (.int .i64 (C.length:Int))),(59,.x (.int .i64 (i:Int))),(60,.x (.bool true))] [] A0a A0a h1 A0u ?_);clear h1 a w6;intro a w6 h1;refine wpIn_seq (jS hE hm [(0,.sl nl sz (l.map cj) none),(3,.fm (ksI (am l)) (vsI (am l))),(4,.x (.pointer (some ⟨bD,0,none⟩))),(57,.sl false 3 (C.map aa) none),(58,.x (.int .i64 (C.length:Int))),(59,.x (.int .i64 (i:Int)))] [] A0a A0a h1 A0n ?_);clear h1 a w6;intro a w6 h1;refine wpIn_seq (Tc hn q1 h400 hsz hl4 hcnt (hkey _ (Y5 hi)) hpl hH h1 ?_);clear h1 a w6;intro a w6 H2 vR2 vS2 hH2 h1;refine jS hE hm [(0,.sl nl sz (l.map cj) none),(3,.fm (ksI (am l)) (vsI (am l))),(4,.x (.pointer (some ⟨bD,0,none⟩))),(57,.sl false 3 (C.map aa) none),(58,.x (.int .i64 (C.length:Int))),(59,.x (.int .i64 ((i+1:Nat):Int)))] [] A0a A0a h1 A0L ?_;intro a8 w8 h8;exact⟨⟨i+1,hi⟩,⟨H2,vR2,vS2,hH2,h8⟩,by simp only;omega⟩
 . have c1:decide ((i:Int)<(C.length:Int))=false:=YA A0b;have e:i=C.length:=A0b
   subst e;refine wpIn_seq (jS hE hm [(4,.x (.pointer (some ⟨bD,0,none⟩))),(60,.x (.bool false))] [] A0a A0a h1 A0u ?_);clear h1 a w6;intro a w6 h1;refine wpIn_seq (NQ hE hm 2 [(4,.x (.pointer (some ⟨bD,0,none⟩)))] [] A0a A0a h1 A0n ?_);clear h1 a w6;intro a w6 h1;refine wpIn_seq (jS hE hm [(2,.x (.pointer (some ⟨bD,0,none⟩)))] [] A0a A0a h1 A0n ?_);clear h1 a w6;intro a w6 h1;have e2:a.tmps.getD 2 Go.undef=(.pointer (some ⟨bD,0,none⟩)):=h1.read_x 2 A0g;have h2:Hold bM 118 1 ⟨Kno.rd (.pointer (some ⟨bD,0,none⟩)) (vr (C,(eO l C C.length).1,(eO l C C.length).2)),fun _=>true,#[],m,w⟩ [] (au [(2,.x (.pointer (some ⟨bD,0,none⟩)))] []) a w6:=HoldH.done h1 (fun m hm hk=>DL hH (fun g ob h=>h1.at h) hm hk);obtain⟨m2,O2,gs,r1,r2,r3,r4,r5,r6,r7⟩:=h2;have r8:=r1.learn (d:=2) A0c (u:=(vr (C,(eO l C C.length).1,(eO l C C.length).2))) (by rw[e2];exact r6);exact wpIn_ret ⟨.inr rfl,[],_,⟨m2,O2,gs,r8,r2,r3,r4,r5,trivial,r7⟩,by simp +decide (maxDischargeDepth:=200) only[go_sem,bM,vr]⟩
theorem zj:∀n:Nat,n<=l.length->cP (am (l.take n)) c=true->∃e∈l,e.1=c:=by
 intro n
 induction n with
 |zero=>intro _ h;simp[am,jA,cP,jW] at h
 | succ n ih=>
   intro hn h;have q1:l[n]?=some l[n]:=io A0b;have e:am (l.take (n+1))=fB (am (l.take n)) (l[n]).1 ((n:Nat):Int):=by unfold am;rw[aF q1,ep,YQ,YC,aae A0b]
   rw[e] at h;by_cases hc:c=(l[n]).1
   . exact⟨_,Y5 _,hc.symm⟩
   . exact ih A0b (rT _ _ _ _ hc h)
theorem ql (h:c∈(am l).map fun p=>p.1):∃e∈l,e.1=c:=
 zj l.length (YJ _) (by rw[Zy];exact cX.2 h)
theorem dG (L:List CI):(bR L).Nodup:=(kE L).imp fun {a b} h e=>by subst e;rw[bQ.irr] at h;cases h
def DM (p:ES):Prop:=K5 p∧∀e∈p.2.2,e.1.1.size<=281474976710656∧e.2.1=false
def dO (l:List En):PD:=(bR (am l),(eO l (bR (am l)) (bR (am l)).length).1,(eO l (bR (am l)) (bR (am l)).length).2)
open Classical in
noncomputable def Te (p:ES):Option V:=if DM p then some (vr (dO p.2.2)) else none
theorem vD (h:l.length<=400):(am l).length<=400:=by
 have:=gw (l':=l.map fun e=>e.1) (jh l) (fun c hc=>by obtain⟨e,he,rfl⟩:=ql hc;exact YR.2 ⟨e,he,rfl⟩)
 simp only[eq] at this;omega
theorem vE (h:l.length<=400):(bR (am l)).length<=400:=by have h1:=vD h;have:=gw (l':=(am l).map fun p=>p.1) (dG _) (fun c hc=>(gE _ _).1 hc);rw[eq] at this;omega
theorem H7:cM 32 (FE ct Te):=by
 refine ut (E:=bM) (n:=118) (sz:=1) (k:=1) Tryz.func32 rfl (fun a w=>Tryz.call32 a w) Tryz.ntmps32 A0c A0c ?_;intro us r m w a hF hdat h0;obtain⟨⟨nl,sz,l⟩,hus,hG⟩:=bE hF;clear hF;subst hus;unfold Te at hG;split at hG
 case isFalse=>cases hG
 rename_i hok;cases hG;obtain⟨⟨hsz,hl4,hcnt⟩,hs8⟩:=hok;simp only at hsz hl4 hcnt hs8;have hpl:∀e∈l,e.2.1=false:=fun e he=>(hs8 e he).2
 replace hs8:∀e∈l,e.1.1.size<=281474976710656:=fun e he=>(hs8 e he).1
 replace h0:=h0 rfl;refine⟨rfl,?_⟩;have h400:=vE hl4;have hn:=dG (am l);have hso:HT (am l):=⟨jh l,vD hl4,fun p hp=>by obtain⟨e,he,h⟩:=ql (l:=l) (c:=p.1) (YR.2 ⟨p,hp,rfl⟩);rw[<-h];exact hs8 e he⟩
 refine S8 (nl:=nl) (sz:=sz) (l:=l) ⟨hsz,hl4⟩ hs8 rfl h400 hn hso h0 (fun v15 gP bD H a' w' hHP h=>?_);obtain⟨ao,ln,cp,rfl⟩:∃ao ln cp,v15= .slice ao ln cp:=by obtain⟨m',O',_,_,_,_,q6,_⟩:=h;exact vy q6
 refine S9 h400 hHP h (fun gR gS H' a2 w2 hHQ h2=>?_);exact Td hn h400 hsz hl4 hcnt (fun c hc=>cX.2 ((gE _ _).1 hc)) hpl hHQ h2
end Go.Proofs.YtmfojhkjbkombaaGreat

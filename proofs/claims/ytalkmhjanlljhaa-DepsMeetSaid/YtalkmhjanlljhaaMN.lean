/- Chapter 12: package deps: the cells of a map, sorted. -/
import Derived.Test.YtalkmhjanlljhaaMQ
import Derived.Test.YtalkmhjanlljhaaMH
import Derived.Test.YtalkmhjanlljhaaMU
import Derived.Test.YtalkmhjanlljhaaMD
namespace Go.Proofs.Ytalkmhjanlljhaa
set_option linter.unusedSimpArgs false
set_option maxHeartbeats 16000000
set_option maxRecDepth 100000
open Go Go.RowKit
open Go.Sort (PermIn SortedIn)
open Go.ChangeMaps (setBlock)
attribute [go_sem] Try.results7 Try.results17
def aT (L:List CI):List C3:=(L.map fun p=>p.1).foldl eO []
theorem jI (L:List CI):eW ac (aT L):=mf _ List.Pairwise.nil
theorem fP (L:List CI) (c:C3):c∈aT L↔c∈L.map fun p=>p.1:=by unfold aT;rw[me];simp
def kC (L:List CI):List V:=[.fm (ksI L) (vsI L)]
theorem zN (p q:List CI) (e:kC p=kC q):p=q:=by
 simp only[kC,Tr,V.fm.injEq,Us] at e;obtain⟨h1,h2⟩:=e;have h3:(p.map fun p=>p.1)=q.map fun p=>p.1:=bB cu h1
 have h4:(p.map fun p=>p.2)=q.map fun p=>p.2:=by
  have e1:∀L:List CI,vsI L=(L.map fun p=>p.2).map fun i=>V.x (.int .i64 i):=fun L=>by unfold vsI;rw[Uq];rfl
  rw[e1,e1] at h2;exact bB (fun a b e=>by cases e;rfl) h2
 apply TY;intro i;have a1:=UY (fun l=>l[i]?) h3;have a2:=UY (fun l=>l[i]?) h4;simp only[SS] at a1 a2;cases hp:p[i]? with
 | none=>rw[hp] at a1;cases hq:q[i]? with
   |none=>rfl
   |some y=>rw[hq] at a1;cases a1
 | some y=>rw[hp] at a1 a2;cases hq:q[i]? with
   |none=>rw[hq] at a1;cases a1
   |some z=>rw[hq] at a1 a2;obtain⟨y1,y2⟩:=y;obtain⟨z1,z2⟩:=z;simp only[TG,Tl] at a1 a2;rw[a1,a2]
def Dn (L:List CI):Prop:=pt L∧L.length<=400∧∀p∈L,p.1.1.size<=281474976710656
open Classical in
noncomputable def IH (L:List CI):Option V:=if Dn L then some (.sl false 3 ((aT L).map aa) none) else none
def R7:V->C3
 | .agg [.x (.string s),.x (.int _ c),.x (.int _ r)]=>(s,c,r)
 |_=>(⟨#[]⟩,0,0)
def pg (sp:List (MapEntry×V)):Nat:=if sp.isEmpty then 8 else 18
theorem zO (sp:List (MapEntry×V)) (p:MapEntry×V):pg (sp++[p])=18:=by unfold pg;cases sp<;>rfl
def Kno.map (g:Nat) (ents:Array MapEntry) (clock:Nat):Kno:=⟨fun m w=>w.heap[g]?=some (.map ents clock)∧m g=none,fun _ _ _ _ h he=>⟨he.map _ _ _ h.2 h.1,he.noLim (dx h.1) h.2⟩⟩
theorem mB:EnvOK (br [(38,bz)] (fun _=>false) [] (fun i=>i==3) (fun _=>false)):=ic _ _ _ _ _ ⟨jY,trivial⟩ trivial
theorem zP:∀l:List V,(∀k∈l,∃p:C3,k=aa p)->∃ss:List C3,l=ss.map aa:=by
 intro l
 induction l with
 |nil=>exact fun _=>⟨[],rfl⟩
 |cons x l ih=>intro h;obtain⟨ss,rfl⟩:=ih (fun k hk=>h k (Tg _ hk));obtain⟨s,rfl⟩:=h x (Tm ..);exact⟨s::ss,rfl⟩
def Nc:Option Code->Code
 |some (Code.seq _ (Code.seq _ (Code.seq _ c)))=>c
 |_=>Code.skip
noncomputable def Nf:Code:=Nc Try.f17.body
theorem mZ:∀{a b:List C3},(a.map aa).Perm (b.map aa)->a.Perm b:=by
 intro a b h;have e:∀l:List C3,(l.map aa).map R7=l:=fun l=>by
  rw[Uq]
  conv=>rhs;rw[<-List.map_id l]
  exact Ug fun p _=>rfl
 have:=h.map R7
 rwa [e,e] at this
def xj (L:List CI):Prop:=∀(m:Lim) (w:World) (a':Act) (w':World) (l:List C3) (tok:Nat),l.Perm (L.map fun p=>p.1)->One (br [(38,bz)] (fun _=>false) [] (fun i=>i==3) (fun _=>false)) 40 ⟨[],Kno.top,fun _=>true,#[],fun _=>False,m,w⟩ (aq [(3,.ptr 3 0)] [(3,[.sl false 3 (l.map aa) (some tok)])]) a' w'->Nf.wpIn (aZ none) 0 Try.prog (fun e a' w'=>(e=Exit.normal∨e=Exit.ret)∧∃D' Kn W' t' st',One (br [(38,bz)] (fun _=>false) [] (fun i=>i==3) (fun _=>false)) 40 ⟨D',Kn,W',t',fun _=>False,m,w⟩ st' a' w'∧ew (br [(38,bz)] (fun _=>false) [] (fun i=>i==3) (fun _=>false)) st' Try.f17.results.toList=some (.sl false 3 ((aT L).map aa) none)) a' w'
theorem zQ (hrest:∀L,Dn L->xj L):cm 17 (FE kC IH):=by
 have hE:EnvOK (br [(38,bz)] (fun _=>false) [] (fun i=>i==3) (fun _=>false)):=mB;have hm:(br [(38,bz)] (fun _=>false) [] (fun i=>i==3) (fun _=>false)).P.follows .mixedOrders=true:=by kernel_rfl
 refine ja (E:=(br [(38,bz)] (fun _=>false) [] (fun i=>i==3) (fun _=>false))) (n:=40) (k:=1) hE Try.func17 rfl (fun a w=>Try.call17 a w) Try.ntmps17 (by decide) (by decide) ?_;intro us r m w a hF hdat h0;obtain⟨L,hus,hG⟩:=be hF;clear hF;subst hus;unfold IH at hG;split at hG
 case isFalse=>cases hG
 rename_i hok;cases hG;have hrest:=hrest L hok;obtain⟨hn,h400,hsz⟩:=hok;replace h0:=h0 rfl;refine⟨rfl,?_⟩;simp only[kC] at h0;refine wpIn_seq (fL hE hm [(0,.fm (ksI L) (vsI L))] [] (by kernel_rfl) h0 (by simp +decide (maxDischargeDepth:=200) only[go_sem,Nat.reduceBEq]<;>(repeat' first|rfl|constructor)) ?_);clear h0 a;intro a w1 h1;refine wpIn_seq (wpIn_region ?_);refine wG hE 0 1 [(0,.fm (ksI L) (vsI L)),(6,.fm (ksI L) (vsI L))] [] [1,2,3,4] (by decide) (by kernel_rfl) h1 (by simp +decide (maxDischargeDepth:=200) only[go_sem,Nat.reduceBEq]<;>(repeat' first|rfl|constructor)) ?_;clear h1 a w1;intro a w1 h1;obtain⟨g,ents,clock,he6,hh1,hrd1,hlt,hnd⟩:∃g ents clock,a.tmps.getD 6 Go.undef= .map (some g)∧w1.heap[g]?=some (.map ents clock)∧ents.size=L.length∧(∀e∈ents.toList,e.born<clock)∧(ents.toList.map (·.born)).Nodup:=by obtain⟨m1,O1,hn1,_⟩:=h1;have hrd:=dp hn1 6 (u:= .fm (ksI L) (vsI L)) (by simp only[go_sem,Nat.reduceEqDiff,SZ,S7,bw,aq]) rfl;obtain⟨g,ents,clock,e,q1,q2,q3,q4,_⟩:=hrd.fm_at;refine⟨g,ents,clock,e,q1,?_,q3,q4⟩;have:=q2.len.1;simp only[ksI,io,Tc] at this;exact this
 refine pb (i:=1) (rest:=[2,3,4]) (d:=7) rfl (fun c e=>by cases e) rfl (by decide) rfl rfl h1 (.int .i64 (ents.size:Int)) ?_ ?_
 . have e6:a.eval (.tmp 6)= .map (some g):=he6;have hu:Try.prog.underlying 46=some (.map (Try.prog.mapKeyOf 46) (Try.prog.mapElemOf 46)):=by kernel_rfl
   have hl:=run_len_map (P:=Try.prog) w1 46 3 g ents clock hu hh1;simp only[execOp,resolve,Sem.run_bind,Sem.run_pure,Result.andThen_ok,invoke,builtin,List.map_toArray,Tv,List.map_nil,e6,dg,iZ];rw[hl];rfl
 clear h1;intro a2 h1 ha2;rw[hrd1] at h1;have c0:(0:Int)<=(L.length:Int):=by omega
 have c1:(16*2:Int)*(L.length:Int)<=281474976710656:=by omega
 have c6:(L.length:Int)<=9223372036854775807:=by omega
 have c7:((32:Nat):Int)*(L.length:Int)<=281474976710656:=by omega
 refine wG hE 2 3 [(0,.fm (ksI L) (vsI L)),(3,.ptr 3 0)] [(3,[.sl false 3 [] (some 8)])] [] (by decide) (by kernel_rfl) h1 (by simp +decide (maxDischargeDepth:=200) only[go_sem,Nat.reduceBEq,St.put,c0,c6,c7]<;>(repeat' first|rfl|constructor)) ?_;clear h1 hh1 he6 ha2 a a2 w1 hlt hnd hrd1 ents clock g;intro a w1 h1;refine wpIn_seq (wpIn_seq (wpIn_region ?_));refine wG hE 0 1 [(3,.ptr 3 0),(9,.fm (ksI L) (vsI L))] [(3,[.sl false 3 [] (some 8)])] [1] (by decide) (by kernel_rfl) h1 (by simp +decide (maxDischargeDepth:=200) only[go_sem,Nat.reduceBEq]<;>(repeat' first|rfl|constructor)) ?_;clear h1 a w1;intro a w1 h1;obtain⟨m1,O1,hn1,g2,g3,g4,g5,g6⟩:=h1;obtain⟨g,ents,clock,he9,hh1,hrd1,hlt,hnd,hmg⟩:=(dp hn1 9 (u:= .fm (ksI L) (vsI L)) (by simp only[go_sem,Nat.reduceEqDiff,SZ,S7,bw,aq]) rfl).fm_at;rw[wpOpsIn_cons];have he9':a.eval (.tmp 9)= .map (some g):=he9
 refine cC (v:= .pointer (some ⟨w1.heap.size,0,none⟩)) (w':=w1.alloc (.mapIter (some g) clock #[] clock)) rfl rfl (by intro c e;cases e) (by simp only[execOp,he9',Sem.run_bind,fy (P:=Try.prog) Try.underlying46 hh1,Result.andThen_ok,Sem.run_pure,iZ]) ?_
 have hbl:Below w1.heap.size w1 (w1.alloc (.mapIter (some g) clock #[] clock)):=(Below.refl _ w1).alloc (SX _) _;have hst:Step (fun _=>False) m1 w1 m1 (w1.alloc (.mapIter (some g) clock #[] clock)):=Step.of_below hbl (fun _ _=>rfl);have hJ1:(br [(38,bz)] (fun _=>false) [] (fun i=>i==3) (fun _=>false)).J (w1.alloc (.mapIter (some g) clock #[] clock)):=hE.keep [] _ _ (fun x hx=>by cases hx) hn1.J ⟨hbl.os,hbl.tape,hbl.output,hbl.size,fun k hk _=>hbl.block k hk⟩;have hKr:(br [(38,bz)] (fun _=>false) [] (fun i=>i==3) (fun _=>false)).K<=w1.heap.size:=hE.high _ hn1.J;have hws:w.heap.size<=w1.heap.size:=g3.ext.size;have hgr:g≠w1.heap.size:=by have:=ae hh1;omega
 have h2:=OneG.after (E:=(br [(38,bz)] (fun _=>false) [] (fun i=>i==3) (fun _=>false))) (n:=40) (Kn':=Kno.map g ents clock) (d:=10) (g:=w1.heap.size) (ob:= .mapIter (some g) clock #[] clock) (by decide) (v:= .pointer (some ⟨w1.heap.size,0,none⟩)) hn1 g2 g3 g4 g6 rfl hst hJ1 ⟨(Below.heap_alloc _ _ _ (ae hh1)).trans hh1,by rw[ah _ _ hgr];exact hmg⟩ (SX _) (World.heap_new _ _);generalize w1.heap.size=rr at h2 hKr hws hgr;generalize w1.alloc _=w2 at h2⊢;clear hst hJ1 hbl hn1 g2 g3 g4 g5 g6 he9 he9' hmg;replace h2:=h2.le (st':=aq [(3,.ptr 3 0),(10,.x (.pointer (some ⟨rr,0,none⟩)))] [(3,[.sl false 3 [] (some 8)])]) (aL (by simp +decide (maxDischargeDepth:=200) only[go_sem,Nat.reduceBEq,St.put]<;>(repeat' first|rfl|constructor)) (by simp +decide (maxDischargeDepth:=200) only[go_sem,Nat.reduceBEq,St.put]<;>(repeat' first|rfl|constructor)));obtain⟨ps,hps⟩:∃ps,ps=ents.toList.zip (ksI L):=⟨_,rfl⟩;have hlen:=hrd1.len.1;have hp1:ps.map (fun p=>p.1)=ents.toList:=by rw[hps];exact List.map_fst_zip (by omega)
 have hp2:ps.map (fun p=>p.2)=ksI L:=by rw[hps];exact List.map_snd_zip (by omega)
 have hpb:(ps.map fun p=>p.1.born).Nodup:=by
  have:(ps.map fun p=>p.1.born)=(ps.map fun p=>p.1).map (·.born):=by rw[Uq];rfl
  rw[this,hp1];exact hnd
 have hpk:∀p∈ps,p.2.val=some p.1.key:=fun p hp=>by obtain⟨i,hi⟩:=TN hp;rw[hps,Vs] at hi;obtain⟨k,v,q1,_,q2,_⟩:=hrd1.get i p.1 hi.1;rw[q1] at hi;cases hi.2;exact q2.2
 have hks:∀k∈ksI L,∃p:C3,k=aa p:=fun k hk=>by obtain⟨p,_,rfl⟩:=SU.1 hk;exact⟨p,rfl⟩
 clear hrd1 hh1;refine(show wpOpsIn (aZ none) 0 _ _ _ [] _ _ from ?_);refine wpIn_block ?_;refine bR (X:=List (MapEntry×V)) (fun sp a' w'=>(∀p∈sp,p∈ps)∧(sp.map fun p=>p.1.born).Nodup∧OneG (br [(38,bz)] (fun _=>false) [] (fun i=>i==3) (fun _=>false)) 40 ⟨[],Kno.map g ents clock,fun _=>true,#[],fun _=>False,m,w⟩ (aq [(3,.ptr 3 0),(10,.x (.pointer (some ⟨rr,0,none⟩)))] [(3,[.sl false 3 (sp.map fun p=>p.2) (some (pg sp))])]) a' w' rr (.mapIter (some g) clock (sp.map fun p=>p.1.born).toArray clock) (some 0)) (fun sp=>(ents.toList.filter fun e=> !(sp.map fun p=>p.1.born).contains e.born).length) [] ⟨(fun p hp=>by cases hp),TE,h2⟩ ?_;clear h2 w2 a w1;rintro sp a2 w2 ⟨hsub,hspn,h2⟩;refine wpIn_seq (wpIn_region ?_);show wpOpsIn (aZ none) 0 _ _ _ (0::List.range' 1 1++[]) _ _;rw[TI,wpOpsIn_cons];have h2':=h2;obtain⟨m2,O2,hn2,-,-,-,⟨k6,-⟩,-,-,k8,-⟩:=h2';have he10:a2.eval (.tmp 10)= .pointer (some ⟨rr,0,none⟩):=hn2.read_x 10 (by simp only[go_sem,Nat.reduceEqDiff,SZ,S7,bw,aq]);have hcont:∀b:Nat,((sp.map fun p=>p.1.born).toArray.contains b)=(sp.map fun p=>p.1.born).contains b:=fun b=>by simp
 rcases run_next_at (P:=Try.prog) w2 0 rr g clock clock _ ents clock k8 k6 hlt (SX _) with⟨hz,hrun⟩|⟨e,he,w3,hw3,hrun⟩
 . --nothing is left
   refine cC (v:= .tuple #[.bool false]) (w':=w2) rfl rfl (by intro c e;cases e) (by simp only[execOp,he10,Sem.run_bind,iZ];rw[hrun];rfl) ?_;have h3:=OneG.putV (d:=11) (v:= .tuple #[.bool false]) (u:= .tup [.x (.bool false)]) (by decide) rfl h2 (fun _ _=>Rd.tup_iff.2 ⟨_,rfl,.x _,trivial⟩);rw[cx] at h3;refine fl hE 1 1 [(3,.ptr 3 0),(12,.x (.bool false))] [(3,[.sl false 3 (sp.map fun p=>p.2) (some (pg sp))])] [] (by decide) (by kernel_rfl) (by kernel_rfl) h3 (by simp +decide (maxDischargeDepth:=200) only[go_sem,Nat.reduceBEq]<;>(repeat' first|rfl|constructor)) ?_;clear h3 h2 hn2;intro a3 w3 h3;refine wpIn_seq (xg hE hm 0 [(3,.ptr 3 0)] [(3,[.sl false 3 (sp.map fun p=>p.2) (some (pg sp))])] (by kernel_rfl) (by kernel_rfl) h3 (by simp +decide (maxDischargeDepth:=200) only[go_sem,Nat.reduceBEq]<;>(repeat' first|rfl|constructor)) ?_);clear h3 a3 w3;intro a3 w3 h3;have hperm:sp.Perm ps:=l6 hpb hsub hspn (fun p hp=>by
    have hz':Go.leftOf ents (sp.map fun p=>p.1.born).toArray= #[]:=TV hz;have:p.1∈ents.toList:=by rw[<-hp1];exact SU.2 ⟨p,hp,rfl⟩
    unfold Go.leftOf at hz';rw[Vt] at hz';have:=hz' p.1 (by simpa using this);rw[hcont] at this;simpa using this)
   have hpk2:(sp.map fun p=>p.2).Perm (ksI L):=by rw[<-hp2];exact hperm.map _
   obtain⟨l,hl⟩:=zP (sp.map fun p=>p.2) (fun k hk=>hks k (hpk2.mem_iff.1 hk));have hlp:l.Perm (L.map fun p=>p.1):=by rw[hl] at hpk2;exact mZ hpk2
   have h4:=h3.one;rw[hl] at h4;obtain⟨m4,O4,r1,r2,r3,r4,_,r6⟩:=h4;exact hrest m w a3 w3 l (pg sp) hlp ⟨m4,O4,r1,r2,r3,r4,trivial,r6⟩
 . --an entry has come
   obtain⟨hem,hnew⟩:=mem_left he;rw[hcont] at hnew;obtain⟨pe,hpe,rfl⟩:∃p∈ps,p.1=e:=by rw[<-hp1] at hem;obtain⟨p,hp,rfl⟩:=SU.1 hem;exact⟨p,hp,rfl⟩
   obtain⟨e,kv⟩:=pe;simp only at hem hnew hrun;have hkey:=hpk _ hpe;simp only at hkey;have hkin:kv∈ksI L:=by rw[<-hp2];exact SU.2 ⟨_,hpe,rfl⟩
   obtain⟨pc,rfl⟩:=hks kv hkin;have hkrd:∀(m:Lim) (w:World),Rd m w e.key (aa pc):=fun m w=>by have hk2:(aa pc).val=some e.key:=hkey;simp only[V.val,aa,UO,V.one,List.mapM_nil,Vc,US,TZ,TG,Tl] at hk2;rw[<-hk2];exact Rd.agg_iff.2 ⟨_,rfl,.x _,.x _,.x _,trivial⟩
   have hseen:(sp.map fun p=>p.1.born).toArray.push e.born=((sp++[(e,aa pc)]).map fun p=>p.1.born).toArray:=by simp
   rw[hseen] at hrun;have hs3:Step (fun k=>k=rr) m2 w2 m2 (setBlock w3 rr (.mapIter (some g) clock ((sp++[(e,aa pc)]).map fun p=>p.1.born).toArray clock)):=Step.iter hw3 k8;have hr3:=fw (o:= .mapIter (some g) clock ((sp++[(e,aa pc)]).map fun p=>p.1.born).toArray clock) hw3 k8;refine cC (v:= .tuple #[.bool true,e.key,e.val]) (w':=setBlock w3 rr (.mapIter (some g) clock ((sp++[(e,aa pc)]).map fun p=>p.1.born).toArray clock)) rfl rfl (by intro c e;cases e) (by simp only[execOp,he10,Sem.run_bind,iZ];rw[hrun];rfl) ?_;have h3:=(OneG.wrote hE h2 (fun l e=>by cases e) hws hKr (hs3.bel (fun k _ h=>Tf.2 h)) hr3).putV (d:=11) (v:= .tuple #[.bool true,e.key,e.val]) (u:= .tup [.x (.bool true),.undef,.undef]) (by decide) rfl (fun _ _=>Rd.tup_iff.2 ⟨_,rfl,.x _,.undef _,.undef _,trivial⟩);rw[cx] at h3;clear hn2 h2 k6 k8 hs3 hr3 hrun he10 hw3;generalize setBlock w3 rr _=w4 at h3;refine fl hE 1 1 [(3,.ptr 3 0),(10,.x (.pointer (some ⟨rr,0,none⟩))),(12,.x (.bool true))] [(3,[.sl false 3 (sp.map fun p=>p.2) (some (pg sp))])] [] (by decide) (by kernel_rfl) (by kernel_rfl) h3 (by simp +decide (maxDischargeDepth:=200) only[go_sem,Nat.reduceBEq]<;>(repeat' first|rfl|constructor)) ?_;clear h3;intro a3 w5 h3;refine wpIn_seq (gm hE hm [(3,.ptr 3 0),(10,.x (.pointer (some ⟨rr,0,none⟩)))] [(3,[.sl false 3 (sp.map fun p=>p.2) (some (pg sp))])] (by kernel_rfl) (by kernel_rfl) h3 (by simp +decide (maxDischargeDepth:=200) only[go_sem,Nat.reduceBEq]<;>(repeat' first|rfl|constructor)) ?_);clear h3 a3 w5;intro a3 w5 h3;refine wpIn_block (wpIn_seq (wpIn_region ?_));show wpOpsIn (aZ none) 0 _ _ _ (0::List.range' 1 3++[]) _ _;rw[TI,wpOpsIn_cons];have h3':=h3;obtain⟨m5,O5,hn5,-,-,-,⟨k6,-⟩,-,-,k8,-⟩:=h3';have he10:a3.eval (.tmp 10)= .pointer (some ⟨rr,0,none⟩):=hn5.read_x 10 (by simp only[go_sem,Nat.reduceEqDiff,SZ,S7,bw,aq]);have hen:=run_entry_at (P:=Try.prog) w5 rr g clock (sp.map fun p=>p.1.born).toArray ents clock e (by rw[hseen];exact k8) k6 hem hnd;refine cC (v:= .tuple #[e.key,e.val]) (w':=w5) rfl rfl (by intro c e;cases e) (by simp only[execOp,he10,Sem.run_bind,iZ];rw[hen];rfl) ?_;have h4:=h3.putV (d:=13) (v:= .tuple #[e.key,e.val]) (u:= .tup [aa pc,.undef]) (by decide) rfl (fun _ _=>Rd.tup_iff.2 ⟨_,rfl,hkrd _ _,.undef _,trivial⟩);rw[cx] at h4;clear hn5 h3 k6 k8 he10 hen;refine fl hE 1 3 [(3,.ptr 3 0),(10,.x (.pointer (some ⟨rr,0,none⟩))),(4,.ptr 4 0)] [(3,[.sl false 3 (sp.map fun p=>p.2) (some (pg sp))]),(4,[.x (.string pc.1),.x (.int .i64 pc.2.1),.x (.int .i64 pc.2.2)])] [] (by decide) (by kernel_rfl) (by kernel_rfl) h4 (by simp +decide (maxDischargeDepth:=200) only[go_sem,Nat.reduceBEq,aa]<;>(repeat' first|rfl|constructor)) ?_;clear h4 a3 w5;intro a3 w5 h3;have hsub2:∀p∈sp++[(e,aa pc)],p∈ps:=fun p hp=>by
    rcases Ta.1 hp with hp|hp
    . exact hsub p hp
    . rw[Tf.1 hp];exact hpe
   have hspn2:((sp++[(e,aa pc)]).map fun p=>p.1.born).Nodup:=by
    rw[TH,Uj];refine⟨hspn,by simp,fun b hb c hc e1=>?_⟩;have hc1:c=e.born:=by simpa using hc
    subst hc1;subst e1;have:(sp.map fun p=>p.1.born).contains e.born=true:=by simpa using hb
    rw[this] at hnew;cases hnew
   have hspl:sp.length<=400:=by
    have:=dw (cW _ hspn) hsub;have h5:ps.length=L.length:=by have:=UY List.length hp2;simpa[ksI] using this
    omega
   have gg:=wO (E:=(br [(38,bz)] (fun _=>false) [] (fun i=>i==3) (fun _=>false))) (el:=32) (n:=3) yd ye yf (by decide) rfl (es:=sp.map fun p=>p.2) (es':=[aa pc]) (m:=3) (fun _=>rfl) rfl (by simp only[io,SV,Tu];omega) (by simp only[io,SV,Tu];omega);simp only[aa] at gg;refine gm hE hm [(3,.ptr 3 0),(10,.x (.pointer (some ⟨rr,0,none⟩)))] [(3,[.sl false 3 ((sp.map fun p=>p.2)++[aa pc]) (some 18)])] (by kernel_rfl) (by kernel_rfl) h3 (by simp +decide (maxDischargeDepth:=200) only[go_sem,Nat.reduceBEq,aa,gg]<;>(repeat' first|rfl|constructor)) ?_;clear h3 a3 w5 gg;intro a3 w5 h3;refine⟨sp++[(e,aa pc)],⟨hsub2,hspn2,?_⟩,?_⟩
   . rw[zO,TH];exact h3
   . refine fi (fun e'=> !(sp.map fun p=>p.1.born).contains e'.born) (fun e'=> !((sp++[(e,aa pc)]).map fun p=>p.1.born).contains e'.born) (fun y hy=>?_) _ e hem (by rw[hnew];rfl) (by simp);simp only[TH,List.contains_append,Bool.not_or,SR] at hy;exact hy.1
variable {st:St} {ops:List Oper} {L:Nat}
theorem gX {val:Nat->Value} {k:Nat} (h:(ops.all fun o=>o.dst !=some k)=true):(sm st val ops L).t k=st.t k:=by
 show(if cq ops L k=true then V.x (val k) else st.t k)=_;rw[S8];unfold cq;intro hd;obtain⟨i,_,hi⟩:=T8.1 hd;rw[SR] at hi;split at hi
 . rename_i o ho;have:=SW.1 h o (S9 ho);rw[eq_of_beq hi.2] at this;simp at this
 . cases hi.2
def RT (V0:Value) (g i:Nat) (s:ByteArray) (k:Nat):Value:=
 if k=28 then V0 else if k=29 then .int .i64 (i:Int) else if k=30 then V0 else if k=31 then .int .i64 (i:Int) else if k=34 then .string s else if k=35 then .string s else .pointer (some ⟨g,i*3,none⟩)
def Ng:Nat->List Nat
 |4=>[30,31]
 |5=>[32]
 |6=>[33]
 |7=>[34]
 |8=>[28,29]
 |9=>[36]
 |10=>[35,37]
 |_=>[]
theorem zR (l:List C3):(l.flatMap bP).length=l.length*3:=by
 induction l with
 |nil=>rfl
 |cons c l ih=>rw[TB,SQ,ih,SV,show(bP c).length=3 from rfl];omega
theorem Iw:∃fs fd,Try.prog.underlying 32=some (.struct fs)∧fs[0]?=some fd∧fd.offset=0∧aY Try.prog fd.type=some 1:=⟨_,_,Try.underlying32,rfl,rfl,by kernel_rfl⟩
theorem Do (L:List CI) (hok:Dn L):xj L:=by
 have hE:EnvOK (br [(38,bz)] (fun _=>false) [] (fun i=>i==3) (fun _=>false)):=mB;have hm:(br [(38,bz)] (fun _=>false) [] (fun i=>i==3) (fun _=>false)).P.follows .mixedOrders=true:=by kernel_rfl
 intro m w a1 w1 l tok hp h1;obtain⟨hn,h400,hsz⟩:=hok;have hll:l.length=L.length:=hp.length_eq.trans (by simp);have hnd:l.Nodup:=hp.nodup_iff.2 hn;obtain⟨g,cap,cur,ty,m0,h2,hcap,hgs,hKg,hrd⟩:=One.shedB (E:=(br [(38,bz)] (fun _=>false) [] (fun i=>i==3) (fun _=>false))) (fun _=>rfl) rfl (fun _ h=>h) rfl h1;have hlen:(l.map aa).length=l.toArray.size:=by simp
 rw[hlen] at h2 hcap hrd;replace h2:OneG (br [(38,bz)] (fun _=>false) [] (fun i=>i==3) (fun _=>false)) 40 ⟨[],Kno.top,fun _=>true,#[],fun _=>False,m,w⟩ (aq [(3,.ptr 3 0)] [(3,[.x (.slice (some ⟨g,0,none⟩) l.toArray.size cap)])]) a1 w1 g (.cells cur ty (0,0)) (some 0):=h2;have hhg:w1.heap[g]?=some (.cells cur ty (0,0)):=by obtain⟨m5,O5,_,_,_,_,_,_,_,hh9,_⟩:=h2;exact hh9
 have hcur:=Df rfl hrd hhg;clear h1 hrd hhg;refine wpIn_seq (wpIn_region ?_);refine fl hE 0 1 [(3,.ptr 3 0),(19,.x (.slice (some ⟨g,0,none⟩) l.toArray.size cap))] [(3,[.x (.slice (some ⟨g,0,none⟩) l.toArray.size cap)])] [1,2,3] (by decide) (by kernel_rfl) (by kernel_rfl) h2 (by simp +decide (maxDischargeDepth:=200) only[go_sem,Nat.reduceBEq]<;>(repeat' first|rfl|constructor)) ?_;clear h2 a1 w1;intro a7 w7 h7;have e19:a7.eval (.tmp 19)=(.slice (some ⟨g,0,none⟩) l.toArray.size cap):=h7.read_x 19 (by simp only[go_sem,Nat.reduceEqDiff,SZ,S7,bw,aq]);refine gU (i:=1) (rest:=[2,3]) (d:=20) rfl (fun c e=>by cases e) rfl (by decide) rfl rfl h7 (.iface 27 (.slice (some ⟨g,0,none⟩) l.toArray.size cap)) ?_ ?_
 . have hmi:(Instr.makeInterface 27 (.slice (some ⟨g,0,none⟩) l.toArray.size cap)).run Try.prog w7= .ok (.iface 27 (.slice (some ⟨g,0,none⟩) l.toArray.size cap)) w7:=run_makeInterface _ _ _ (by kernel_rfl);simp only[execOp,Sem.run_bind,e19,iZ,hmi,Result.andThen_ok,Sem.run_pure]
 intro a8 h8 ha8;obtain⟨Bk,valsB,tyB,frB,e3,hB,hB0,hne⟩:∃Bk vals tyB frB,a8.tmps.getD 3 Go.undef= .pointer (some ⟨Bk,0,none⟩)∧w7.heap[Bk]?=some (.cells vals tyB frB)∧vals[0]?=some (.slice (some ⟨g,0,none⟩) l.toArray.size cap)∧Bk≠g:=by obtain⟨m5,O5,hn5,_,_,_,_,_,hng,_⟩:=h8;obtain⟨b,vals,ty,fr,e,e2,e3,e4⟩:=hn5.box_at (i:=3) (s:=3) (v:=(.slice (some ⟨g,0,none⟩) l.toArray.size cap)) (by simp only[go_sem,St.put,Nat.reduceEqDiff,SZ,S7,bw,aq]) (by simp only[go_sem,St.put,Nat.reduceEqDiff,SZ,S7,Ab,aq]);exact⟨b,vals,ty,fr,e,e2,e3,fun e=>hng (e▸e4)⟩
 refine gU (i:=2) (rest:=[3]) (d:=21) rfl (fun c e=>by cases e) rfl (by decide) rfl rfl h8 (.func (.func 36) #[] #[.pointer (some ⟨Bk,0,none⟩)]) ?_ ?_
 . have e3':a8.eval (.tmp 3)= .pointer (some ⟨Bk,0,none⟩):=e3;simp only[execOp,Sem.run_bind,Instr.makeFunc,Sem.run_pure,Result.andThen_ok];simp[e3']
 intro a9 h9 ha9;have e20:a9.tmps.getD 20 Go.undef= .iface 27 (.slice (some ⟨g,0,none⟩) l.toArray.size cap):=h9.read_x 20 (by simp only[go_sem,St.put,Nat.reduceEqDiff,SZ,S7,bw,aq]);have e21:a9.tmps.getD 21 Go.undef= .func (.func 36) #[] #[.pointer (some ⟨Bk,0,none⟩)]:=h9.read_x 21 (by simp only[go_sem,St.put,Nat.reduceEqDiff,SZ,S7,bw,aq]);obtain⟨hj9,hh9⟩:(ar []).J w7∧w7.heap[g]?=some (.cells cur ty (0,0)):=by obtain⟨m5,O5,hn5,_,_,_,_,_,_,hh9,_⟩:=h9;exact⟨hn5.J,hh9⟩
 have hS:=Iv (blk:=g) (Bk:=Bk) (cap:=cap) (d:=l.toArray) hh9 (by simpa using hcur) hB hB0 hne hcap (by simp only[Uk];unfold MX;omega) hKg hj9;refine iv (i:=3) (rest:=[]) rfl rfl rfl rfl (fun a w=>Try.call35 a w) (by rw[show Array.map a9.eval #[.tmp 20,.tmp 21]= #[a9.tmps.getD 20 Go.undef,a9.tmps.getD 21 Go.undef] from by simp[Act.eval],e20,e21];exact hS) ?_;rintro e w8 ⟨rfl,d',hp',hs8,hb8,m8,hbx⟩;refine⟨_,rfl,?_⟩;obtain⟨hsrt,hpm⟩:=De hp' hs8 (by simpa using hnd);have hrn:d'.toList=aT L:=gO bq hsrt (jI L) (fun c=>by rw[fP,hpm.mem_iff];exact hp.mem_iff)
 have hds:d'.size=l.toArray.size:=hp'.1;obtain⟨_,vals,ty8,xs,rest,hh8,hx8,hr8⟩:=hbx;rw[co,hrn] at hr8;have hxs:=kB hr8;subst hxs;have hC:(aT L).length=l.toArray.size:=by rw[<-hrn,Tc,hds]
 have hmC:∀c∈aT L,c.1.size<=281474976710656:=fun c hc=>by rw[fP] at hc;obtain⟨p,hp,rfl⟩:=SU.1 hc;exact hsz p hp
 have hN4:l.toArray.size<=400:=by simp only[Uk];omega
 generalize aT L=C at*;have h10:=(OneG.wrote hE h9 (fun l e=>by cases e) hgs hKg hb8 hh8).putV (d:=22) (v:= .tuple #[]) (u:= .undef) (by decide) rfl (fun _ _=> .undef _);show Exit.then _ _ Exit.normal _ _;generalize a9.put (some 22) _=a10 at h10;clear e19 h7 h8 ha8 e3 hB hB0 hne h9 ha9 e20 e21 hj9 hh9 hS hs8 hb8 hr8 hsrt hpm hcur hp' hh8;generalize hNN:l.toArray.size=N at*;have hvs:vals.toList=C.flatMap bP++rest:=hx8;clear hx8 hrn;refine wpIn_seq (wpIn_seq (wpIn_region ?_));refine fl hE 0 1 [(3,.ptr 3 0),(23,.x (.slice (some ⟨g,0,none⟩) N cap))] [(3,[.x (.slice (some ⟨g,0,none⟩) N cap)])] [1,2] (by decide) (by kernel_rfl) (by kernel_rfl) h10 (by simp +decide (maxDischargeDepth:=200) only[go_sem,Nat.reduceBEq,St.put,dK]<;>(repeat' first|rfl|constructor)) ?_;clear h10 a10;intro a1 w1 h1;have e23:a1.eval (.tmp 23)=(.slice (some ⟨g,0,none⟩) N cap):=h1.read_x 23 (by simp only[go_sem,Nat.reduceEqDiff,SZ,S7,bw,aq]);refine gU (i:=1) (rest:=[2]) (d:=24) rfl (fun c e=>by cases e) rfl (by decide) rfl rfl h1 (.int .i64 (N:Int)) ?_ ?_
 . have hu:(br [(38,bz)] (fun _=>false) [] (fun i=>i==3) (fun _=>false)).P.underlying 27=some (.slice 32):=by kernel_rfl
   simp[execOp,resolve,invoke,builtin,Builtin.len_,e23,ax hu,goInt]
 clear h1;intro a2 h1 ha2;refine fl hE 2 1 [(3,.ptr 3 0),(24,.x (.int .i64 (N:Int))),(25,.x (.int .i64 ((0:Nat):Int)))] [(3,[.x (.slice (some ⟨g,0,none⟩) N cap)])] [] (by decide) (by kernel_rfl) (by kernel_rfl) h1 (by simp +decide (maxDischargeDepth:=200) only[go_sem,Nat.reduceBEq,St.put,T9]<;>(repeat' first|rfl|constructor)) ?_;clear h1 e23 ha2 a1 a2 w1;intro a1 w1 h1;refine wpIn_block ?_;refine bR (X:={i:Nat//i<=N}) (fun i a' w'=>OneG (br [(38,bz)] (fun _=>false) [] (fun i=>i==3) (fun _=>false)) 40 ⟨[],Kno.top,fun _=>true,#[],fun _=>False,m,w⟩ (aq [(3,.ptr 3 0),(24,.x (.int .i64 (N:Int))),(25,.x (.int .i64 ((i.1:Nat):Int)))] [(3,[.x (.slice (some ⟨g,0,none⟩) N cap)])]) a' w' g (.cells vals ty8.ty ty8.fz) (some 0)) (fun i=>N-i.1) ⟨0,TL _⟩ h1 ?_;clear h1 a1 w1;rintro⟨i,hi0⟩ a1 w1 h1;simp only at hi0 h1⊢;by_cases hi:i<N
 . have c1:decide ((i:Int)<(N:Int))=true:=Io (by omega);have c4:=bp (i:=i) (by omega);refine wpIn_seq (gm hE hm [(3,.ptr 3 0),(24,.x (.int .i64 (N:Int))),(25,.x (.int .i64 (i:Int))),(26,.x (.bool true))] [(3,[.x (.slice (some ⟨g,0,none⟩) N cap)])] (by kernel_rfl) (by kernel_rfl) h1 (by simp +decide (maxDischargeDepth:=200) only[go_sem,Nat.reduceBEq,c1]<;>(repeat' first|rfl|constructor)) ?_);clear h1 a1 w1;intro a1 w1 h1;refine wpIn_seq (gm hE hm [(3,.ptr 3 0),(24,.x (.int .i64 (N:Int))),(25,.x (.int .i64 (i:Int)))] [(3,[.x (.slice (some ⟨g,0,none⟩) N cap)])] (by kernel_rfl) (by kernel_rfl) h1 (by simp +decide (maxDischargeDepth:=200) only[go_sem,Nat.reduceBEq]<;>(repeat' first|rfl|constructor)) ?_);clear h1 a1 w1;intro a1 w1 h1;refine wpIn_seq (wpIn_block (wpIn_seq (gm hE hm [(3,.ptr 3 0),(24,.x (.int .i64 (N:Int))),(25,.x (.int .i64 (i:Int))),(5,.x (.int .i64 (i:Int)))] [(3,[.x (.slice (some ⟨g,0,none⟩) N cap)])] (by kernel_rfl) (by kernel_rfl) h1 (by simp +decide (maxDischargeDepth:=200) only[go_sem,Nat.reduceBEq]<;>(repeat' first|rfl|constructor)) ?_)));clear h1 a1 w1;intro a1 w1 h1;have hiC:i<C.length:=by omega
   obtain⟨s,hs⟩:∃s,s=C[i].1:=⟨_,rfl⟩;have hs8:s.size<=281474976710656:=by rw[hs];exact hmC _ (TR hiC)
   have hcell:vals[i*3]?=some (.string s):=by rw[<-Tb,hvs,S6 (by rw[zR];omega),kY,show i*3/3=i by omega,eq hiC,show i*3%3=0 by omega,hs];rfl
   have hFC:bz [.x (.string s)]=some (.x (.string s)):=by show(if s.size<=281474976710656 then some (V.x (.string s)) else none)=_;rw[S4 hs8]
   obtain⟨fs,fd,f1,f2,f3,f4⟩:=Iw;have h3o:g*0=0:=Nat.mul_zero g;refine Dh (ps:=[(0,0,1),(0,1,2),(0,2,4),(0,3,8),(1,1,3),(1,2,5),(1,3,9),(2,0,3),(2,2,6),(2,3,10),(4,0,5),(4,1,6),(4,3,12),(8,0,9),(8,1,10),(8,2,12),(3,2,7),(3,3,11),(5,1,7),(5,3,13),(9,1,11),(9,2,13),(6,0,7),(6,3,14),(10,0,11),(10,2,14),(12,0,13),(12,1,14),(12,4,28),(7,3,15),(11,2,15),(13,1,15),(13,4,29),(14,0,15),(14,4,30),(28,0,29),(28,1,30),(28,5,60),(15,4,31),(29,1,31),(29,5,61),(30,0,31),(30,5,62),(60,0,61),(60,1,62),(60,6,124),(31,5,63),(61,1,63),(61,6,125),(62,0,63),(62,6,126),(124,0,125),(124,1,126),(124,7,252),(63,6,127),(125,1,127),(125,7,253),(126,0,127),(126,7,254),(252,0,253),(252,1,254),(127,7,255),(253,1,255),(254,0,255),(255,8,511),(511,9,1023),(1023,10,2047)]) hE hm (by kernel_rfl) (RT (.slice (some ⟨g,0,none⟩) N cap) g i s) Ng (by kernel_rfl) ?_ ?_ h1
   . intro j o L a w2 K hj hJ hneed hK;have hgw:w2.heap[g]?=some (.cells vals ty8.ty ty8.fz):=by obtain⟨m5,O5,_,_,_,_,_,_,_,hh9,_⟩:=hJ;exact hh9
     have t5:a.eval (.tmp 5)= .int .i64 (i:Int):=hJ.read_x 5 ((gX (by kernel_rfl)).trans (by simp only[go_sem,Nat.reduceEqDiff,SZ,S7,bw,aq]));have t3:∃Bk,a.eval (.tmp 3)= .pointer (some ⟨Bk,0,none⟩)∧w2.cell? ⟨Bk,0,none⟩=some (.slice (some ⟨g,0,none⟩) N cap):=by obtain⟨m5,O5,hn5,_⟩:=hJ;obtain⟨b,vals,ty,fr,e,e2,e3,e4⟩:=hn5.box_at (i:=3) (s:=3) (v:=(.slice (some ⟨g,0,none⟩) N cap)) ((gX (by kernel_rfl)).trans (by simp only[go_sem,Nat.reduceEqDiff,SZ,S7,bw,aq])) (by simp only[sm,go_sem,Nat.reduceEqDiff,SZ,S7,Ab,aq]);exact⟨b,e,(Box.cell e2 _).trans e3⟩
     obtain⟨Bk,t3,t3c⟩:=t3;rcases j with _|_|_|_|_|_|_|_|_|_|_|j
     . cases hj;exact cX rfl (fun c e=>by cases e) rfl (by decide) rfl rfl hJ (bH rfl (by kernel_rfl) t3 t3c) (fun h=>hK _ _ h)
     . cases hj;exact cX rfl (fun c e=>by cases e) rfl (by decide) rfl rfl hJ (bc rfl t5) (fun h=>hK _ _ h)
     . cases hj;exact cX rfl (fun c e=>by cases e) rfl (by decide) rfl rfl hJ (bH rfl (by kernel_rfl) t3 t3c) (fun h=>hK _ _ h)
     . cases hj;exact cX rfl (fun c e=>by cases e) rfl (by decide) rfl rfl hJ (bc rfl t5) (fun h=>hK _ _ h)
     . cases hj;exact cX rfl (fun c e=>by cases e) rfl (by decide) rfl rfl hJ (j9 (sz:=3) (el:=32) rfl (by kernel_rfl) (by kernel_rfl) (hneed 30 (by decide)) (hneed 31 (by decide)) (UE i) (by omega)) (fun h=>hK _ _ h)
     . cases hj;exact cX rfl (fun c e=>by cases e) rfl (by decide) rfl rfl hJ (bC rfl f1 f2 f4 (by decide) (hneed 32 (by decide)) (by rw[f3,T6])) (fun h=>hK _ _ h)
     . cases hj;exact cX rfl (fun c e=>by cases e) rfl (by decide) rfl rfl hJ (bH rfl (by kernel_rfl) (hneed 33 (by decide)) ((Box.cell hgw _).trans hcell)) (fun h=>hK _ _ h)
     . cases hj;refine vq hE rfl rfl rfl (by decide) rfl rfl (fun _=>rfl) jY hFC rfl hJ (fun _=>?_) (fun v w' h=>hK _ _ (by rw[dh] at h;exact h));have e34:a.eval (.tmp 34)= .string s:=hneed 34 (by decide);rw[show Array.map a.eval #[.tmp 34]= #[a.eval (.tmp 34)] from by simp,e34];exact⟨.x _,trivial⟩
     . cases hj;exact cX rfl (fun c e=>by cases e) rfl (by decide) rfl rfl hJ (j9 (sz:=3) (el:=32) rfl (by kernel_rfl) (by kernel_rfl) (hneed 28 (by decide)) (hneed 29 (by decide)) (UE i) (by omega)) (fun h=>hK _ _ h)
     . cases hj;exact cX rfl (fun c e=>by cases e) rfl (by decide) rfl rfl hJ (bC rfl f1 f2 f4 (by decide) (hneed 36 (by decide)) (by rw[f3,T6])) (fun h=>hK _ _ h)
     . cases hj;exact vr rfl (fun c e=>by cases e) rfl rfl (vp rfl (by kernel_rfl) (hneed 37 (by decide)) (hneed 35 (by decide)) rfl rfl hgw ty8.ok hcell) (hK _ _ hJ)
     . simp at hj
   . intro a2 w2 h2;have h3:=h2.le (st':=aq [(3,.ptr 3 0),(24,.x (.int .i64 (N:Int))),(25,.x (.int .i64 (i:Int)))] [(3,[.x (.slice (some ⟨g,0,none⟩) N cap)])]) (aL ⟨(gX (by kernel_rfl)).trans (by simp only[go_sem,Nat.reduceEqDiff,SZ,S7,bw,aq]),(gX (by kernel_rfl)).trans (by simp only[go_sem,Nat.reduceEqDiff,SZ,S7,bw,aq]),(gX (by kernel_rfl)).trans (by simp only[go_sem,Nat.reduceEqDiff,SZ,S7,bw,aq]),trivial⟩ (by simp +decide only[sm,go_sem]<;>(repeat' first|rfl|constructor)));refine gm hE hm [(3,.ptr 3 0),(24,.x (.int .i64 (N:Int))),(25,.x (.int .i64 ((i+1:Nat):Int)))] [(3,[.x (.slice (some ⟨g,0,none⟩) N cap)])] (by kernel_rfl) (by kernel_rfl) h3 (by simp +decide (maxDischargeDepth:=200) only[go_sem,Nat.reduceBEq,c4]<;>(repeat' first|rfl|constructor)) ?_;intro a3 w3 h4;exact⟨⟨i+1,hi⟩,h4,by simp only;omega⟩
 . have c1:decide ((i:Int)<(N:Int))=false:=SP (by omega);refine wpIn_seq (gm hE hm [(3,.ptr 3 0),(26,.x (.bool false))] [(3,[.x (.slice (some ⟨g,0,none⟩) N cap)])] (by kernel_rfl) (by kernel_rfl) h1 (by simp +decide (maxDischargeDepth:=200) only[go_sem,Nat.reduceBEq,c1]<;>(repeat' first|rfl|constructor)) ?_);clear h1 a1 w1;intro a1 w1 h1;refine wpIn_seq (xg hE hm 2 [(3,.ptr 3 0)] [(3,[.x (.slice (some ⟨g,0,none⟩) N cap)])] (by kernel_rfl) (by kernel_rfl) h1 (by simp +decide (maxDischargeDepth:=200) only[go_sem,Nat.reduceBEq]<;>(repeat' first|rfl|constructor)) ?_);clear h1 a1 w1;intro a1 w1 h1;have hgw:w1.heap[g]?=some (.cells vals ty8.ty ty8.fz):=by obtain⟨m5,O5,_,_,_,_,_,_,_,hh9,_⟩:=h1;exact hh9
   have hCs:C.toArray.size=N:=by simpa using hC
   have h2:=OneG.done (v:=(.slice (some ⟨g,0,none⟩) N cap)) (u:= .sl false 3 (C.map aa) none) hE h1 ⟨_,_,_,rfl⟩ hgs hKg (Bel.refl _ _) (fun m hm=>by have hb:BoxAt (fun _=>some 0) w1 g (au C.toArray):=⟨rfl,vals,ty8,C.flatMap bP,rest,hgw,hvs,by rw[co];exact jc _⟩;have:=Db hb (by rw[hCs];exact hcap) m hm;rw[hCs] at this;exact this)
   refine wpIn_seq (dM hE hm [(2,.x (.slice (some ⟨g,0,none⟩) N cap))] [] (by kernel_rfl) (by kernel_rfl) h2 (by simp +decide (maxDischargeDepth:=200) only[go_sem,Nat.reduceBEq]<;>(repeat' first|rfl|constructor)) ?_);clear h1 h2 hgw;intro a2 w2 h2;have e2:a2.tmps.getD 2 Go.undef=(.slice (some ⟨g,0,none⟩) N cap):=by obtain⟨m5,O5,hn5,_⟩:=h2;exact hn5.read_x 2 (by simp only[go_sem,Nat.reduceEqDiff,SZ,S7,bw,aq])
   have h3:=One.know (n:=40) (d:=2) (by decide) h2 e2 (cT _ _ _ _);exact wpIn_ret ⟨.inr rfl,_,_,_,_,_,h3,by simp +decide (maxDischargeDepth:=200) only[go_sem]⟩
theorem su:cm 17 (FE kC IH):=zQ Do
noncomputable def aO:Env:=eM [(17,FE kC IH),(18,FE jE zz),(19,FE dH ma)] [] [(16,uQ)] (fun _=>false) (fun _=>false) (fun d=>d==3) (fun _=>false)
theorem dG:EnvOK aO:=wu _ _ _ _ _ _ _ ⟨su,oZ,vo,trivial⟩ trivial ⟨uR,trivial⟩
theorem je:aO.P.follows .mixedOrders=true:=by kernel_rfl
def MapX (ents:Array MapEntry) (clock:Nat) (ks vs:List V):Prop:=(∀m w,MapRd m w ents.toList ks vs)∧(∀e∈ents.toList,e.born<clock)∧(ents.toList.map (·.born)).Nodup
theorem n8:∀{es:List MapEntry} {ks vs:List V} {m m':Lim} {w w':World},(∀v∈vs,∃x,v= .x x)->MapRd m w es ks vs->MapRd m' w' es ks vs
 |[],[],[],_,_,_,_,_,_=>trivial
 |e::es,k::ks,v::vs,_,_,_,_,hv,h=>by obtain⟨x,rfl⟩:=hv v (Tm ..);refine⟨h.1,⟨h.2.1.1,?_⟩,n8 (fun u hu=>hv u (Tg _ hu)) h.2.2⟩;rw[Rd.x_iff.1 h.2.1.2];exact .x _
theorem Nh (L:List CI):∀v∈vsI L,∃x,v= .x x:=fun v hv=>by obtain⟨p,_,rfl⟩:=SU.1 hv;exact⟨_,rfl⟩
theorem xl:∀(C:List C3) (k:Nat) (c:C3),plI k (C++[c])=plI k C++[(c,((k+C.length:Nat):Int))]
 |[],k,c=>by simp[plI]
 |d::C,k,c=>by have:=xl C (k+1) c;rw[show k+1+C.length=k+(C.length+1) by omega] at this;simp only[TI,plI,this,SV]
variable {C:List C3} {i:Nat} {c:C3}
theorem Ix (hn:C.Nodup) (hi:C[i]?=some c):jj Try.prog 46 (ksI (plI 0 (C.take i))) (vsI (plI 0 (C.take i))) (aa c) (.x (.int .i64 (i:Int)))=some (ksI (plI 0 (C.take (i+1))),vsI (plI 0 (C.take (i+1)))):=by
 have hil:=(iO.1 hi).1;have hnt:(C.take i).Nodup:=List.Nodup.sublist (List.take_sublist i C) hn;rw[MT (uU hnt 0),bA hi,xl];have hno:bV (plI 0 (C.take i)) c=false:=by
  rw[kT];cases h:fV c (C.take i) with
  |false=>rfl
  | true=>
    obtain⟨j,hj⟩:=j7 h;have hjl:=(iO.1 hj).1;rw[Tz] at hj;split at hj
    . rename_i hji;have h1:=(iO.1 hj).2;have h2:=(iO.1 hi).2;have:=(List.getElem_inj hn).1 (h1.trans h2.symm);omega
    . cases hj
 have e:eR (plI 0 (C.take i)) c (i:Int)=plI 0 (C.take i)++[(c,(i:Int))]:=by unfold eR;rw[S8 (by rw[hno];exact fun h=>by cases h)]
 rw[e,Tt,UD (by omega),Th]
abbrev obD (v15:Value) (gP:Nat) (r s:Value):Obj:= .cells #[v15,.map (some gP),r,s] 51 (0,0)
def HP (v15:Value) (C:List C3) (gP bD i:Nat) (H:Nat->Option Obj):Prop:=H bD=some (obD v15 gP (.slice none 0 0) (.slice none 0 0))∧(∃ents clock,H gP=some (.map ents clock)∧MapX ents clock (ksI (plI 0 (C.take i))) (vsI (plI 0 (C.take i))))∧gP≠bD
theorem gY (f:Nat) (hf:f<4):∃fs fd,Try.prog.underlying 51=some (.struct fs)∧fs[f]?=some fd∧fd.offset=f∧aY Try.prog fd.type=some 1:=by
 rcases f with _|_|_|_|f
 . exact⟨_,_,Try.underlying51,rfl,rfl,by kernel_rfl⟩
 . exact⟨_,_,Try.underlying51,rfl,rfl,by kernel_rfl⟩
 . exact⟨_,_,Try.underlying51,rfl,rfl,by kernel_rfl⟩
 . exact⟨_,_,Try.underlying51,rfl,rfl,by kernel_rfl⟩
 . omega
def zS (c:C3) (i gP bD:Nat) (k:Nat):V:=
 if k=31 then .x (.pointer (some ⟨bD,1,none⟩)) else if k=32 then .x (.map (some gP)) else if k=33 then aa c else if k=34 then .x (.int .i64 (i:Int)) else .x (.pointer (some ⟨bD,0,none⟩))
def GH:Nat->List Nat
 |1=>[29]
 |2=>[30]
 |3=>[31]
 |6=>[32,33,34]
 |_=>[]
variable {E:Env} {o:Oper}
theorem ph {ops:Array Oper} {st1:St} (h:bg E ops [o] st fun st'=>st'=st1):fF E ops o st=some st1:=by
 obtain⟨st',hs,rfl⟩:=cj _ _ h;unfold dI at hs;split at hs
 . rename_i s1 h1;unfold dI at hs;rw[h1];exact hs
 . cases hs
def GI:Code->Code
 | .seq a _=>a
 |c=>c
def jJ:Code->Code
 | .seq _ b=>b
 |c=>c
def sv:Code->Code
 | .block _ c=>c
 |c=>c
def Gd:Code->Code
 | .loop c=>c
 |c=>c
noncomputable def Dp:Code:=(Try.f7.body).getD .skip
def Iy:Code->List Oper
 | .region _ ops _=>ops.toList
 |_=>[]
noncomputable def Ni:Code:=jJ (sv (GI (jJ (jJ (Gd (sv (jJ (GI (jJ (jJ (jJ Dp)))))))))))
noncomputable def Nj:List Oper:=Iy Ni
variable {gP bD sz:Nat} {m:Lim} {w w1:World} {H:Nat->Option Obj} {nl:Bool} {l:List En} {Q:Exit->Act->World->Prop}
theorem sw {v15:Value} {a1:Act} {ks vs:List V} (hn:C.Nodup) (hi:C[i]?=some c)
 (h1:HoldH aO 118 ⟨Kno.rd v15 (.sl false 3 (C.map aa) none),fun _=>true,#[],m,w⟩ H (aq [(0,.sl nl sz (l.map cK) none),(3,.fm ks vs),(4,.x (.pointer (some ⟨bD,0,none⟩))),(22,.sl false 3 (C.map aa) none),(23,.x (.int .i64 (C.length:Int))),(24,.x (.int .i64 (i:Int))),(5,.x (.int .i64 (i:Int))),(6,.ptr 6 0)] [(6,[.x (.string c.1),.x (.int .i64 c.2.1),.x (.int .i64 c.2.2)])]) a1 w1) (hH:HP v15 C gP bD i H)
 (hQ:∀a' w' H',HP v15 C gP bD (i+1) H'->HoldH aO 118 ⟨Kno.rd v15 (.sl false 3 (C.map aa) none),fun _=>true,#[],m,w⟩ H' (aq [(0,.sl nl sz (l.map cK) none),(3,.fm ks vs),(4,.x (.pointer (some ⟨bD,0,none⟩))),(22,.sl false 3 (C.map aa) none),(23,.x (.int .i64 (C.length:Int))),(24,.x (.int .i64 (i:Int)))] []) a' w'->Q .normal a' w'):
 Ni.wpIn (aZ none) 0 aO.P Q a1 w1:=by
 obtain⟨fs,fd,f1,f2,f3,f4⟩:=gY 1 (by decide);refine vt dG je (by kernel_rfl) GH (by kernel_rfl) (fun L H' val=>val=zS c i gP bD∧if L.testBit 6=true then HP v15 C gP bD (i+1) H' else H'=H) ?_ (zS c i gP bD) ⟨rfl,rfl⟩ ?_ h1
 . intro L j o H2 val a w2 K hj hb _ hcl hIv hJ hneed hK;obtain⟨rfl,hIL⟩:=hIv;have hjl:j<7:=(iO.1 hj).1;have hL:L.testBit 6=false:=pf hcl rfl (by kernel_rfl) (by omega) hb;rw[S8 (by rw[hL];exact fun h=>by cases h)] at hIL;subst hIL;have t4:a.eval (.tmp 4)= .pointer (some ⟨bD,0,none⟩):=hJ.read_x 4 ((bT (by kernel_rfl)).trans (by simp only[go_sem,Nat.reduceEqDiff,SZ,S7,bw,aq]));have t5:a.eval (.tmp 5)= .int .i64 (i:Int):=hJ.read_x 5 ((bT (by kernel_rfl)).trans (by simp only[go_sem,Nat.reduceEqDiff,SZ,S7,bw,aq]));have hx:∀k∈GH j,∀v,zS c i gP bD k= .x v->a.eval (.tmp k)=v:=fun k hk v hv=>hJ.read_x k ((hneed k hk).trans hv)
   have hL':j≠6-> ¬(L|||2^j).testBit 6=true:=fun h=>by rw[eU L h,hL];exact fun h=>by cases h
   have hbD:w2.heap[bD]?=some (obD v15 gP (.slice none 0 0) (.slice none 0 0)):=hJ.at hH.1;rcases j with _|_|_|_|_|_|_|j
   . cases hj;exact aI rfl (fun c e=>by cases e) rfl rfl (bc rfl t4) (hK _ _ _ _ (fun _ _=>rfl) ⟨rfl,by rw[S8 (hL' (by decide))]⟩ (hJ.putX (by decide) rfl _))
   . cases hj;exact aI rfl (fun c e=>by cases e) rfl rfl (cR rfl (hx 29 (by decide) _ rfl)) (hK _ _ _ _ (fun _ _=>rfl) ⟨rfl,by rw[S8 (hL' (by decide))]⟩ (hJ.putX (by decide) rfl _))
   . cases hj;exact aI rfl (fun c e=>by cases e) rfl rfl (bC rfl f1 f2 f4 (by decide) (hx 30 (by decide) _ rfl) (by rw[f3])) (hK _ _ _ _ (fun _ _=>rfl) ⟨rfl,by rw[S8 (hL' (by decide))]⟩ (hJ.putX (by decide) rfl _))
   . cases hj;exact aI rfl (fun c e=>by cases e) rfl rfl (bH rfl (by kernel_rfl) (hx 31 (by decide) _ rfl) (Box.cell hbD _)) (hK _ _ _ _ (fun _ _=>rfl) ⟨rfl,by rw[S8 (hL' (by decide))]⟩ (hJ.putX (by decide) rfl _))
   . cases hj;have h6:=(bT (st:=aq [(0,.sl nl sz (l.map cK) none),(3,.fm ks vs),(4,.x (.pointer (some ⟨bD,0,none⟩))),(22,.sl false 3 (C.map aa) none),(23,.x (.int .i64 (C.length:Int))),(24,.x (.int .i64 (i:Int))),(5,.x (.int .i64 (i:Int))),(6,.ptr 6 0)] [(6,[.x (.string c.1),.x (.int .i64 c.2.1),.x (.int .i64 c.2.2)])]) (val:=zS c i gP bD) (ops:=Nj) (L:=L) (k:=6) (by kernel_rfl)).trans (show _=V.ptr 6 0 by simp only[go_sem,Nat.reduceEqDiff,SZ,S7,bw,aq]);have h6b:(jd (aq [(0,.sl nl sz (l.map cK) none),(3,.fm ks vs),(4,.x (.pointer (some ⟨bD,0,none⟩))),(22,.sl false 3 (C.map aa) none),(23,.x (.int .i64 (C.length:Int))),(24,.x (.int .i64 (i:Int))),(5,.x (.int .i64 (i:Int))),(6,.ptr 6 0)] [(6,[.x (.string c.1),.x (.int .i64 c.2.1),.x (.int .i64 c.2.2)])]) (zS c i gP bD) Nj L).b 6=some [.x (.string c.1),.x (.int .i64 c.2.1),.x (.int .i64 c.2.2)]:=by simp only[jd,go_sem,Nat.reduceEqDiff,SZ,S7,Ab,aq]
     refine xh dG rfl (by kernel_rfl) (by kernel_rfl) hJ (st1:=(jd _ (zS c i gP bD) _ L).put (some 33) (aa c)) ?_ (fun a' w' h'=>hK _ _ _ _ (fun _ _=>rfl) ⟨rfl,by rw[S8 (hL' (by decide))]⟩ h');generalize hS:jd _ _ _ _=ST;have h7:ST.t 6= .ptr 6 0:=by rw[<-hS];exact h6
     have h7b:ST.b 6=some [.x (.string c.1),.x (.int .i64 c.2.1),.x (.int .i64 c.2.2)]:=by rw[<-hS];exact h6b
     refine ph ?_;simp +decide only[go_sem,aO,Nat.reduceBEq,h7,h7b,aa]
   . cases hj;exact aI rfl (fun c e=>by cases e) rfl rfl (bc rfl t5) (hK _ _ _ _ (fun _ _=>rfl) ⟨rfl,by rw[S8 (hL' (by decide))]⟩ (hJ.putX (by decide) rfl _))
   . cases hj;obtain⟨hD,⟨ents,clock,hP,hMX,hMb,hMn⟩,hne⟩:=hH;have e32:a.eval (.tmp 32)= .map (some gP):=hx 32 (by decide) _ rfl;have e34:a.eval (.tmp 34)= .int .i64 (i:Int):=hx 34 (by decide) _ rfl;obtain⟨m33,r33⟩:=hJ.read 33 (u:=aa c) (hneed 33 (by decide)) rfl;have e33:a.eval (.tmp 33)= .agg #[.string c.1,.int .i64 c.2.1,.int .i64 c.2.2]:=r33.val_is rfl;obtain⟨ents',clock',hrun,hMA,_⟩:=lh (P:=Try.prog) (t:=46) (x:=a.eval (.tmp 33)) (y:=a.eval (.tmp 34)) (m:=fun _=>some 0) ⟨ents,clock,hJ.at hP,hMX _ _,hMb,hMn,rfl⟩ (k:=aa c) (v:= .x (.int .i64 (i:Int))) (by rw[e33];exact Rd.agg_iff.2 ⟨_,rfl,.x _,.x _,.x _,trivial⟩) (by rw[e34];exact .x _) (Ix hn hi);refine gV rfl (fun c e=>by cases e) rfl rfl (w':={w2 with heap:=w2.heap.setIfInBounds gP (.map ents' clock')}) ?_ ?_
     . simp only[execOp,e32,Sem.run_bind];have hrun':=hrun;rw[show aO.P=Try.prog from rfl,hrun'];rfl
     . obtain⟨ents2,clock2,hh2,hrd2,hb2,hn2,_⟩:=hMA;have hPl:=ae (hJ.at hP);have hset:({w2 with heap:=w2.heap.setIfInBounds gP (.map ents' clock')}:World).heap[gP]?=some (.map ents' clock'):=by show(w2.heap.setIfInBounds gP _)[gP]?=_;rw[Array.getElem?_setIfInBounds_self_of_lt hPl]
       rw[hset] at hh2;cases hh2;refine hK _ _ (ay H2 gP (some (.map ents' clock'))) _ (fun _ _=>rfl) ⟨rfl,?_⟩ (hJ.wrote dG rfl rfl rfl (by simp) (fun k _ hk=>?_) (fun g ob hg=>?_))
       . rw[S4 (gW L 6)];exact⟨by rw[ah _ _ (Ux hne)];exact hD,⟨ents',clock',ai _ _ _,⟨fun _ _=>n8 (Nh _) hrd2,hb2,hn2⟩⟩,hne⟩
       . show(w2.heap.setIfInBounds gP _)[k]?=_;rw[U3 (fun e=>by rw[<-e,hP] at hk;cases hk)]
       . by_cases e:g=gP
         . subst e;rw[ai] at hg;cases hg;exact⟨hset,.inl (by rw[hP];exact fun h=>by cases h)⟩
         . rw[ah _ _ e] at hg;refine⟨?_,.inl (by rw[hg];exact fun h=>by cases h)⟩;show(w2.heap.setIfInBounds gP _)[g]?=_;rw[U3 (Ux e)];exact hJ.at hg
   . simp at hj
 . rintro a w2 H2 val ⟨_,hI⟩ hJ;rw[S4 (by kernel_rfl)] at hI;refine hQ a w2 H2 hI (hJ.le (aL ⟨(bT (by kernel_rfl)).trans (by simp only[go_sem,Nat.reduceEqDiff,SZ,S7,bw,aq]),(bT (by kernel_rfl)).trans (by simp only[go_sem,Nat.reduceEqDiff,SZ,S7,bw,aq]),(bT (by kernel_rfl)).trans (by simp only[go_sem,Nat.reduceEqDiff,SZ,S7,bw,aq]),(bT (by kernel_rfl)).trans (by simp only[go_sem,Nat.reduceEqDiff,SZ,S7,bw,aq]),(bT (by kernel_rfl)).trans (by simp only[go_sem,Nat.reduceEqDiff,SZ,S7,bw,aq]),(bT (by kernel_rfl)).trans (by simp only[go_sem,Nat.reduceEqDiff,SZ,S7,bw,aq]),trivial⟩ trivial))
noncomputable def vu:Code:=jJ (jJ (jJ (jJ Dp)))
variable {ob:Obj} {w':World} {n:Nat} {a:Act}
theorem gn {x:Nat} {B:Hb} (hE:EnvOK E) (h:HoldH E n B H st a w) (hos:w'.os=w.os) (htp:w'.tape=w.tape) (hou:w'.output=w.output) (hsz:w.heap.size<=w'.heap.size) (hx:H x≠none∨w.heap.size<=x) (hb:∀k,k<w.heap.size->k≠x->w'.heap[k]?=w.heap[k]?) (hn:w'.heap[x]?=some ob):HoldH E n B (ay H x (some ob)) st a w':=by
 refine h.wrote hE hos htp hou hsz (fun k hk hH=>hb k hk (fun e=>?_)) (fun g o hg=>?_)
 . rcases hx with hx|hx
   . exact hx (e▸hH)
   . omega
 . by_cases e:g=x
   . subst e;rw[ai] at hg;cases hg;exact⟨hn,hx⟩
   . rw[ah _ _ e] at hg;exact⟨(hb g (ae (h.at hg)) e).trans (h.at hg),.inl (by rw[hg];exact fun h=>by cases h)⟩
theorem jK {B:Hb} (hE:EnvOK E) (h:HoldH E n B H st a w):HoldH E n B (ay H w.heap.size (some ob)) st a (w.alloc ob):=
 gn hE h rfl rfl rfl (Nat.le_of_lt (ae (World.heap_new w ob))) (.inr (SX _)) (fun k hk _=>Below.heap_alloc w ob k hk) (World.heap_new w ob)
variable {v:Value} {es:List V} {tok:Option Nat}
theorem sA (h:Rd m w v (.sl false sz es tok)):∃ao ln cp,v= .slice ao ln cp:=by cases h<;>exact⟨_,_,_,rfl⟩
theorem Dq (h:Rd m w v (.sl true sz es tok)):v= .slice none 0 0:=by cases h;rfl
theorem Nk {a:Act} (hok:CH (nl,sz,l)) (_hsz:∀e∈l,e.1.1.size<=281474976710656) (hC:C=aT (aj l)) (h400:C.length<=400) (hn:C.Nodup) (hso:Dn (aj l))
 (h1:Hold aO 118 1 ⟨Kno.top,fun _=>true,#[],m,w⟩ [] (start [.sl nl sz (l.map cK) none]) a w)
 (hrest:∀v15 gP bD H a' w',HP v15 C gP bD C.length H->HoldH aO 118 ⟨Kno.rd v15 (.sl false 3 (C.map aa) none),fun _=>true,#[],m,w⟩ H (aq [(0,.sl nl sz (l.map cK) none),(3,.fm (ksI (aj l)) (vsI (aj l))),(4,.x (.pointer (some ⟨bD,0,none⟩)))] []) a' w'->vu.wpIn (aZ none) 0 aO.P Q a' w'):Dp.wpIn (aZ none) 0 aO.P Q a w:=by
 have hE:=dG;have hm:=je;have h0:=HoldH.of h1;clear h1;refine wpIn_seq (eZ hE hm [(0,.sl nl sz (l.map cK) none)] [] (by kernel_rfl) (by kernel_rfl) h0 (by simp +decide (maxDischargeDepth:=200) only[go_sem,aO,Nat.reduceBEq]<;>(repeat' first|rfl|constructor)) ?_);clear h0 a;intro a w1 h1;have e1:uQ [.sl nl sz (l.map cK) none]=some (ksI (aj l),vsI (aj l)):=FQ (p:=(nl,sz,l)) hok;refine wpIn_seq (eZ hE hm [(0,.sl nl sz (l.map cK) none),(3,.fm (ksI (aj l)) (vsI (aj l)))] [] (by kernel_rfl) (by kernel_rfl) h1 (by simp +decide (maxDischargeDepth:=200) only[go_sem,aO,Nat.reduceBEq,e1]<;>(repeat' first|rfl|constructor)) ?_);clear h1 a w1;intro a w1 h1;have e2:FE kC IH [.fm (ksI (aj l)) (vsI (aj l))]=some (.sl false 3 (C.map aa) none):=by rw[hC];exact(bJ zN IH (aj l)).trans (S4 hso)
 refine wpIn_seq (wpIn_region ?_);refine pd hE 0 2 [(0,.sl nl sz (l.map cK) none),(3,.fm (ksI (aj l)) (vsI (aj l))),(15,.sl false 3 (C.map aa) none)] [] [2,3,4,5] (by decide) (by kernel_rfl) (by kernel_rfl) h1 (by simp +decide (maxDischargeDepth:=200) only[go_sem,aO,Nat.reduceBEq,e2]<;>(repeat' first|rfl|constructor)) ?_;clear h1 a w1;intro a w1 h1;obtain⟨v15,hv15⟩:∃v,v=a.tmps.getD 15 Go.undef:=⟨_,rfl⟩;have h2:HoldH aO 118 ⟨Kno.rd v15 (.sl false 3 (C.map aa) none),fun _=>true,#[],m,w⟩ (fun _=>none) (aq [(0,.sl nl sz (l.map cK) none),(3,.fm (ksI (aj l)) (vsI (aj l))),(15,.sl false 3 (C.map aa) none)] []) a w1:=h1.learn (Kn':=Kno.rd v15 (.sl false 3 (C.map aa) none)) (fun m O hn _=>by rw[hv15];exact dp hn 15 (by simp only[go_sem,Nat.reduceEqDiff,SZ,S7,bw,aq]) rfl)
 have h3:=h2.know (d:=15) (u:= .x v15) (by decide) (fun _ _=>by rw[<-hv15];exact .x _);rw[dh] at h3;obtain⟨ao,ln,cp,hsh⟩:∃ao ln cp,v15= .slice ao ln cp:=by obtain⟨m5,r5⟩:=h2.read 15 (u:= .sl false 3 (C.map aa) none) (by simp only[go_sem,Nat.reduceEqDiff,SZ,S7,bw,aq]) rfl;rw[<-hv15] at r5;exact sA r5
 clear h1 h2 hv15;subst hsh
 --the map
 rw[wpOpsIn_cons];refine aI rfl (fun c e=>by cases e) rfl rfl (Dl rfl) ?_;have h4:=(jK hE h3 (ob:= .map #[] 0)).putX (d:=16) (by decide) rfl (.map (some w1.heap.size));have hl1:=ae (World.heap_new w1 (.map #[] 0));generalize hgP:w1.heap.size=gP at h4 hl1;generalize w1.alloc _=w2 at h4 hl1;clear h3;refine pd hE 3 1 [(0,.sl nl sz (l.map cK) none),(3,.fm (ksI (aj l)) (vsI (aj l))),(17,.agg [.x (.slice ao ln cp),.x (.map (some gP)),.sl true 0 [] none,.sl true 0 [] none])] [] [4,5] (by decide) (by kernel_rfl) (by kernel_rfl) h4 (by simp +decide (maxDischargeDepth:=200) only[go_sem,aO,Nat.reduceBEq,St.put]<;>(repeat' first|rfl|constructor)) ?_;clear h4 a;intro a w3 h4;have hl3:gP<w3.heap.size:=ae (h4.at (ai _ _ _));obtain⟨m17,r17⟩:=h4.read 17 (u:= .agg [.x (.slice ao ln cp),.x (.map (some gP)),.sl true 0 [] none,.sl true 0 [] none]) (by simp only[go_sem,Nat.reduceEqDiff,SZ,S7,bw,aq]) rfl;have e17:a.eval (.tmp 17)= .agg #[(.slice ao ln cp),.map (some gP),.slice none 0 0,.slice none 0 0]:=by
  obtain⟨cs,hcs,hr⟩:=Rd.agg_iff.1 r17;show a.tmps.getD 17 Go.undef=_;rw[hcs];congr 1;obtain⟨L⟩:=cs
  match L,hr with
  |[c1,c2,c3,c4],⟨q1,q2,q3,q4,_⟩=>rw[Rd.x_iff.1 q1,Rd.x_iff.1 q2,Dq q3,Dq q4]
 rw[wpOpsIn_cons];refine aI rfl (fun c e=>by cases e) rfl rfl (Dk rfl) ?_;rw[e17];have h5:=(jK hE h4 (ob:=obD (.slice ao ln cp) gP (.slice none 0 0) (.slice none 0 0))).putX (d:=18) (by decide) rfl (.pointer (some ⟨w3.heap.size,0,none⟩));change HoldH _ _ _ _ _ _ (w3.alloc (.cells (Value.agg #[(.slice ao ln cp),.map (some gP),.slice none 0 0,.slice none 0 0]).cells 51)) at h5;have hHP:HP (.slice ao ln cp) C gP w3.heap.size 0 (ay (ay (fun _=>none) gP (some (.map #[] 0))) w3.heap.size (some (obD (.slice ao ln cp) gP (.slice none 0 0) (.slice none 0 0)))):=by refine⟨ai _ _ _,⟨#[],0,?_,fun _ _=>trivial,fun e he=>(by cases he),TE⟩,by omega⟩;rw[ah _ _ (by omega),ai]
 generalize hH3:ay (ay (fun _=>none) gP (some (.map #[] 0))) w3.heap.size (some (obD (.slice ao ln cp) gP (.slice none 0 0) (.slice none 0 0)))=H3 at h5 hHP;generalize w3.heap.size=bD at h5 hHP;generalize w3.alloc _=w4 at h5;clear h4 hl3 r17 e17 hH3 hl1;refine pd hE 5 1 [(0,.sl nl sz (l.map cK) none),(3,.fm (ksI (aj l)) (vsI (aj l))),(4,.x (.pointer (some ⟨bD,0,none⟩)))] [] [] (by decide) (by kernel_rfl) (by kernel_rfl) h5 (by simp +decide (maxDischargeDepth:=200) only[go_sem,aO,Nat.reduceBEq,St.put]<;>(repeat' first|rfl|constructor)) ?_;clear h5 a;intro a w5 h5
 --the places
 refine wpIn_seq (wpIn_seq (wpIn_region ?_));obtain⟨fs,fd,f1,f2,f3,f4⟩:=gY 0 (by decide);have t4:a.eval (.tmp 4)= .pointer (some ⟨bD,0,none⟩):=h5.read_x 4 (by simp only[go_sem,Nat.reduceEqDiff,SZ,S7,bw,aq]);have hbD:=h5.at hHP.1;refine bW (i:=0) (rest:=[1,2,3,4,5]) (d:=19) rfl (fun c e=>by cases e) rfl (by decide) rfl rfl h5 (bc rfl t4) ?_;intro a1 h6;refine bW (i:=1) (rest:=[2,3,4,5]) (d:=20) rfl (fun c e=>by cases e) rfl (by decide) rfl rfl h6 (cR (p:=⟨bD,0,none⟩) rfl (h6.read_x 19 (v:= .pointer (some ⟨bD,0,none⟩)) (by simp only[go_sem,St.put,Nat.reduceEqDiff,SZ,S7,bw,aq]))) ?_;intro a2 h7;refine bW (i:=2) (rest:=[3,4,5]) (d:=21) rfl (fun c e=>by cases e) rfl (by decide) rfl rfl h7 (bC rfl f1 f2 f4 (by decide) (h7.read_x 20 (v:= .pointer (some ⟨bD,0,none⟩)) (by simp only[go_sem,St.put,Nat.reduceEqDiff,SZ,S7,bw,aq])) (by rw[f3])) ?_;intro a3 h8;refine bW (i:=3) (rest:=[4,5]) (d:=22) rfl (fun c e=>by cases e) rfl (by decide) rfl rfl h8 (bH (v:= .slice ao ln cp) rfl (by kernel_rfl) (h8.read_x 21 (v:= .pointer (some ⟨bD,0,none⟩)) (by simp only[go_sem,St.put,Nat.reduceEqDiff,SZ,S7,bw,aq])) ((Box.cell hbD _).trans rfl)) ?_;intro a4 h9;have h10:=h9.know (d:=22) (u:= .sl false 3 (C.map aa) none) (by decide) (fun m hk=>by rw[show a4.tmps.getD 22 Go.undef=(.slice ao ln cp) from h9.read_x 22 (v:=(.slice ao ln cp)) (by simp only[go_sem,St.put,Nat.reduceEqDiff,SZ,S7,bw,aq])];exact hk)
 rw[cT] at h10;clear h5 h6 h7 h8 h9 t4 hbD a a1 a2 a3;refine pd hE 4 2 [(0,.sl nl sz (l.map cK) none),(3,.fm (ksI (aj l)) (vsI (aj l))),(4,.x (.pointer (some ⟨bD,0,none⟩))),(22,.sl false 3 (C.map aa) none),(23,.x (.int .i64 (C.length:Int))),(24,.x (.int .i64 ((0:Nat):Int)))] [] [] (by decide) (by kernel_rfl) (by kernel_rfl) h10 (by simp +decide (maxDischargeDepth:=200) only[go_sem,aO,Nat.reduceBEq,St.put,io,T9]<;>(repeat' first|rfl|constructor)) ?_;clear h10 a4;intro a w6 h6;refine wpIn_block ?_;refine bR (X:={i:Nat//i<=C.length}) (fun i a' w'=>∃H,HP (.slice ao ln cp) C gP bD i.1 H∧HoldH aO 118 ⟨Kno.rd (.slice ao ln cp) (.sl false 3 (C.map aa) none),fun _=>true,#[],m,w⟩ H (aq [(0,.sl nl sz (l.map cK) none),(3,.fm (ksI (aj l)) (vsI (aj l))),(4,.x (.pointer (some ⟨bD,0,none⟩))),(22,.sl false 3 (C.map aa) none),(23,.x (.int .i64 (C.length:Int))),(24,.x (.int .i64 ((i.1:Nat):Int)))] []) a' w') (fun i=>C.length-i.1) ⟨0,TL _⟩ ⟨_,hHP,h6⟩ ?_;clear h6 a w6 hHP w5;rintro⟨i,hi0⟩ a w6 ⟨H,hH,h1⟩;simp only at hi0 hH h1⊢;by_cases hi:i<C.length
 . have c1:decide ((i:Int)<(C.length:Int))=true:=Io (by omega);have c1':(i:Int)<(C.length:Int):=by omega
   have c2:(0:Int)<=(i:Int):=by omega
   have c4:=bp (i:=i) (by omega);have q1:C[i]?=some C[i]:=eq hi;have q2:(C.map aa)[i]?=some (aa C[i]):=by rw[SS,q1];rfl
   generalize C[i]=c at q1 q2;simp only[aa] at q2;refine wpIn_seq (eZ hE hm [(0,.sl nl sz (l.map cK) none),(3,.fm (ksI (aj l)) (vsI (aj l))),(4,.x (.pointer (some ⟨bD,0,none⟩))),(22,.sl false 3 (C.map aa) none),(23,.x (.int .i64 (C.length:Int))),(24,.x (.int .i64 (i:Int))),(25,.x (.bool true))] [] (by kernel_rfl) (by kernel_rfl) h1 (by simp +decide (maxDischargeDepth:=200) only[go_sem,aO,Nat.reduceBEq,c1]<;>(repeat' first|rfl|constructor)) ?_);clear h1 a w6;intro a w6 h1;refine wpIn_seq (eZ hE hm [(0,.sl nl sz (l.map cK) none),(3,.fm (ksI (aj l)) (vsI (aj l))),(4,.x (.pointer (some ⟨bD,0,none⟩))),(22,.sl false 3 (C.map aa) none),(23,.x (.int .i64 (C.length:Int))),(24,.x (.int .i64 (i:Int)))] [] (by kernel_rfl) (by kernel_rfl) h1 (by simp +decide (maxDischargeDepth:=200) only[go_sem,aO,Nat.reduceBEq]<;>(repeat' first|rfl|constructor)) ?_);clear h1 a w6;intro a w6 h1;refine wpIn_seq (wpIn_block (wpIn_seq (eZ hE hm [(0,.sl nl sz (l.map cK) none),(3,.fm (ksI (aj l)) (vsI (aj l))),(4,.x (.pointer (some ⟨bD,0,none⟩))),(22,.sl false 3 (C.map aa) none),(23,.x (.int .i64 (C.length:Int))),(24,.x (.int .i64 (i:Int))),(5,.x (.int .i64 (i:Int))),(6,.ptr 6 0)] [(6,[.x (.string c.1),.x (.int .i64 c.2.1),.x (.int .i64 c.2.2)])] (by kernel_rfl) (by kernel_rfl) h1 (by simp +decide (maxDischargeDepth:=200) only[go_sem,aO,Nat.reduceBEq,io,c1',c2,q2,tl]<;>(repeat' first|rfl|constructor)) ?_)));clear h1 a w6;intro a w6 h1;refine sw hn q1 h1 hH ?_;intro a7 w7 H' hH' h7;refine eZ hE hm [(0,.sl nl sz (l.map cK) none),(3,.fm (ksI (aj l)) (vsI (aj l))),(4,.x (.pointer (some ⟨bD,0,none⟩))),(22,.sl false 3 (C.map aa) none),(23,.x (.int .i64 (C.length:Int))),(24,.x (.int .i64 ((i+1:Nat):Int)))] [] (by kernel_rfl) (by kernel_rfl) h7 (by simp +decide (maxDischargeDepth:=200) only[go_sem,aO,Nat.reduceBEq,c4]<;>(repeat' first|rfl|constructor)) ?_;intro a8 w8 h8;exact⟨⟨i+1,hi⟩,⟨H',hH',h8⟩,by simp only;omega⟩
 . have c1:decide ((i:Int)<(C.length:Int))=false:=SP (by omega);have e:i=C.length:=by omega
   subst e;refine wpIn_seq (eZ hE hm [(0,.sl nl sz (l.map cK) none),(3,.fm (ksI (aj l)) (vsI (aj l))),(4,.x (.pointer (some ⟨bD,0,none⟩))),(25,.x (.bool false))] [] (by kernel_rfl) (by kernel_rfl) h1 (by simp +decide (maxDischargeDepth:=200) only[go_sem,aO,Nat.reduceBEq,c1]<;>(repeat' first|rfl|constructor)) ?_);clear h1 a w6;intro a w6 h1;refine wpIn_seq (Gb hE hm 0 [(0,.sl nl sz (l.map cK) none),(3,.fm (ksI (aj l)) (vsI (aj l))),(4,.x (.pointer (some ⟨bD,0,none⟩)))] [] (by kernel_rfl) (by kernel_rfl) h1 (by simp +decide (maxDischargeDepth:=200) only[go_sem,aO,Nat.reduceBEq]<;>(repeat' first|rfl|constructor)) ?_);clear h1 a w6;intro a w6 h1;exact hrest (.slice ao ln cp) gP bD H a w6 hH h1
noncomputable def pj:Code:=jJ (jJ vu)
noncomputable def xm:TypeInfo:=(Try.prog.info? 52).get (by kernel_rfl)
theorem sB:Try.prog.info? 52=some xm:=by kernel_rfl
theorem mC:xm.size=1:=by kernel_rfl
theorem mD:xm.zero=some (.slice none 0 0):=by kernel_rfl
theorem kD:xm.bytes=24:=by kernel_rfl
theorem sC (N:Nat):madeCells (Value.slice none 0 0).cells (N*1)=(List.replicate N (Value.slice none 0 0)).toArray:=by
 apply TM.1;apply TY;intro i;show _=(List.replicate N (Value.slice none 0 0))[i]?;by_cases hi:i<N
 . have:=iD (Value.slice none 0 0).cells N 1 rfl i 0 hi (by decide);rw[show i*1+0=i by omega] at this;rw[this,UN,S4 hi];rfl
 . rw[Tp,Tp]
   . simp;omega
   . rw[Tc,size_madeCells];omega
structure HQ (ao:Option Addr) (ln cp:Nat) (C:List C3) (gP bD gR gS:Nat) (vR vS:List Value) (R S:List (List Int)) (H:Nat->Option Obj):Prop where
 d:H bD=some (obD (.slice ao ln cp) gP (.slice (some ⟨gR,0,none⟩) C.length C.length) (.slice (some ⟨gS,0,none⟩) C.length C.length))
 p:∃ents clock,H gP=some (.map ents clock)∧MapX ents clock (ksI (plI 0 C)) (vsI (plI 0 C))
 r:H gR=some (.cells vR.toArray 52 (0,0))
 s:H gS=some (.cells vS.toArray 52 (0,0))
 ne:[bD,gP,gR,gS].Nodup
 rows:Piles H (vR++vS) (R++S) [bD,gP,gR,gS]
 lR:R.length=C.length
 lS:S.length=C.length
 lvR:vR.length=C.length
 lvS:vS.length=C.length
variable {ao:Option Addr} {ln cp:Nat}
theorem Nl {a:Act} (h400:C.length<=400) (hH:HP (.slice ao ln cp) C gP bD C.length H)
 (h1:HoldH aO 118 ⟨Kno.rd (.slice ao ln cp) (.sl false 3 (C.map aa) none),fun _=>true,#[],m,w⟩ H (aq [(0,.sl nl sz (l.map cK) none),(3,.fm (ksI (aj l)) (vsI (aj l))),(4,.x (.pointer (some ⟨bD,0,none⟩)))] []) a w1)
 (hrest:∀gR gS H' a' w',HQ ao ln cp C gP bD gR gS (List.replicate C.length (.slice none 0 0)) (List.replicate C.length (.slice none 0 0)) (List.replicate C.length []) (List.replicate C.length []) H'->HoldH aO 118 ⟨Kno.rd (.slice ao ln cp) (.sl false 3 (C.map aa) none),fun _=>true,#[],m,w⟩ H' (aq [(0,.sl nl sz (l.map cK) none),(3,.fm (ksI (aj l)) (vsI (aj l))),(4,.x (.pointer (some ⟨bD,0,none⟩)))] []) a' w'->pj.wpIn (aZ none) 0 aO.P Q a' w'):vu.wpIn (aZ none) 0 aO.P Q a w1:=by
 have hE:=dG;obtain⟨fs0,fd0,f1,f2,f3,f4⟩:=gY 0 (by decide);obtain⟨fs2,fd2,g1,g2,g3,g4⟩:=gY 2 (by decide);obtain⟨fs3,fd3,k1,k2,k3,k4⟩:=gY 3 (by decide);have c0:(0:Int)<=(C.length:Int):=by omega
 have hu47:Try.prog.underlying 49=some (.slice 52):=by kernel_rfl
 obtain⟨hD,hP,hne⟩:=hH;rw[Ui] at hP;refine wpIn_seq (wpIn_region ?_);have t4:a.eval (.tmp 4)=(.pointer (some ⟨bD,0,none⟩)):=h1.read_x 4 (by simp only[go_sem,St.put,Nat.reduceEqDiff,SZ,S7,bw,aq]);have hbD:=h1.at hD;refine bW (n:=118) (E:=aO) (i:=0) (rest:=[1,2,3,4,5,6,7,8,9]) (d:=36) rfl (fun c e=>by cases e) rfl (by decide) rfl rfl h1 (bc rfl t4) ?_;clear h1;intro a1 h1;refine bW (i:=1) (rest:=[2,3,4,5,6,7,8,9]) (d:=37) rfl (fun c e=>by cases e) rfl (by decide) rfl rfl h1 (bc rfl (h1.read_x 4 (v:=(.pointer (some ⟨bD,0,none⟩))) (by simp only[go_sem,St.put,Nat.reduceEqDiff,SZ,S7,bw,aq]))) ?_;clear h1 t4;intro a2 h1;refine bW (i:=2) (rest:=[3,4,5,6,7,8,9]) (d:=38) rfl (fun c e=>by cases e) rfl (by decide) rfl rfl h1 (cR (p:=⟨bD,0,none⟩) rfl (h1.read_x 37 (v:=(.pointer (some ⟨bD,0,none⟩))) (by simp only[go_sem,St.put,Nat.reduceEqDiff,SZ,S7,bw,aq]))) ?_;clear h1;intro a3 h1;refine bW (i:=3) (rest:=[4,5,6,7,8,9]) (d:=39) rfl (fun c e=>by cases e) rfl (by decide) rfl rfl h1 (bC rfl f1 f2 f4 (by decide) (h1.read_x 38 (v:=(.pointer (some ⟨bD,0,none⟩))) (by simp only[go_sem,St.put,Nat.reduceEqDiff,SZ,S7,bw,aq])) (by rw[f3])) ?_;clear h1;intro a4 h1;refine bW (i:=4) (rest:=[5,6,7,8,9]) (d:=40) rfl (fun c e=>by cases e) rfl (by decide) rfl rfl h1 (bH (v:= .slice ao ln cp) rfl (by kernel_rfl) (h1.read_x 39 (v:=(.pointer (some ⟨bD,0,none⟩))) (by simp only[go_sem,St.put,Nat.reduceEqDiff,SZ,S7,bw,aq])) ((Box.cell hbD _).trans rfl)) ?_;clear h1;intro a5 h1;have h2:=h1.know (d:=40) (u:= .sl false 3 (C.map aa) none) (by decide) (fun m hk=>by rw[show a5.tmps.getD 40 Go.undef= .slice ao ln cp from h1.read_x 40 (by simp only[go_sem,St.put,Nat.reduceEqDiff,SZ,S7,bw,aq])];exact hk)
 rw[cT] at h2;clear h1;refine pd hE 5 1 [(0,.sl nl sz (l.map cK) none),(3,.fm (ksI (aj l)) (vsI (aj l))),(4,.x (.pointer (some ⟨bD,0,none⟩))),(36,.x (.pointer (some ⟨bD,0,none⟩))),(41,.x (.int .i64 (C.length:Int)))] [] [6,7,8,9] (by decide) (by kernel_rfl) (by kernel_rfl) h2 (by simp +decide (maxDischargeDepth:=200) only[go_sem,aO,Nat.reduceBEq,St.put,io]<;>(repeat' first|rfl|constructor)) ?_;clear h2 hbD a a1 a2 a3 a4 a5;intro a w2 h1;rw[wpOpsIn_cons];have t41:a.eval (.tmp 41)= .int .i64 (C.length:Int):=h1.read_x 41 (by simp only[go_sem,St.put,Nat.reduceEqDiff,SZ,S7,bw,aq]);refine aI rfl (fun c e=>by cases e) rfl rfl (nZ rfl hu47 sB mD t41 t41 c0 (by rw[kD];omega) (by omega)) ?_;rw[mC,tl,sC];have h2:=(jK hE h1 (ob:= .cells (List.replicate C.length (Value.slice none 0 0)).toArray 52 (0,0))).putX (d:=42) (by decide) rfl (.slice (some ⟨w2.heap.size,0,none⟩) C.length C.length);have hlt:∀k ob,H k=some ob->k≠w2.heap.size:=fun k ob hk e=>by have:=ae (h1.at hk);omega
 generalize w2.heap.size=gR at h2 hlt;generalize w2.alloc _=w3 at h2;generalize a.put (some 42) _=b at h2;clear h1 t41;refine bW (i:=7) (rest:=[8,9]) (d:=43) rfl (fun c e=>by cases e) rfl (by decide) rfl rfl h2 (cR (p:=⟨bD,0,none⟩) rfl (h2.read_x 36 (v:=(.pointer (some ⟨bD,0,none⟩))) (by simp only[go_sem,St.put,Nat.reduceEqDiff,SZ,S7,bw,aq]))) ?_;intro b1 h3;refine bW (i:=8) (rest:=[9]) (d:=44) rfl (fun c e=>by cases e) rfl (by decide) rfl rfl h3 (bC rfl g1 g2 g4 (by decide) (h3.read_x 43 (v:=(.pointer (some ⟨bD,0,none⟩))) (by simp only[go_sem,St.put,Nat.reduceEqDiff,SZ,S7,bw,aq])) (by rw[g3,Th])) ?_;intro b2 h4;rw[wpOpsIn_cons];have hbD4:=h4.at (show ay H gR _ bD=some _ from(ah _ _ (hlt bD _ hD)).trans hD);refine gV rfl (fun c e=>by cases e) rfl rfl (jH rfl (by kernel_rfl) (h4.read_x 44 (v:= .pointer (some ⟨bD,2,none⟩)) (by simp only[go_sem,St.put,Nat.reduceEqDiff,SZ,S7,bw,aq])) (h4.read_x 42 (v:= .slice (some ⟨gR,0,none⟩) C.length C.length) (by simp only[go_sem,St.put,Nat.reduceEqDiff,SZ,S7,bw,aq])) rfl rfl hbD4 (by show 2<4;decide)) ?_;have h5:=gn hE h4 (x:=bD) (ob:=(obD (.slice ao ln cp) gP (.slice (some ⟨gR,0,none⟩) C.length C.length) (.slice none 0 0))) (w':=w3.setRow bD _) rfl rfl rfl (by simp) (.inl (by rw[ah _ _ (hlt bD _ hD),hD];exact fun h=>by cases h)) (fun k _ hk=>setRow_other w3 bD k _ hk) (setRow_heap w3 bD _ _ _ (0,0) hbD4);replace h5:=h5.le (st':=aq [(0,.sl nl sz (l.map cK) none),(3,.fm (ksI (aj l)) (vsI (aj l))),(4,.x (.pointer (some ⟨bD,0,none⟩)))] []) (aL (by simp +decide (maxDischargeDepth:=200) only[go_sem,aO,Nat.reduceBEq,St.put]<;>(repeat' first|rfl|constructor)) (by simp +decide (maxDischargeDepth:=200) only[go_sem,aO,Nat.reduceBEq,St.put]<;>(repeat' first|rfl|constructor)));clear h2 h3 h4 hbD4;change wpOpsIn _ _ _ _ _ _ _ (w3.setRow bD #[.slice ao ln cp,.map (some gP),(.slice (some ⟨gR,0,none⟩) C.length C.length),(.slice none 0 0)]);change HoldH _ _ _ _ _ _ (w3.setRow bD #[.slice ao ln cp,.map (some gP),(.slice (some ⟨gR,0,none⟩) C.length C.length),(.slice none 0 0)]) at h5;generalize w3.setRow bD #[.slice ao ln cp,.map (some gP),(.slice (some ⟨gR,0,none⟩) C.length C.length),(.slice none 0 0)]=w4 at h5⊢;clear a b b1;have hRD:gR≠bD:=fun e=>hlt bD _ hD e.symm
 obtain⟨ents,clock,hPm,hMX⟩:=hP;have hRP:gR≠gP:=fun e=>hlt gP _ hPm e.symm
 obtain⟨H2,hH2⟩:∃H2,H2=ay (ay H gR (some (.cells (List.replicate C.length (Value.slice none 0 0)).toArray 52 (0,0)))) bD (some (obD (.slice ao ln cp) gP (.slice (some ⟨gR,0,none⟩) C.length C.length) (.slice none 0 0))):=⟨_,rfl⟩;rw[<-hH2] at h5;have hD2:H2 bD=some (obD (.slice ao ln cp) gP (.slice (some ⟨gR,0,none⟩) C.length C.length) (.slice none 0 0)):=by rw[hH2,ai]
 have hP2:H2 gP=some (.map ents clock):=by rw[hH2,ah _ _ hne,ah _ _ (Ux hRP)];exact hPm
 have hR2:H2 gR=some (.cells (List.replicate C.length (Value.slice none 0 0)).toArray 52 (0,0)):=by rw[hH2,ah _ _ hRD,ai]
 clear hlt hH2 hD hPm;have h1:=h5;clear h5;refine wpIn_seq (wpIn_region ?_);have t4:b2.eval (.tmp 4)=(.pointer (some ⟨bD,0,none⟩)):=h1.read_x 4 (by simp only[go_sem,St.put,Nat.reduceEqDiff,SZ,S7,bw,aq]);have hbD:=h1.at hD2;refine bW (n:=118) (E:=aO) (i:=0) (rest:=[1,2,3,4,5,6,7,8,9]) (d:=45) rfl (fun c e=>by cases e) rfl (by decide) rfl rfl h1 (bc rfl t4) ?_;clear h1;intro a1 h1;refine bW (i:=1) (rest:=[2,3,4,5,6,7,8,9]) (d:=46) rfl (fun c e=>by cases e) rfl (by decide) rfl rfl h1 (bc rfl (h1.read_x 4 (v:=(.pointer (some ⟨bD,0,none⟩))) (by simp only[go_sem,St.put,Nat.reduceEqDiff,SZ,S7,bw,aq]))) ?_;clear h1 t4;intro a2 h1;refine bW (i:=2) (rest:=[3,4,5,6,7,8,9]) (d:=47) rfl (fun c e=>by cases e) rfl (by decide) rfl rfl h1 (cR (p:=⟨bD,0,none⟩) rfl (h1.read_x 46 (v:=(.pointer (some ⟨bD,0,none⟩))) (by simp only[go_sem,St.put,Nat.reduceEqDiff,SZ,S7,bw,aq]))) ?_;clear h1;intro a3 h1;refine bW (i:=3) (rest:=[4,5,6,7,8,9]) (d:=48) rfl (fun c e=>by cases e) rfl (by decide) rfl rfl h1 (bC rfl f1 f2 f4 (by decide) (h1.read_x 47 (v:=(.pointer (some ⟨bD,0,none⟩))) (by simp only[go_sem,St.put,Nat.reduceEqDiff,SZ,S7,bw,aq])) (by rw[f3])) ?_;clear h1;intro a4 h1;refine bW (i:=4) (rest:=[5,6,7,8,9]) (d:=49) rfl (fun c e=>by cases e) rfl (by decide) rfl rfl h1 (bH (v:= .slice ao ln cp) rfl (by kernel_rfl) (h1.read_x 48 (v:=(.pointer (some ⟨bD,0,none⟩))) (by simp only[go_sem,St.put,Nat.reduceEqDiff,SZ,S7,bw,aq])) ((Box.cell hbD _).trans rfl)) ?_;clear h1;intro a5 h1;have h2:=h1.know (d:=49) (u:= .sl false 3 (C.map aa) none) (by decide) (fun m hk=>by rw[show a5.tmps.getD 49 Go.undef= .slice ao ln cp from h1.read_x 49 (by simp only[go_sem,St.put,Nat.reduceEqDiff,SZ,S7,bw,aq])];exact hk)
 rw[cT] at h2;clear h1;refine pd hE 5 1 [(0,.sl nl sz (l.map cK) none),(3,.fm (ksI (aj l)) (vsI (aj l))),(4,.x (.pointer (some ⟨bD,0,none⟩))),(45,.x (.pointer (some ⟨bD,0,none⟩))),(50,.x (.int .i64 (C.length:Int)))] [] [6,7,8,9] (by decide) (by kernel_rfl) (by kernel_rfl) h2 (by simp +decide (maxDischargeDepth:=200) only[go_sem,aO,Nat.reduceBEq,St.put,io]<;>(repeat' first|rfl|constructor)) ?_;clear h2 hbD a1 a2 a3 a4 a5;intro a w2 h1;rw[wpOpsIn_cons];have t41:a.eval (.tmp 50)= .int .i64 (C.length:Int):=h1.read_x 50 (by simp only[go_sem,St.put,Nat.reduceEqDiff,SZ,S7,bw,aq]);refine aI rfl (fun c e=>by cases e) rfl rfl (nZ rfl hu47 sB mD t41 t41 c0 (by rw[kD];omega) (by omega)) ?_;rw[mC,tl,sC];have h2:=(jK hE h1 (ob:= .cells (List.replicate C.length (Value.slice none 0 0)).toArray 52 (0,0))).putX (d:=51) (by decide) rfl (.slice (some ⟨w2.heap.size,0,none⟩) C.length C.length);have hlt:∀k ob,H2 k=some ob->k≠w2.heap.size:=fun k ob hk e=>by have:=ae (h1.at hk);omega
 generalize w2.heap.size=gS at h2 hlt;generalize w2.alloc _=w3 at h2;generalize a.put (some 51) _=b at h2;clear h1 t41;refine bW (i:=7) (rest:=[8,9]) (d:=52) rfl (fun c e=>by cases e) rfl (by decide) rfl rfl h2 (cR (p:=⟨bD,0,none⟩) rfl (h2.read_x 45 (v:=(.pointer (some ⟨bD,0,none⟩))) (by simp only[go_sem,St.put,Nat.reduceEqDiff,SZ,S7,bw,aq]))) ?_;intro b1 h3;refine bW (i:=8) (rest:=[9]) (d:=53) rfl (fun c e=>by cases e) rfl (by decide) rfl rfl h3 (bC rfl k1 k2 k4 (by decide) (h3.read_x 52 (v:=(.pointer (some ⟨bD,0,none⟩))) (by simp only[go_sem,St.put,Nat.reduceEqDiff,SZ,S7,bw,aq])) (by rw[k3,Th])) ?_;intro b2 h4;rw[wpOpsIn_cons];have hbD4:=h4.at (show ay H2 gS _ bD=some _ from(ah _ _ (hlt bD _ hD2)).trans hD2);refine gV rfl (fun c e=>by cases e) rfl rfl (jH rfl (by kernel_rfl) (h4.read_x 53 (v:= .pointer (some ⟨bD,3,none⟩)) (by simp only[go_sem,St.put,Nat.reduceEqDiff,SZ,S7,bw,aq])) (h4.read_x 51 (v:= .slice (some ⟨gS,0,none⟩) C.length C.length) (by simp only[go_sem,St.put,Nat.reduceEqDiff,SZ,S7,bw,aq])) rfl rfl hbD4 (by show 3<4;decide)) ?_;have h5:=gn hE h4 (x:=bD) (ob:=(obD (.slice ao ln cp) gP (.slice (some ⟨gR,0,none⟩) C.length C.length) (.slice (some ⟨gS,0,none⟩) C.length C.length))) (w':=w3.setRow bD _) rfl rfl rfl (by simp) (.inl (by rw[ah _ _ (hlt bD _ hD2),hD2];exact fun h=>by cases h)) (fun k _ hk=>setRow_other w3 bD k _ hk) (setRow_heap w3 bD _ _ _ (0,0) hbD4);replace h5:=h5.le (st':=aq [(0,.sl nl sz (l.map cK) none),(3,.fm (ksI (aj l)) (vsI (aj l))),(4,.x (.pointer (some ⟨bD,0,none⟩)))] []) (aL (by simp +decide (maxDischargeDepth:=200) only[go_sem,aO,Nat.reduceBEq,St.put]<;>(repeat' first|rfl|constructor)) (by simp +decide (maxDischargeDepth:=200) only[go_sem,aO,Nat.reduceBEq,St.put]<;>(repeat' first|rfl|constructor)));clear h2 h3 h4 hbD4;change wpOpsIn _ _ _ _ _ _ _ (w3.setRow bD #[.slice ao ln cp,.map (some gP),(.slice (some ⟨gR,0,none⟩) C.length C.length),(.slice (some ⟨gS,0,none⟩) C.length C.length)]);change HoldH _ _ _ _ _ _ (w3.setRow bD #[.slice ao ln cp,.map (some gP),(.slice (some ⟨gR,0,none⟩) C.length C.length),(.slice (some ⟨gS,0,none⟩) C.length C.length)]) at h5;generalize w3.setRow bD #[.slice ao ln cp,.map (some gP),(.slice (some ⟨gR,0,none⟩) C.length C.length),(.slice (some ⟨gS,0,none⟩) C.length C.length)]=w4 at h5⊢;clear a b b1;have hSD:gS≠bD:=fun e=>hlt bD _ hD2 e.symm
 have hSP:gS≠gP:=fun e=>hlt gP _ hP2 e.symm
 have hSR:gS≠gR:=fun e=>hlt gR _ hR2 e.symm
 refine hrest gR gS _ _ _ ⟨ai _ _ _,⟨ents,clock,by rw[ah _ _ hne,ah _ _ (Ux hSP)];exact hP2,hMX⟩,by rw[ah _ _ hRD,ah _ _ (Ux hSR)];exact hR2,by rw[ah _ _ hSD,ai],?_,?_,by simp,by simp,by simp,by simp⟩ h5
 . simp only[Ty,S5,Uw,VM,not_or,U0,TE,Us];exact⟨⟨Ux hne,Ux hRD,Ux hSD⟩,⟨Ux hRP,Ux hSP⟩,Ux hSR⟩
 . rw[List.replicate_append_replicate,List.replicate_append_replicate];have hv:∀(i:Nat) (v:Value),(List.replicate (C.length+C.length) (Value.slice none 0 0))[i]?=some v->v= .slice none 0 0:=fun i v hi=>by
    rw[UN] at hi;split at hi
    . cases hi;rfl
    . cases hi
   refine⟨by simp,fun i v es hi he=> .inl ⟨?_,hv i v hi⟩,fun i j v v' g _ hi _ hb=>?_,fun i v g hi hb=>?_⟩
   . rw[UN] at he;split at he
     . cases he;rfl
     . cases he
   . rw[hv i v hi] at hb;cases hb
   . rw[hv i v hi] at hb;cases hb
noncomputable def GJ:Code:=Gd (sv (jJ (GI pj)))
noncomputable def vv:Code:=jJ (jJ (jJ (jJ (sv (GI (jJ (jJ GJ)))))))
noncomputable def Ge:TypeInfo:=(Try.prog.info? 3).get (by kernel_rfl)
theorem xn:Try.prog.info? 3=some Ge:=by kernel_rfl
theorem n9:Ge.size=1:=by kernel_rfl
theorem oa:Ge.zero=some (.int .i64 0):=by kernel_rfl
theorem mE:Ge.bytes=8:=by kernel_rfl
def II (H:Nat->Option Obj) (vi:Value) (es:List Int) (H':Nat->Option Obj) (v':Value):Prop:=∃g ob,H'=ay H g (some ob)∧blkOf v'=some g∧(blkOf vi=some g∨H g=none)∧RowI H' v' es
section
variable {ao:Option Addr} {ln cp:Nat} {C:List C3} {gP bD gR gS:Nat} {vR vS:List Value} {R S:List (List Int)} {H:Nat->Option Obj}
theorem HQ.on (h:HQ ao ln cp C gP bD gR gS vR vS R S H):∀x∈[bD,gP,gR,gS],H x≠none:=by
 intro x hx;obtain⟨ents,clock,hp,_⟩:=h.p;simp only[S5,Uw,VM] at hx;rcases hx with rfl|rfl|rfl|rfl
 . rw[h.d];exact fun h=>by cases h
 . rw[hp];exact fun h=>by cases h
 . rw[h.r];exact fun h=>by cases h
 . rw[h.s];exact fun h=>by cases h
theorem HQ.far (h:HQ ao ln cp C gP bD gR gS vR vS R S H) {j:Nat} {vi:Value} (hi:(vR++vS)[j]?=some vi) {g:Nat} (hg:blkOf vi=some g∨H g=none):∀x∈[bD,gP,gR,gS],x≠g:=by
 intro x hx e;subst e;rcases hg with hg|hg
 . exact h.rows.out j vi x hi hg hx
 . exact h.on x hx hg
theorem HQ.setR (h:HQ ao ln cp C gP bD gR gS vR vS R S H) {i:Nat} {vi v':Value} {es:List Int} {H':Nat->Option Obj} (hi:vR[i]?=some vi) (hm:II H vi es H' v'):HQ ao ln cp C gP bD gR gS (vR.set i v') vS (R.set i es) S (ay H' gR (some (.cells (vR.set i v').toArray 52 (0,0)))):=by
 obtain⟨g,ob,rfl,hb,hg,hr⟩:=hm;have hil:=(iO.1 hi).1;have hi2:(vR++vS)[i]?=some vi:=by rw[S6 hil];exact hi
 have hf:=h.far hi2 hg;have hn:=h.ne;simp only[Ty,S5,Uw,VM,not_or,U0,TE,Us] at hn;obtain⟨⟨n1,n2,n3⟩,⟨n4,n5⟩,n6⟩:=hn;obtain⟨ents,clock,hp,hx⟩:=h.p;have hR:=h.lR;have hvR:=h.lvR;refine⟨?_,⟨ents,clock,?_,hx⟩,ai _ _ _,?_,h.ne,?_,by rw[UJ];exact h.lR,h.lS,by rw[UJ];exact h.lvR,h.lvS⟩
 . rw[ah _ _ n2,ah _ _ (hf bD (by simp))];exact h.d
 . rw[ah _ _ n4,ah _ _ (hf gP (by simp))];exact hp
 . rw[ah _ _ (Ux n6),ah _ _ (hf gS (by simp))];exact h.s
 . have:=(h.rows.set hi2 h.on hb hg hr).other (x:=gR) (o:=some (.cells (vR.set i v').toArray 52 (0,0))) (by simp);rw[List.set_append_left _ _ hil,List.set_append_left _ _ (by omega)] at this;exact this
theorem HQ.setS (h:HQ ao ln cp C gP bD gR gS vR vS R S H) {i:Nat} {vi v':Value} {es:List Int} {H':Nat->Option Obj} (hi:vS[i]?=some vi) (hm:II H vi es H' v'):HQ ao ln cp C gP bD gR gS vR (vS.set i v') R (S.set i es) (ay H' gS (some (.cells (vS.set i v').toArray 52 (0,0)))):=by
 obtain⟨g,ob,rfl,hb,hg,hr⟩:=hm;have hil:=(iO.1 hi).1;have hi2:(vR++vS)[vR.length+i]?=some vi:=by rw[Tj (by omega),UM];exact hi
 have hf:=h.far hi2 hg;have hn:=h.ne;simp only[Ty,S5,Uw,VM,not_or,U0,TE,Us] at hn;obtain⟨⟨n1,n2,n3⟩,⟨n4,n5⟩,n6⟩:=hn;obtain⟨ents,clock,hp,hx⟩:=h.p;have hR:=h.lR;have hvR:=h.lvR;refine⟨?_,⟨ents,clock,?_,hx⟩,?_,ai _ _ _,h.ne,?_,h.lR,by rw[UJ];exact h.lS,h.lvR,by rw[UJ];exact h.lvS⟩
 . rw[ah _ _ n3,ah _ _ (hf bD (by simp))];exact h.d
 . rw[ah _ _ n5,ah _ _ (hf gP (by simp))];exact hp
 . rw[ah _ _ n6,ah _ _ (hf gR (by simp))];exact h.r
 . have:=(h.rows.set hi2 h.on hb hg hr).other (x:=gS) (o:=some (.cells (vS.set i v').toArray 52 (0,0))) (by simp);rw[List.set_append_right _ _ (by omega),List.set_append_right _ _ (by omega),UM,show vR.length+i-R.length=i by omega] at this;exact this
end
theorem Dr {val:Nat->V} (h:∀o∈ops,∀k,o.dst=some k->st.t k= .undef):Le st (jd st val ops L):=by
 refine⟨fun k=>?_,fun s cs h=>⟨cs,h,eL cs⟩⟩;show(st.t k).le (if cq ops L k=true then val k else st.t k);by_cases hd:cq ops L k=true
 . unfold cq at hd;obtain⟨i,_,hi⟩:=T8.1 hd;rw[SR] at hi;split at hi
   . rename_i o ho;rw[h o (S9 ho) k (eq_of_beq hi.2)];exact .inl rfl
   . cases hi.2
 . rw[S8 hd];exact .inr (.inl rfl)
noncomputable def sD:Code:=GI (jJ (sv (GI (jJ (jJ (Gd (sv vv)))))))
noncomputable def sE:List Oper:=Iy sD
def fQ (N bD gR i x:Nat) (vi:Value) (k:Nat):V:=
 if k=85∨k=90 then .x (.pointer (some ⟨bD,2,none⟩)) else if k=86∨k=91 then .x (.slice (some ⟨gR,0,none⟩) N N) else if k=87∨k=92 then .x (.int .i64 (i:Int)) else if k=93∨k=98 then .x (.pointer (some ⟨gR,i*1,none⟩)) else if k=94 then .x vi else if k=95 then .x (.int .i64 (x:Int)) else if k=96 then .sl false 1 [.x (.int .i64 (x:Int))] none else .x (.pointer (some ⟨bD,0,none⟩))
def oc:Nat->List Nat
 |1=>[83]
 |2=>[84]
 |3=>[85]
 |6=>[88]
 |7=>[89]
 |8=>[90]
 |10=>[91,92]
 |11=>[93]
 |13=>[95]
 |14=>[94,96]
 |15=>[86,87]
 |16=>[97,98]
 |_=>[]
variable {gR gS:Nat} {vR vS:List Value} {R S:List (List Int)} {vi:Value}
theorem Nm {x:Nat} {es:List Int} (hH:HQ ao ln cp C gP bD gR gS vR vS R S H) (hi:vR[i]?=some vi) (hes:R[i]?=some es) (hlen:es.length+1<=100000000)
 (s4:st.t 4= .x (.pointer (some ⟨bD,0,none⟩))) (s7:st.t 7= .x (.int .i64 (i:Int))) (s11:st.t 11= .x (.int .i64 (x:Int))) (hst:∀k,83<=k->k<=98->st.t k= .undef) (h1:HoldH aO 118 ⟨Kno.rd (.slice ao ln cp) (.sl false 3 (C.map aa) none),fun _=>true,#[],m,w⟩ H st a w1)
 (hQ:∀a' w' H' vN,HQ ao ln cp C gP bD gR gS vN vS (R.set i (es++[(x:Int)])) S H'->HoldH aO 118 ⟨Kno.rd (.slice ao ln cp) (.sl false 3 (C.map aa) none),fun _=>true,#[],m,w⟩ H' st a' w'->Q .normal a' w'):sD.wpIn (aZ none) 0 aO.P Q a w1:=by
 have hE:=dG;obtain⟨fs,fd,f1,f2,f3,f4⟩:=gY 2 (by decide);have hu50:Try.prog.underlying 52=some (.slice 3):=by kernel_rfl
 have hu47:Try.prog.underlying 49=some (.slice 52):=by kernel_rfl
 have hil:=(iO.1 hi).1;have hiN:i<C.length:=by have:=hH.lvR;omega
 have hi2:(vR++vS)[i]?=some vi:=by rw[S6 hil];exact hi
 have hrow:RowI H vi es:=hH.rows.row i vi es hi2 (by rw[S6 (by have:=hH.lR;have:=hH.lvR;omega)];exact hes);refine vt hE je (by kernel_rfl) oc (by kernel_rfl) (fun L H' val=>(∀k,k≠97->val k=fQ C.length bD gR i x vi k)∧if L.testBit 16=true then ∃v',HQ ao ln cp C gP bD gR gS (vR.set i v') vS (R.set i (es++[(x:Int)])) S H' else if L.testBit 14=true then ∃v',val 97= .x v'∧II H vi (es++[(x:Int)]) H' v' else H'=H) ?_ (fQ C.length bD gR i x vi) ⟨fun _ _=>rfl,rfl⟩ ?_ h1
 . intro L j o H2 val a2 w2 K hj hbj hdp hcl hIv hJ hneed hK;obtain⟨hval,hIL⟩:=hIv;have hjl:j<17:=(iO.1 hj).1;have nb:L.testBit 16=false:=pf hcl rfl (by kernel_rfl) (by omega) hbj;rw[S8 (by rw[nb];exact fun h=>by cases h)] at hIL;have hx:∀k∈oc j,k≠97->∀v,fQ C.length bD gR i x vi k= .x v->a2.eval (.tmp k)=v:=fun k hk hne v hv=>hJ.read_x k ((hneed k hk).trans ((hval k hne).trans hv))
   have hkeep:j≠14->j≠16->(∀val':Nat->V,(∀k,k≠97->val' k=fQ C.length bD gR i x vi k)∧val' 97=val 97->((∀k,k≠97->val' k=fQ C.length bD gR i x vi k)∧if (L|||2^j).testBit 16=true then ∃v',HQ ao ln cp C gP bD gR gS (vR.set i v') vS (R.set i (es++[(x:Int)])) S H2 else if (L|||2^j).testBit 14=true then ∃v',val' 97= .x v'∧II H vi (es++[(x:Int)]) H2 v' else H2=H)):=fun h1 h2 val' hv=>by have e14:=eU L h1;have e16:=eU L h2;refine⟨hv.1,?_⟩;rw[S8 (by rw[e16,nb];exact fun h=>by cases h),e14,hv.2];exact hIL
   have hH2:∀y∈[bD,gP,gR,gS],H2 y=H y:=fun y hy=>by
    split at hIL
    . obtain⟨v',_,g,ob,rfl,_,hg,_⟩:=hIL;rw[ah _ _ (hH.far hi2 hg y hy)]
    . rw[hIL]
   have t4:a2.eval (.tmp 4)= .pointer (some ⟨bD,0,none⟩):=hJ.read_x 4 ((bT (by kernel_rfl)).trans s4);have t7:a2.eval (.tmp 7)= .int .i64 (i:Int):=hJ.read_x 7 ((bT (by kernel_rfl)).trans s7);have t11:a2.eval (.tmp 11)= .int .i64 (x:Int):=hJ.read_x 11 ((bT (by kernel_rfl)).trans s11);have hbD:=hJ.at ((hH2 bD (by simp)).trans hH.d);have hbX:=hJ.at ((hH2 gR (by simp)).trans hH.r);have fin:∀{d:Nat} {v:Value} {a':Act} {w':World},d≠97->fQ C.length bD gR i x vi d= .x v->HoldH aO 118 ⟨Kno.rd (.slice ao ln cp) (.sl false 3 (C.map aa) none),fun _=>true,#[],m,w⟩ H2 ((jd st val sE L).put (some d) (.x v)) a' w'->HoldH aO 118 ⟨Kno.rd (.slice ao ln cp) (.sl false 3 (C.map aa) none),fun _=>true,#[],m,w⟩ H2 ((jd st val sE L).put (some d) (val d)) a' w':=fun {d v a' w'} hne hv h=>by rw[hval d hne,hv];exact h
   rcases j with _|_|_|_|_|_|_|_|_|_|_|_|_|_|_|_|_|j
   . cases hj;exact aI rfl (fun c e=>by cases e) rfl rfl (bc rfl t4) (hK _ _ _ _ (fun _ _=>rfl) (hkeep (by decide) (by decide) _ ⟨hval,rfl⟩) (fin (by decide) rfl (hJ.putX (by decide) rfl _)))
   . cases hj;exact aI rfl (fun c e=>by cases e) rfl rfl (cR (p:=⟨bD,0,none⟩) rfl (hx 83 (by decide) (by decide) _ rfl)) (hK _ _ _ _ (fun _ _=>rfl) (hkeep (by decide) (by decide) _ ⟨hval,rfl⟩) (fin (by decide) rfl (hJ.putX (by decide) rfl _)))
   . cases hj;exact aI rfl (fun c e=>by cases e) rfl rfl (bC rfl f1 f2 f4 (by decide) (hx 84 (by decide) (by decide) _ rfl) (by rw[f3,Th])) (hK _ _ _ _ (fun _ _=>rfl) (hkeep (by decide) (by decide) _ ⟨hval,rfl⟩) (fin (by decide) rfl (hJ.putX (by decide) rfl _)))
   . cases hj;exact aI rfl (fun c e=>by cases e) rfl rfl (bH (v:= .slice (some ⟨gR,0,none⟩) C.length C.length) rfl (by kernel_rfl) (hx 85 (by decide) (by decide) _ rfl) ((Box.cell hbD _).trans rfl)) (hK _ _ _ _ (fun _ _=>rfl) (hkeep (by decide) (by decide) _ ⟨hval,rfl⟩) (fin (by decide) rfl (hJ.putX (by decide) rfl _)))
   . cases hj;exact aI rfl (fun c e=>by cases e) rfl rfl (bc rfl t7) (hK _ _ _ _ (fun _ _=>rfl) (hkeep (by decide) (by decide) _ ⟨hval,rfl⟩) (fin (by decide) rfl (hJ.putX (by decide) rfl _)))
   . cases hj;exact aI rfl (fun c e=>by cases e) rfl rfl (bc rfl t4) (hK _ _ _ _ (fun _ _=>rfl) (hkeep (by decide) (by decide) _ ⟨hval,rfl⟩) (fin (by decide) rfl (hJ.putX (by decide) rfl _)))
   . cases hj;exact aI rfl (fun c e=>by cases e) rfl rfl (cR (p:=⟨bD,0,none⟩) rfl (hx 88 (by decide) (by decide) _ rfl)) (hK _ _ _ _ (fun _ _=>rfl) (hkeep (by decide) (by decide) _ ⟨hval,rfl⟩) (fin (by decide) rfl (hJ.putX (by decide) rfl _)))
   . cases hj;exact aI rfl (fun c e=>by cases e) rfl rfl (bC rfl f1 f2 f4 (by decide) (hx 89 (by decide) (by decide) _ rfl) (by rw[f3,Th])) (hK _ _ _ _ (fun _ _=>rfl) (hkeep (by decide) (by decide) _ ⟨hval,rfl⟩) (fin (by decide) rfl (hJ.putX (by decide) rfl _)))
   . cases hj;exact aI rfl (fun c e=>by cases e) rfl rfl (bH (v:= .slice (some ⟨gR,0,none⟩) C.length C.length) rfl (by kernel_rfl) (hx 90 (by decide) (by decide) _ rfl) ((Box.cell hbD _).trans rfl)) (hK _ _ _ _ (fun _ _=>rfl) (hkeep (by decide) (by decide) _ ⟨hval,rfl⟩) (fin (by decide) rfl (hJ.putX (by decide) rfl _)))
   . cases hj;exact aI rfl (fun c e=>by cases e) rfl rfl (bc rfl t7) (hK _ _ _ _ (fun _ _=>rfl) (hkeep (by decide) (by decide) _ ⟨hval,rfl⟩) (fin (by decide) rfl (hJ.putX (by decide) rfl _)))
   . cases hj;exact aI rfl (fun c e=>by cases e) rfl rfl (j9 (sz:=1) (el:=52) rfl hu47 (by kernel_rfl) (hx 91 (by decide) (by decide) _ rfl) (hx 92 (by decide) (by decide) _ rfl) (UE i) (by omega)) (hK _ _ _ _ (fun _ _=>rfl) (hkeep (by decide) (by decide) _ ⟨hval,rfl⟩) (fin (by decide) rfl (hJ.putX (by decide) rfl _)))
   . cases hj;exact aI rfl (fun c e=>by cases e) rfl rfl (bH (v:=vi) rfl (by kernel_rfl) (hx 93 (by decide) (by decide) _ rfl) ((Box.cell hbX _).trans (by rw[Td];simpa using hi))) (hK _ _ _ _ (fun _ _=>rfl) (hkeep (by decide) (by decide) _ ⟨hval,rfl⟩) (fin (by decide) rfl (hJ.putX (by decide) rfl _)))
   . cases hj;exact aI rfl (fun c e=>by cases e) rfl rfl (bc rfl t11) (hK _ _ _ _ (fun _ _=>rfl) (hkeep (by decide) (by decide) _ ⟨hval,rfl⟩) (fin (by decide) rfl (hJ.putX (by decide) rfl _)))
   . cases hj
     refine xh hE rfl (by kernel_rfl) (by kernel_rfl) hJ (st1:=(jd st val _ L).put (some 96) (.sl false 1 [.x (.int .i64 (x:Int))] none)) ?_ (fun a' w' h'=>hK _ _ _ _ (fun _ _=>rfl) (hkeep (by decide) (by decide) _ ⟨hval,rfl⟩) (by show HoldH _ _ _ _ ((jd st val _ L).put (some 96) (val 96)) _ _;rw[hval 96 (by decide)];exact h'))
     have h95:=(hneed 95 (by decide)).trans (hval 95 (by decide));generalize hS:jd _ _ _ _=ST;have h7:ST.t 95= .x (.int .i64 (x:Int)):=by rw[<-hS];exact h95
     refine ph ?_;simp +decide only[go_sem,aO,Nat.reduceBEq,h7]
   . cases hj;have b14:L.testBit 14=false:=hbj;have b14':=gW L 14;have b16':(L|||2^14).testBit 16=false:=by rw[eU L (by decide),nb]
     rw[S8 (by rw[b14];exact fun h=>by cases h)] at hIL;subst hIL;have e94:a2.eval (.tmp 94)=vi:=hx 94 (by decide) (by decide) _ rfl;obtain⟨m96,r96⟩:=hJ.read 96 (u:= .sl false 1 [.x (.int .i64 (x:Int))] none) ((hneed 96 (by decide)).trans (hval 96 (by decide))) rfl;obtain⟨v',w',g,ob,hrun,q1,q2,q3,q4,q5,q6,q7,q8,q9⟩:=sr (P:=Try.prog) (t:=52) (ty:=52) (el:=3) hu50 xn n9 oa rfl mE hrow (fun g ob h=>hJ.at h) r96 hlen;have h2:=(gn hE hJ q1 q2 q3 q4 (q8.imp (fun e=>hrow.blk e) id) q7 q6).putX (d:=97) (by decide) rfl v';refine aI rfl (fun c e=>by cases e) rfl rfl (v:=v') (w':=w') ?_ (hK _ _ (ay H2 g (some ob)) (fun k=>if k=97 then .x v' else val k) (fun k hk=>S8 (fun e=>hk (by rw[e]))) ⟨fun k hk=>by rw[S8 hk];exact hval k hk,?_⟩ h2)
     . have e96:a2.eval (.tmp 96)=a2.tmps.getD 96 Go.undef:=rfl;rw[<-e96] at hrun;simp only[execOp,resolve,Sem.run_bind,Sem.run_pure,Result.andThen_ok,invoke,builtin];simp[e94,hrun,show aO.P=Try.prog from rfl]
     . rw[S8 (by rw[b16'];exact fun h=>by cases h),S4 b14'];refine⟨v',S4 rfl,g,ob,rfl,q5,q8.imp id (fun hge=>?_),q9 _ (ai _ _ _)⟩;cases e:H2 g with
       |none=>rfl
       |some ob'=>exact absurd (ae (hJ.at e)) (Tx.2 hge)
   . cases hj;exact aI rfl (fun c e=>by cases e) rfl rfl (j9 (sz:=1) (el:=52) rfl hu47 (by kernel_rfl) (hx 86 (by decide) (by decide) _ rfl) (hx 87 (by decide) (by decide) _ rfl) (UE i) (by omega)) (hK _ _ _ _ (fun _ _=>rfl) (hkeep (by decide) (by decide) _ ⟨hval,rfl⟩) (fin (by decide) rfl (hJ.putX (by decide) rfl _)))
   . cases hj;have b14:L.testBit 14=true:=hdp 14 (Uo.1 (by kernel_rfl));have b16':=gW L 16;rw[S4 b14] at hIL;obtain⟨v',hv',hMid⟩:=hIL;have e97:a2.eval (.tmp 97)=v':=hJ.read_x 97 ((hneed 97 (by decide)).trans hv');obtain⟨hv1,hv2⟩:v'.cells= #[v']∧v'.oneCell'=true:=by obtain⟨_,_,_,_,_,hr⟩:=hMid;rcases hr with⟨_,rfl⟩|⟨_,_,_,_,_,rfl,_⟩<;>exact⟨rfl,rfl⟩
     have hset:vR.toArray.set! (i*1) v'=(vR.set i v').toArray:=by simp[Td]
     have h2:=gn hE hJ (x:=gR) (ob:= .cells (vR.set i v').toArray 52 (0,0)) (w':=w2.setRow gR (vR.toArray.set! (i*1) v')) rfl rfl rfl (by simp) (.inl (by rw[hH2 gR (by simp),hH.r];exact fun h=>by cases h)) (fun k _ hk=>setRow_other w2 gR k _ hk) (by rw[hset];exact setRow_heap w2 gR _ _ _ (0,0) hbX);exact gV rfl (fun c e=>by cases e) rfl rfl (jH rfl (by kernel_rfl) (hx 98 (by decide) (by decide) _ rfl) e97 hv1 hv2 hbX (by simpa using hil)) (hK _ _ _ _ (fun _ _=>rfl) ⟨hval,by rw[S4 b16'];exact⟨v',hH.setR hi hMid⟩⟩ h2)
   . simp at hj
 . rintro a2 w2 H2 val ⟨_,hI⟩ hJ;rw[S4 (by kernel_rfl)] at hI;obtain⟨v',hI⟩:=hI;exact hQ a2 w2 H2 _ hI (hJ.le (Dr (fun o ho k hk=>by simp only[S5,Uw,VM] at ho;rcases ho with rfl|rfl|rfl|rfl|rfl|rfl|rfl|rfl|rfl|rfl|rfl|rfl|rfl|rfl|rfl|rfl|rfl<;>cases hk<;>exact hst _ (by decide) (by decide))))
noncomputable def sF:Code:=jJ (jJ (sv (GI (jJ (jJ (Gd (sv vv)))))))
noncomputable def sG:List Oper:=Iy sF
def fR (N bD gS i x:Nat) (vi:Value) (k:Nat):V:=
 if k=101∨k=106 then .x (.pointer (some ⟨bD,3,none⟩)) else if k=102∨k=107 then .x (.slice (some ⟨gS,0,none⟩) N N) else if k=103∨k=108 then .x (.int .i64 (i:Int)) else if k=109∨k=114 then .x (.pointer (some ⟨gS,i*1,none⟩)) else if k=110 then .x vi else if k=111 then .x (.int .i64 (x:Int)) else if k=112 then .sl false 1 [.x (.int .i64 (x:Int))] none else .x (.pointer (some ⟨bD,0,none⟩))
def od:Nat->List Nat
 |1=>[99]
 |2=>[100]
 |3=>[101]
 |6=>[104]
 |7=>[105]
 |8=>[106]
 |10=>[107,108]
 |11=>[109]
 |13=>[111]
 |14=>[110,112]
 |15=>[102,103]
 |16=>[113,114]
 |_=>[]
theorem Nn {x:Nat} {es:List Int} (hH:HQ ao ln cp C gP bD gR gS vR vS R S H) (hi:vS[i]?=some vi) (hes:S[i]?=some es) (hlen:es.length+1<=100000000)
 (s4:st.t 4= .x (.pointer (some ⟨bD,0,none⟩))) (s7:st.t 11= .x (.int .i64 (i:Int))) (s11:st.t 7= .x (.int .i64 (x:Int))) (hst:∀k,99<=k->k<=114->st.t k= .undef) (h1:HoldH aO 118 ⟨Kno.rd (.slice ao ln cp) (.sl false 3 (C.map aa) none),fun _=>true,#[],m,w⟩ H st a w1)
 (hQ:∀a' w' H' vN,HQ ao ln cp C gP bD gR gS vR vN R (S.set i (es++[(x:Int)])) H'->HoldH aO 118 ⟨Kno.rd (.slice ao ln cp) (.sl false 3 (C.map aa) none),fun _=>true,#[],m,w⟩ H' st a' w'->Q .normal a' w'):sF.wpIn (aZ none) 0 aO.P Q a w1:=by
 have hE:=dG;obtain⟨fs,fd,f1,f2,f3,f4⟩:=gY 3 (by decide);have hu50:Try.prog.underlying 52=some (.slice 3):=by kernel_rfl
 have hu47:Try.prog.underlying 49=some (.slice 52):=by kernel_rfl
 have hil:=(iO.1 hi).1;have hiN:i<C.length:=by have:=hH.lvS;omega
 have hi2:(vR++vS)[(vR.length+i)]?=some vi:=by rw[Tj (by omega),UM];exact hi
 have hrow:RowI H vi es:=hH.rows.row (vR.length+i) vi es hi2 (by rw[Tj (by have:=hH.lR;have:=hH.lvR;omega),show vR.length+i-R.length=i by have:=hH.lR;have:=hH.lvR;omega];exact hes);refine vt hE je (by kernel_rfl) od (by kernel_rfl) (fun L H' val=>(∀k,k≠113->val k=fR C.length bD gS i x vi k)∧if L.testBit 16=true then ∃v',HQ ao ln cp C gP bD gR gS vR (vS.set i v') R (S.set i (es++[(x:Int)])) H' else if L.testBit 14=true then ∃v',val 113= .x v'∧II H vi (es++[(x:Int)]) H' v' else H'=H) ?_ (fR C.length bD gS i x vi) ⟨fun _ _=>rfl,rfl⟩ ?_ h1
 . intro L j o H2 val a2 w2 K hj hbj hdp hcl hIv hJ hneed hK;obtain⟨hval,hIL⟩:=hIv;have hjl:j<17:=(iO.1 hj).1;have nb:L.testBit 16=false:=pf hcl rfl (by kernel_rfl) (by omega) hbj;rw[S8 (by rw[nb];exact fun h=>by cases h)] at hIL;have hx:∀k∈od j,k≠113->∀v,fR C.length bD gS i x vi k= .x v->a2.eval (.tmp k)=v:=fun k hk hne v hv=>hJ.read_x k ((hneed k hk).trans ((hval k hne).trans hv))
   have hkeep:j≠14->j≠16->(∀val':Nat->V,(∀k,k≠113->val' k=fR C.length bD gS i x vi k)∧val' 113=val 113->((∀k,k≠113->val' k=fR C.length bD gS i x vi k)∧if (L|||2^j).testBit 16=true then ∃v',HQ ao ln cp C gP bD gR gS vR (vS.set i v') R (S.set i (es++[(x:Int)])) H2 else if (L|||2^j).testBit 14=true then ∃v',val' 113= .x v'∧II H vi (es++[(x:Int)]) H2 v' else H2=H)):=fun h1 h2 val' hv=>by have e14:=eU L h1;have e16:=eU L h2;refine⟨hv.1,?_⟩;rw[S8 (by rw[e16,nb];exact fun h=>by cases h),e14,hv.2];exact hIL
   have hH2:∀y∈[bD,gP,gR,gS],H2 y=H y:=fun y hy=>by
    split at hIL
    . obtain⟨v',_,g,ob,rfl,_,hg,_⟩:=hIL;rw[ah _ _ (hH.far hi2 hg y hy)]
    . rw[hIL]
   have t4:a2.eval (.tmp 4)= .pointer (some ⟨bD,0,none⟩):=hJ.read_x 4 ((bT (by kernel_rfl)).trans s4);have t7:a2.eval (.tmp 11)= .int .i64 (i:Int):=hJ.read_x 11 ((bT (by kernel_rfl)).trans s7);have t11:a2.eval (.tmp 7)= .int .i64 (x:Int):=hJ.read_x 7 ((bT (by kernel_rfl)).trans s11);have hbD:=hJ.at ((hH2 bD (by simp)).trans hH.d);have hbX:=hJ.at ((hH2 gS (by simp)).trans hH.s);have fin:∀{d:Nat} {v:Value} {a':Act} {w':World},d≠113->fR C.length bD gS i x vi d= .x v->HoldH aO 118 ⟨Kno.rd (.slice ao ln cp) (.sl false 3 (C.map aa) none),fun _=>true,#[],m,w⟩ H2 ((jd st val sG L).put (some d) (.x v)) a' w'->HoldH aO 118 ⟨Kno.rd (.slice ao ln cp) (.sl false 3 (C.map aa) none),fun _=>true,#[],m,w⟩ H2 ((jd st val sG L).put (some d) (val d)) a' w':=fun {d v a' w'} hne hv h=>by rw[hval d hne,hv];exact h
   rcases j with _|_|_|_|_|_|_|_|_|_|_|_|_|_|_|_|_|j
   . cases hj;exact aI rfl (fun c e=>by cases e) rfl rfl (bc rfl t4) (hK _ _ _ _ (fun _ _=>rfl) (hkeep (by decide) (by decide) _ ⟨hval,rfl⟩) (fin (by decide) rfl (hJ.putX (by decide) rfl _)))
   . cases hj;exact aI rfl (fun c e=>by cases e) rfl rfl (cR (p:=⟨bD,0,none⟩) rfl (hx 99 (by decide) (by decide) _ rfl)) (hK _ _ _ _ (fun _ _=>rfl) (hkeep (by decide) (by decide) _ ⟨hval,rfl⟩) (fin (by decide) rfl (hJ.putX (by decide) rfl _)))
   . cases hj;exact aI rfl (fun c e=>by cases e) rfl rfl (bC rfl f1 f2 f4 (by decide) (hx 100 (by decide) (by decide) _ rfl) (by rw[f3,Th])) (hK _ _ _ _ (fun _ _=>rfl) (hkeep (by decide) (by decide) _ ⟨hval,rfl⟩) (fin (by decide) rfl (hJ.putX (by decide) rfl _)))
   . cases hj;exact aI rfl (fun c e=>by cases e) rfl rfl (bH (v:= .slice (some ⟨gS,0,none⟩) C.length C.length) rfl (by kernel_rfl) (hx 101 (by decide) (by decide) _ rfl) ((Box.cell hbD _).trans rfl)) (hK _ _ _ _ (fun _ _=>rfl) (hkeep (by decide) (by decide) _ ⟨hval,rfl⟩) (fin (by decide) rfl (hJ.putX (by decide) rfl _)))
   . cases hj;exact aI rfl (fun c e=>by cases e) rfl rfl (bc rfl t7) (hK _ _ _ _ (fun _ _=>rfl) (hkeep (by decide) (by decide) _ ⟨hval,rfl⟩) (fin (by decide) rfl (hJ.putX (by decide) rfl _)))
   . cases hj;exact aI rfl (fun c e=>by cases e) rfl rfl (bc rfl t4) (hK _ _ _ _ (fun _ _=>rfl) (hkeep (by decide) (by decide) _ ⟨hval,rfl⟩) (fin (by decide) rfl (hJ.putX (by decide) rfl _)))
   . cases hj;exact aI rfl (fun c e=>by cases e) rfl rfl (cR (p:=⟨bD,0,none⟩) rfl (hx 104 (by decide) (by decide) _ rfl)) (hK _ _ _ _ (fun _ _=>rfl) (hkeep (by decide) (by decide) _ ⟨hval,rfl⟩) (fin (by decide) rfl (hJ.putX (by decide) rfl _)))
   . cases hj;exact aI rfl (fun c e=>by cases e) rfl rfl (bC rfl f1 f2 f4 (by decide) (hx 105 (by decide) (by decide) _ rfl) (by rw[f3,Th])) (hK _ _ _ _ (fun _ _=>rfl) (hkeep (by decide) (by decide) _ ⟨hval,rfl⟩) (fin (by decide) rfl (hJ.putX (by decide) rfl _)))
   . cases hj;exact aI rfl (fun c e=>by cases e) rfl rfl (bH (v:= .slice (some ⟨gS,0,none⟩) C.length C.length) rfl (by kernel_rfl) (hx 106 (by decide) (by decide) _ rfl) ((Box.cell hbD _).trans rfl)) (hK _ _ _ _ (fun _ _=>rfl) (hkeep (by decide) (by decide) _ ⟨hval,rfl⟩) (fin (by decide) rfl (hJ.putX (by decide) rfl _)))
   . cases hj;exact aI rfl (fun c e=>by cases e) rfl rfl (bc rfl t7) (hK _ _ _ _ (fun _ _=>rfl) (hkeep (by decide) (by decide) _ ⟨hval,rfl⟩) (fin (by decide) rfl (hJ.putX (by decide) rfl _)))
   . cases hj;exact aI rfl (fun c e=>by cases e) rfl rfl (j9 (sz:=1) (el:=52) rfl hu47 (by kernel_rfl) (hx 107 (by decide) (by decide) _ rfl) (hx 108 (by decide) (by decide) _ rfl) (UE i) (by omega)) (hK _ _ _ _ (fun _ _=>rfl) (hkeep (by decide) (by decide) _ ⟨hval,rfl⟩) (fin (by decide) rfl (hJ.putX (by decide) rfl _)))
   . cases hj;exact aI rfl (fun c e=>by cases e) rfl rfl (bH (v:=vi) rfl (by kernel_rfl) (hx 109 (by decide) (by decide) _ rfl) ((Box.cell hbX _).trans (by rw[Td];simpa using hi))) (hK _ _ _ _ (fun _ _=>rfl) (hkeep (by decide) (by decide) _ ⟨hval,rfl⟩) (fin (by decide) rfl (hJ.putX (by decide) rfl _)))
   . cases hj;exact aI rfl (fun c e=>by cases e) rfl rfl (bc rfl t11) (hK _ _ _ _ (fun _ _=>rfl) (hkeep (by decide) (by decide) _ ⟨hval,rfl⟩) (fin (by decide) rfl (hJ.putX (by decide) rfl _)))
   . cases hj
     refine xh hE rfl (by kernel_rfl) (by kernel_rfl) hJ (st1:=(jd st val _ L).put (some 112) (.sl false 1 [.x (.int .i64 (x:Int))] none)) ?_ (fun a' w' h'=>hK _ _ _ _ (fun _ _=>rfl) (hkeep (by decide) (by decide) _ ⟨hval,rfl⟩) (by show HoldH _ _ _ _ ((jd st val _ L).put (some 112) (val 112)) _ _;rw[hval 112 (by decide)];exact h'))
     have h95:=(hneed 111 (by decide)).trans (hval 111 (by decide));generalize hS:jd _ _ _ _=ST;have h7:ST.t 111= .x (.int .i64 (x:Int)):=by rw[<-hS];exact h95
     refine ph ?_;simp +decide only[go_sem,aO,Nat.reduceBEq,h7]
   . cases hj;have b14:L.testBit 14=false:=hbj;have b14':=gW L 14;have b16':(L|||2^14).testBit 16=false:=by rw[eU L (by decide),nb]
     rw[S8 (by rw[b14];exact fun h=>by cases h)] at hIL;subst hIL;have e94:a2.eval (.tmp 110)=vi:=hx 110 (by decide) (by decide) _ rfl;obtain⟨m96,r96⟩:=hJ.read 112 (u:= .sl false 1 [.x (.int .i64 (x:Int))] none) ((hneed 112 (by decide)).trans (hval 112 (by decide))) rfl;obtain⟨v',w',g,ob,hrun,q1,q2,q3,q4,q5,q6,q7,q8,q9⟩:=sr (P:=Try.prog) (t:=52) (ty:=52) (el:=3) hu50 xn n9 oa rfl mE hrow (fun g ob h=>hJ.at h) r96 hlen;have h2:=(gn hE hJ q1 q2 q3 q4 (q8.imp (fun e=>hrow.blk e) id) q7 q6).putX (d:=113) (by decide) rfl v';refine aI rfl (fun c e=>by cases e) rfl rfl (v:=v') (w':=w') ?_ (hK _ _ (ay H2 g (some ob)) (fun k=>if k=113 then .x v' else val k) (fun k hk=>S8 (fun e=>hk (by rw[e]))) ⟨fun k hk=>by rw[S8 hk];exact hval k hk,?_⟩ h2)
     . have e96:a2.eval (.tmp 112)=a2.tmps.getD 112 Go.undef:=rfl;rw[<-e96] at hrun;simp only[execOp,resolve,Sem.run_bind,Sem.run_pure,Result.andThen_ok,invoke,builtin];simp[e94,hrun,show aO.P=Try.prog from rfl]
     . rw[S8 (by rw[b16'];exact fun h=>by cases h),S4 b14'];refine⟨v',S4 rfl,g,ob,rfl,q5,q8.imp id (fun hge=>?_),q9 _ (ai _ _ _)⟩;cases e:H2 g with
       |none=>rfl
       |some ob'=>exact absurd (ae (hJ.at e)) (Tx.2 hge)
   . cases hj;exact aI rfl (fun c e=>by cases e) rfl rfl (j9 (sz:=1) (el:=52) rfl hu47 (by kernel_rfl) (hx 102 (by decide) (by decide) _ rfl) (hx 103 (by decide) (by decide) _ rfl) (UE i) (by omega)) (hK _ _ _ _ (fun _ _=>rfl) (hkeep (by decide) (by decide) _ ⟨hval,rfl⟩) (fin (by decide) rfl (hJ.putX (by decide) rfl _)))
   . cases hj;have b14:L.testBit 14=true:=hdp 14 (Uo.1 (by kernel_rfl));have b16':=gW L 16;rw[S4 b14] at hIL;obtain⟨v',hv',hMid⟩:=hIL;have e97:a2.eval (.tmp 113)=v':=hJ.read_x 113 ((hneed 113 (by decide)).trans hv');obtain⟨hv1,hv2⟩:v'.cells= #[v']∧v'.oneCell'=true:=by obtain⟨_,_,_,_,_,hr⟩:=hMid;rcases hr with⟨_,rfl⟩|⟨_,_,_,_,_,rfl,_⟩<;>exact⟨rfl,rfl⟩
     have hset:vS.toArray.set! (i*1) v'=(vS.set i v').toArray:=by simp[Td]
     have h2:=gn hE hJ (x:=gS) (ob:= .cells (vS.set i v').toArray 52 (0,0)) (w':=w2.setRow gS (vS.toArray.set! (i*1) v')) rfl rfl rfl (by simp) (.inl (by rw[hH2 gS (by simp),hH.s];exact fun h=>by cases h)) (fun k _ hk=>setRow_other w2 gS k _ hk) (by rw[hset];exact setRow_heap w2 gS _ _ _ (0,0) hbX);exact gV rfl (fun c e=>by cases e) rfl rfl (jH rfl (by kernel_rfl) (hx 114 (by decide) (by decide) _ rfl) e97 hv1 hv2 hbX (by simpa using hil)) (hK _ _ _ _ (fun _ _=>rfl) ⟨hval,by rw[S4 b16'];exact⟨v',hH.setS hi hMid⟩⟩ h2)
   . simp at hj
 . rintro a2 w2 H2 val ⟨_,hI⟩ hJ;rw[S4 (by kernel_rfl)] at hI;obtain⟨v',hI⟩:=hI;exact hQ a2 w2 H2 _ hI (hJ.le (Dr (fun o ho k hk=>by simp only[S5,Uw,VM] at ho;rcases ho with rfl|rfl|rfl|rfl|rfl|rfl|rfl|rfl|rfl|rfl|rfl|rfl|rfl|rfl|rfl|rfl|rfl<;>cases hk<;>exact hst _ (by decide) (by decide))))
def gZ (x:Nat):V:= .x (.int .i64 (x:Int))
abbrev QS:=List (List Int)×List (List Int)
def cE (i:Nat) (q:QS) (x:Nat):QS:=(q.1.set i ((q.1[i]?.getD [])++[(x:Int)]),q.2.set x ((q.2[x]?.getD [])++[(i:Int)]))
def LenB (q:QS) (b:Nat):Prop:=(∀es∈q.1,es.length<=b)∧∀es∈q.2,es.length<=b
variable {b:Nat}
theorem oe {q:List (List Int)} {e:Int} (h:∀es∈q,es.length<=b):∀es∈q.set i ((q[i]?.getD [])++[e]),es.length<=b+1:=fun es he=>by
 rcases List.mem_or_eq_of_mem_set he with he|rfl
 . have:=h es he;omega
 . rw[SQ];cases hq:q[i]? with
   |none=>simp
   |some es=>have:=h es (S9 hq);simp;omega
variable {q:QS}
theorem LenB.tell {x:Nat} (h:LenB q b):LenB (cE i q x) (b+1):=⟨oe h.1,oe h.2⟩
theorem LenB.fold {i:Nat}:∀{ps:List Nat} {q:QS} {b:Nat},LenB q b->LenB (ps.foldl (cE i) q) (b+ps.length)
 |[],_,_,h=>h
 |x::ps,q,b,h=>by have:=LenB.fold (i:=i) (ps:=ps) (h.tell (i:=i) (x:=x));rw[SV,show b+(ps.length+1)=b+1+ps.length by omega];exact this
variable {ps:List Nat}
theorem zT {j x:Nat} (h:ps[j]?=some x):(ps.take (j+1)).foldl (cE i) q=cE i ((ps.take j).foldl (cE i) q) x:=by rw[bA h,List.foldl_append];rfl
variable {nl2:Bool}
theorem No {w1:World} {a:Act} {H:Nat->Option Obj} {vR vS:List Value} (hi:i<C.length) (hps:∀x∈ps,x<C.length) (hq:LenB q b) (hb:b+ps.length<=99999999) (hp4:ps.length<=1000000)
 (hH:HQ ao ln cp C gP bD gR gS vR vS q.1 q.2 H) (h1:HoldH aO 118 ⟨Kno.rd (.slice ao ln cp) (.sl false 3 (C.map aa) none),fun _=>true,#[],m,w⟩ H (aq [(0,.sl nl sz (l.map cK) none),(3,.fm (ksI (aj l)) (vsI (aj l))),(4,.x (.pointer (some ⟨bD,0,none⟩))),(57,.sl false 3 (C.map aa) none),(58,.x (.int .i64 (C.length:Int))),(59,.x (.int .i64 (i:Int))),(7,.x (.int .i64 (i:Int))),(77,.sl nl2 1 (ps.map gZ) none),(78,.x (.int .i64 (ps.length:Int))),(79,.x (.int .i64 ((0:Nat):Int)))] []) a w1)
 (hQ:∀a' w' H' vR' vS',HQ ao ln cp C gP bD gR gS vR' vS' (ps.foldl (cE i) q).1 (ps.foldl (cE i) q).2 H'->HoldH aO 118 ⟨Kno.rd (.slice ao ln cp) (.sl false 3 (C.map aa) none),fun _=>true,#[],m,w⟩ H' (aq [(0,.sl nl sz (l.map cK) none),(3,.fm (ksI (aj l)) (vsI (aj l))),(4,.x (.pointer (some ⟨bD,0,none⟩))),(57,.sl false 3 (C.map aa) none),(58,.x (.int .i64 (C.length:Int))),(59,.x (.int .i64 (i:Int)))] []) a' w'->Q .normal a' w'):vv.wpIn (aZ none) 0 aO.P Q a w1:=by
 have hE:=dG;have hm:=je;refine wpIn_block ?_;refine bR (X:={j:Nat//j<=ps.length}) (fun j a' w'=>∃H vR vS,HQ ao ln cp C gP bD gR gS vR vS ((ps.take j.1).foldl (cE i) q).1 ((ps.take j.1).foldl (cE i) q).2 H∧HoldH aO 118 ⟨Kno.rd (.slice ao ln cp) (.sl false 3 (C.map aa) none),fun _=>true,#[],m,w⟩ H (aq [(0,.sl nl sz (l.map cK) none),(3,.fm (ksI (aj l)) (vsI (aj l))),(4,.x (.pointer (some ⟨bD,0,none⟩))),(57,.sl false 3 (C.map aa) none),(58,.x (.int .i64 (C.length:Int))),(59,.x (.int .i64 (i:Int))),(7,.x (.int .i64 (i:Int))),(77,.sl nl2 1 (ps.map gZ) none),(78,.x (.int .i64 (ps.length:Int))),(79,.x (.int .i64 ((j.1:Nat):Int)))] []) a' w') (fun j=>ps.length-j.1) ⟨0,TL _⟩ ⟨H,vR,vS,hH,h1⟩ ?_;clear hH h1 a w1 H vR vS;rintro⟨j,hj0⟩ a w1 ⟨H,vR,vS,hH,h1⟩;simp only at hj0 hH h1⊢;by_cases hj:j<ps.length
 . have c1:decide ((j:Int)<(ps.length:Int))=true:=Io (by omega);have c1':(j:Int)<(ps.length:Int):=by omega
   have c2:(0:Int)<=(j:Int):=by omega
   have c4:=bp (i:=j) (by omega);have q1:ps[j]?=some ps[j]:=eq hj;have hx:=hps ps[j] (TR hj);have q2:(ps.map gZ)[j]?=some (.x (.int .i64 ((ps[j]:Nat):Int))):=by rw[SS,q1];rfl
   generalize ps[j]=x at q1 hx q2;have hL:LenB ((ps.take j).foldl (cE i) q) (b+j):=by
    have:=LenB.fold (i:=i) (ps:=ps.take j) hq
    rwa [Tt,UD hj0] at this
   have hft:=zT (i:=i) (q:=q) q1;generalize (ps.take j).foldl (cE i) q=qj at hH hL hft;refine wpIn_seq (eZ hE hm [(0,.sl nl sz (l.map cK) none),(3,.fm (ksI (aj l)) (vsI (aj l))),(4,.x (.pointer (some ⟨bD,0,none⟩))),(57,.sl false 3 (C.map aa) none),(58,.x (.int .i64 (C.length:Int))),(59,.x (.int .i64 (i:Int))),(7,.x (.int .i64 (i:Int))),(77,.sl nl2 1 (ps.map gZ) none),(78,.x (.int .i64 (ps.length:Int))),(79,.x (.int .i64 (j:Int))),(80,.x (.bool true))] [] (by kernel_rfl) (by kernel_rfl) h1 (by simp +decide (maxDischargeDepth:=200) only[go_sem,aO,Nat.reduceBEq,c1]<;>(repeat' first|rfl|constructor)) ?_);clear h1 a w1;intro a w1 h1;refine wpIn_seq (eZ hE hm [(0,.sl nl sz (l.map cK) none),(3,.fm (ksI (aj l)) (vsI (aj l))),(4,.x (.pointer (some ⟨bD,0,none⟩))),(57,.sl false 3 (C.map aa) none),(58,.x (.int .i64 (C.length:Int))),(59,.x (.int .i64 (i:Int))),(7,.x (.int .i64 (i:Int))),(77,.sl nl2 1 (ps.map gZ) none),(78,.x (.int .i64 (ps.length:Int))),(79,.x (.int .i64 (j:Int)))] [] (by kernel_rfl) (by kernel_rfl) h1 (by simp +decide (maxDischargeDepth:=200) only[go_sem,aO,Nat.reduceBEq]<;>(repeat' first|rfl|constructor)) ?_);clear h1 a w1;intro a w1 h1;refine wpIn_seq (wpIn_block (wpIn_seq (eZ hE hm [(0,.sl nl sz (l.map cK) none),(3,.fm (ksI (aj l)) (vsI (aj l))),(4,.x (.pointer (some ⟨bD,0,none⟩))),(57,.sl false 3 (C.map aa) none),(58,.x (.int .i64 (C.length:Int))),(59,.x (.int .i64 (i:Int))),(7,.x (.int .i64 (i:Int))),(77,.sl nl2 1 (ps.map gZ) none),(78,.x (.int .i64 (ps.length:Int))),(79,.x (.int .i64 (j:Int))),(11,.x (.int .i64 (x:Int)))] [] (by kernel_rfl) (by kernel_rfl) h1 (by simp +decide (maxDischargeDepth:=200) only[go_sem,aO,Nat.reduceBEq,io,c1',c2,q2,tl]<;>(repeat' first|rfl|constructor)) ?_)));clear h1 a w1;intro a w1 h1;have hRl:=hH.lR;have hSl:=hH.lS;have hvRl:=hH.lvR;have hvSl:=hH.lvS;obtain⟨vi,hvi⟩:∃v,vR[i]?=some v:=⟨_,eq (by omega)⟩;obtain⟨es,hes⟩:∃e,qj.1[i]?=some e:=⟨_,eq (by omega)⟩;have hel:=hL.1 es (S9 hes);refine wpIn_seq (Nm (i:=i) (x:=x) hH hvi hes (by omega) (by simp only[go_sem,Nat.reduceEqDiff,SZ,S7,bw,aq]) (by simp only[go_sem,Nat.reduceEqDiff,SZ,S7,bw,aq]) (by simp only[go_sem,Nat.reduceEqDiff,SZ,S7,bw,aq]) (fun k h1 h2=>?_) h1 ?_)
   . simp only[aq,bw]
     iterate 12 (first|rw[ah _ _ (by omega)]|skip)
   intro a2 w2 H2 vR2 hH2 h2;obtain⟨vj,hvj⟩:∃v,vS[x]?=some v:=⟨_,eq (by omega)⟩;obtain⟨es2,hes2⟩:∃e,qj.2[x]?=some e:=⟨_,eq (by omega)⟩;have hel2:=hL.2 es2 (S9 hes2);refine Nn (i:=x) (x:=i) hH2 hvj hes2 (by omega) (by simp only[go_sem,Nat.reduceEqDiff,SZ,S7,bw,aq]) (by simp only[go_sem,Nat.reduceEqDiff,SZ,S7,bw,aq]) (by simp only[go_sem,Nat.reduceEqDiff,SZ,S7,bw,aq]) (fun k h1 h2=>?_) h2 ?_
   . simp only[aq,bw]
     iterate 12 (first|rw[ah _ _ (by omega)]|skip)
   intro a3 w3 H3 vS3 hH3 h3;refine eZ hE hm [(0,.sl nl sz (l.map cK) none),(3,.fm (ksI (aj l)) (vsI (aj l))),(4,.x (.pointer (some ⟨bD,0,none⟩))),(57,.sl false 3 (C.map aa) none),(58,.x (.int .i64 (C.length:Int))),(59,.x (.int .i64 (i:Int))),(7,.x (.int .i64 (i:Int))),(77,.sl nl2 1 (ps.map gZ) none),(78,.x (.int .i64 (ps.length:Int))),(79,.x (.int .i64 ((j+1:Nat):Int)))] [] (by kernel_rfl) (by kernel_rfl) h3 (by simp +decide (maxDischargeDepth:=200) only[go_sem,aO,Nat.reduceBEq,c4]<;>(repeat' first|rfl|constructor)) ?_;intro a4 w4 h4;refine⟨⟨j+1,hj⟩,⟨H3,vR2,vS3,?_,h4⟩,by simp only;omega⟩;have e:cE i qj x=(qj.1.set i (es++[(x:Int)]),qj.2.set x (es2++[(i:Int)])):=by unfold cE;rw[hes,hes2];rfl
   rw[hft,e];exact hH3
 . have c1:decide ((j:Int)<(ps.length:Int))=false:=SP (by omega);have e:j=ps.length:=by omega
   subst e;rw[Ui] at hH;refine wpIn_seq (eZ hE hm [(0,.sl nl sz (l.map cK) none),(3,.fm (ksI (aj l)) (vsI (aj l))),(4,.x (.pointer (some ⟨bD,0,none⟩))),(57,.sl false 3 (C.map aa) none),(58,.x (.int .i64 (C.length:Int))),(59,.x (.int .i64 (i:Int))),(7,.x (.int .i64 (i:Int))),(77,.sl nl2 1 (ps.map gZ) none),(78,.x (.int .i64 (ps.length:Int))),(80,.x (.bool false))] [] (by kernel_rfl) (by kernel_rfl) h1 (by simp +decide (maxDischargeDepth:=200) only[go_sem,aO,Nat.reduceBEq,c1]<;>(repeat' first|rfl|constructor)) ?_);clear h1 a w1;intro a w1 h1;refine wpIn_seq (Gb hE hm 4 [(0,.sl nl sz (l.map cK) none),(3,.fm (ksI (aj l)) (vsI (aj l))),(4,.x (.pointer (some ⟨bD,0,none⟩))),(57,.sl false 3 (C.map aa) none),(58,.x (.int .i64 (C.length:Int))),(59,.x (.int .i64 (i:Int)))] [] (by kernel_rfl) (by kernel_rfl) h1 (by simp +decide (maxDischargeDepth:=200) only[go_sem,aO,Nat.reduceBEq]<;>(repeat' first|rfl|constructor)) ?_);clear h1 a w1;intro a w1 h1;exact hQ a w1 H vR vS hH h1
theorem Gf {m' m2:Lim} (hes:∀e∈es,∃i,e= .x (.int .i64 i)) (h:Rd m' w' v (.sl nl 1 es none)) (hm:∀blk fr,m2 blk=some fr->m' blk=some fr∨∀off i,w'.cell? ⟨blk,off,none⟩≠some (.int .i64 i)):Rd m2 w' v (.sl nl 1 es none):=by
 cases h with
 |nil=>exact .nil _ _
 |emp a cap=>exact .emp _ _ _
 | sl blk off cap _ _ _ c hb hcap hsz hc hmm hr=>
   cases es with
   |nil=>exact .emp _ _ _
   | cons e es=>
     obtain⟨i,rfl⟩:=hes e (Tm ..);have h0:c 0= .int .i64 i:=Rd.x_iff.1 (hr 0 _ rfl 0 _ rfl);have hc0:=hc 0 (by simp);refine .sl blk off cap 1 _ none c hb hcap hsz hc (fun fr hf=>?_) (fun i e hi j d hd=>?_)
     . rcases hm blk fr hf with h|h
       . exact hmm fr h
       . rw[h0] at hc0;exact absurd hc0 (h _ _)
     . obtain⟨n,rfl⟩:=hes e (S9 hi);cases j with
       |zero=>cases hd;have:=hr i _ hi 0 _ rfl;rw[Rd.x_iff.1 this];exact .x _
       |succ j=>cases hd
theorem sH {rest:List Nat} {ts:Array TypeId} {sz2:Nat} {r:List C3} (hn:C.Nodup) (hH:HQ ao ln cp C gP bD gR gS vR vS R S H)
 (hi:ops[4]?=some o) (hop:o.op= .call {callee:= .value (.func 18),args:= #[.tmp 73,.tmp 76],argTypes:=ts}) (hd:o.dst=some 77) (hg:o.guard=none) (s73:st.t 73= .x (.pointer (some ⟨bD,0,none⟩))) (s76:st.t 76= .sl nl2 sz2 (r.map aa) none) (hsz:r≠[]->sz2=3) (hrl:r.length<=1000000)
 (h:HoldH aO 118 ⟨Kno.rd (.slice ao ln cp) (.sl false 3 (C.map aa) none),fun _=>true,#[],m,w⟩ H st a w1) (hK:∀a' w',HoldH aO 118 ⟨Kno.rd (.slice ao ln cp) (.sl false 3 (C.map aa) none),fun _=>true,#[],m,w⟩ H (st.put (some 77) (.sl (fB (plI 0 C) r).isEmpty 1 (fB (plI 0 C) r) none)) a' w'->wpOpsIn (aZ none) 0 aO.P ⟨ops⟩ Q rest a' w'):wpOpsIn (aZ none) 0 aO.P ⟨ops⟩ Q (4::rest) a w1:=by
 have hE:=dG;have hbD:=h.at hH.d;obtain⟨ents,clock,hp,hMX,hMb,hMn⟩:=hH.p;have hbP:=h.at hp;have hnd:=hH.ne;simp only[Ty,S5,Uw,VM,not_or,U0,TE,Us] at hnd;obtain⟨⟨n1,_,_⟩,_,_⟩:=hnd;obtain⟨m1,O,q1,q2,q4,q5,q6,q7⟩:=h;have e73:a.eval (.tmp 73)= .pointer (some ⟨bD,0,none⟩):=q1.read_x 73 s73;have r76:Rd m1 w1 (a.eval (.tmp 76)) (.sl nl2 sz2 (r.map aa) none):=dp q1 76 s76 rfl;have hext:Ext m1 w1 (ay (ay m1 bD none) gP none) w1:=(Ext.freeze bD m1 w1).trans (Ext.freeze gP _ w1);have hmP:m1 gP=some 0:=(q2 gP _ hp).2.2.1;have rfm:Rd (ay (ay m1 bD none) gP none) w1 (.map (some gP)) (.fm (ksI (plI 0 C)) (vsI (plI 0 C))):=MapAt.freeze ⟨ents,clock,hbP,hMX m1 w1,hMb,hMn,hmP⟩ hext (ai _ _ _);have hrd:RdL (ay (ay m1 bD none) gP none) w1 [a.eval (.tmp 73),a.eval (.tmp 76)] (jE ((.sl false 3 (C.map aa) none,plI 0 C,.x (.slice (some ⟨gR,0,none⟩) C.length C.length),.x (.slice (some ⟨gS,0,none⟩) C.length C.length)),nl2,sz2,r)):=by
  rw[e73];refine⟨.ip bD 0 _ (fun k=>(#[Value.slice ao ln cp,.map (some gP),.slice (some ⟨gR,0,none⟩) C.length C.length,.slice (some ⟨gS,0,none⟩) C.length C.length][k]?).getD Go.undef) (ae hbD) (fun k hk=>?_) (fun fr hf=>?_) (fun k d hk=>?_),r76.mono hext,trivial⟩
  . rw[Th,Box.cell hbD];have hk4:k<4:=hk;rw[Te (by simpa using hk4)];rfl
  . rw[ah _ _ n1,ai] at hf;cases hf
  . rcases k with _|_|_|_|k
    . cases hk;exact q6.mono hext
    . cases hk;exact rfm
    . cases hk;exact .x _
    . cases hk;exact .x _
    . cases hk
 have hF:Fun aO 18 (FE jE zz):=hE.fn _ _ rfl;have hval:FE jE zz (jE ((.sl false 3 (C.map aa) none,plI 0 C,.x (.slice (some ⟨gR,0,none⟩) C.length C.length),.x (.slice (some ⟨gS,0,none⟩) C.length C.length)),nl2,sz2,r))=some (.sl (fB (plI 0 C) r).isEmpty 1 (fB (plI 0 C) r) none):=(bJ zy zz _).trans (S4 ⟨uU hn 0,hsz,hrl⟩);have hc:=hF.2 _ w1 #[a.eval (.tmp 73),a.eval (.tmp 76)] _ _ hval rfl hrd q1.J (fun g=> .undef _);rw[wpOpsIn_cons];unfold wpOpIn;have hi':(⟨ops⟩:Array Oper)[4]?=some o:=by simpa using hi
 rw[hi'];simp only;rw[S4 (by unfold Region.wanted;rw[hg])];refine⟨fun _ _=>trivial,?_⟩;rw[Oper.semAt_eq _ _ _ (by rw[hop];intro c e;cases e)];have hrun:(execOp a.eval o).run aO.P w1= .ok (.enter 18 ((#[.tmp 73,.tmp 76]:Array Operand).map a.eval)) w1:=by simp only[execOp,hop,resolve,Sem.run_bind,Act.eval,Deferred.ofValue,Sem.run_pure,Result.andThen_ok,invoke];simpa using hF.1 _ _
 rw [hrun,show((#[.tmp 73,.tmp 76]:Array Operand).map a.eval)= #[a.eval (.tmp 73),a.eval (.tmp 76)] from by simp];refine⟨(fun e=>by cases e),bZ.2 (hc.mono ?_)⟩;rintro e w' ⟨v,m',rfl,hv,hb,hmb⟩;show wpOpsIn (aZ none) 0 aO.P ⟨ops⟩ Q rest (a.put o.dst v) w';rw[hd];have hs:Step (fun _=>False) m1 w1 (fun j=>if j<w1.heap.size then m1 j else m' j) w':=Step.of_below hb (fun k hk=>S4 hk);have hJ:aO.J w':=hE.keep [] _ _ (fun x hx=>by cases hx) q1.J (hs.bel (fun k _ e=>e.elim));have hv2:Rd (fun j=>if j<w1.heap.size then m1 j else m' j) w' v (.sl (fB (plI 0 C) r).isEmpty 1 (fB (plI 0 C) r) none):=by
  refine Gf (fun e he=>?_) hv (fun blk fr hf=>?_)
  . obtain⟨c,_,rfl⟩:=SU.1 he;exact⟨_,rfl⟩
  . split at hf
    . rename_i hlt;by_cases e1:blk=bD
      . subst e1;refine .inr (fun off i hc=>?_);rw[aR (hs.same _ (ae hbD) (fun h=>h)).1,Box.cell hbD] at hc;rcases off with _|_|_|_|off<;>simp at hc
      . by_cases e2:blk=gP
        . subst e2;refine .inr (fun off i hc=>?_);rw[aR (hs.same _ (ae hbP) (fun h=>h)).1] at hc;simp[World.cell?,hbP] at hc
        . exact .inl (by rw[hmb blk hlt,ah _ _ e2,ah _ _ e1];exact hf)
    . exact .inl hf
 have hput:=(q1.other hs (fun _ _ h=>h) hJ).put (d:=77) (by decide) hv2;rw[cT] at hput;refine hK _ _ ⟨_,O,hput,fun g ob hgo=>?_,q4,q5.next hs (fun _ _ h=>h.elim),Kno.mono _ _ _ _ _ q6 hs.ext,q7.put (fun k e=>by cases e;rfl)⟩;obtain⟨s1,s2,s3,s4,s5⟩:=q2 g ob hgo;have hsame:=hs.same g (ae s2) (fun h=>h);exact⟨s1,hsame.1.trans s2,hsame.2.trans s3,s4,s5⟩
theorem Ds (L:List CI) (d c:C3) (v:Int):bS (L.map fun p=>if eA d p.1=true then (p.1,v) else p) c=if c=d∧bV L d=true then v else bS L c:=by
 induction L with
 |nil=>simp[bS,bV,fV]
 | cons p L ih=>
   have hh:bV (p::L) d=(eA d p.1||bV L d):=rfl;rw[Tv];by_cases h1:d=p.1
   . have e1:eA d p.1=true:=Io h1;rw[S4 e1,hh,e1,Bool.true_or];unfold bS;by_cases h2:c=p.1
     . rw[S4 (show eA c (p.1,v).1=true from Io h2),S4 ⟨h2.trans h1.symm,rfl⟩]
     . have e2: ¬eA c p.1=true:=fun h=>h2 (Ti h)
       rw[S8 e2,S8 e2,ih,S8 (fun h=>h2 (h.1.trans h1)),S8 (fun h=>h2 (h.1.trans h1))]
   . have e1: ¬eA d p.1=true:=fun h=>h1 (Ti h)
     have e1':eA d p.1=false:=by simpa using e1
     rw[S8 e1,hh,e1',Vj];unfold bS;by_cases h2:c=p.1
     . have e2:eA c p.1=true:=Io h2;rw[S4 e2,S4 e2,S8 (fun h=>h1 (h.1.symm.trans h2))]
     . have e2: ¬eA c p.1=true:=fun h=>h2 (Ti h)
       rw[S8 e2,S8 e2,ih]
theorem Dt (L:List CI) (d c:C3) (v:Int):bS (L++[(d,v)]) c=if bV L c=true then bS L c else if c=d then v else 0:=by
 induction L with
 | nil=>
   show(if eA c (d,v).1=true then v else 0)=_;rw[S8 (show¬bV [] c=true by simp[bV,fV])];by_cases h:c=d
   . rw[S4 (show eA c (d,v).1=true from Io h),S4 h]
   . rw[S8 (show¬eA c (d,v).1=true from fun e=>h (Ti e)),S8 h]
 | cons p L ih=>
   have hh:bV (p::L) c=(eA c p.1||bV L c):=rfl;rw[TI,hh];unfold bS;by_cases h2:eA c p.1=true
   . rw[S4 h2,S4 h2,h2,Bool.true_or,S4 rfl]
   . have e2:eA c p.1=false:=by simpa using h2
     rw[S8 h2,S8 h2,ih,e2,Vj]
theorem sI (L:List CI) (d c:C3) (v:Int):bV (eR L d v) c=true->bS (eR L d v) c=if c=d then v else bS L c:=by
 intro hc;unfold eR at hc⊢;split
 . rename_i h;rw[Ds];by_cases e:c=d
   . rw[S4 ⟨e,h⟩,S4 e]
   . rw[S8 (fun h=>e h.1),S8 e]
 . rename_i h;rw[Dt];split
   . rename_i h2;rw[S8 (show¬c=d from fun e=>h (e▸h2))]
   . rename_i h2;split
     . rfl
     . rename_i h3;exact(oY (by simpa using h2)).symm
theorem pk (L:List CI) (d c:C3) (v:Int) (hne:c≠d) (h:bV (eR L d v) c=true):bV L c=true:=by
 unfold eR at h;split at h
 . rw[cD] at h⊢;obtain⟨p,hp,rfl⟩:=SU.1 h;obtain⟨p',hp',rfl⟩:=SU.1 hp;refine SU.2 ⟨p',hp',?_⟩;split<;>rfl
 . rw[cD] at h⊢;obtain⟨p,hp,rfl⟩:=SU.1 h;rcases Ta.1 hp with hp|hp
   . exact SU.2 ⟨p,hp,rfl⟩
   . rw[Tf.1 hp] at hne;exact absurd rfl hne
theorem Du:∀n:Nat,n<=l.length->bV (aj (l.take n)) c=true->∃k,k<n∧bS (aj (l.take n)) c=((k:Nat):Int):=by
 intro n
 induction n with
 |zero=>intro _ h;simp[aj,iI,bV,fV] at h
 | succ n ih=>
   intro hn h;have q1:l[n]?=some l[n]:=eq (by omega);have e:aj (l.take (n+1))=eR (aj (l.take n)) (l[n]).1 ((n:Nat):Int):=by unfold aj;rw[bA q1,dP,Tt,Th,UD (by omega)]
   rw[e] at h⊢;rw[sI _ _ _ _ h];by_cases hc:c=(l[n]).1
   . rw[S4 hc];exact⟨n,by omega,rfl⟩
   . rw[S8 hc];obtain⟨k,hk,e2⟩:=ih (by omega) (pk _ _ _ _ hc h);exact⟨k,by omega,e2⟩
def iB (C r:List C3):List Nat:=(r.filter fun c=>fV c C).map fun c=>(bS (plI 0 C) c).toNat
theorem Dv (hn:C.Nodup) {c:C3} (h:fV c C=true):∃i:Nat,i<C.length∧bS (plI 0 C) c=(i:Int):=by obtain⟨i,hi⟩:=j7 h;have:=nV (k:=0) hn hi;rw[Th] at this;exact⟨i,(iO.1 hi).1,this⟩
theorem Gg (hn:C.Nodup) (r:List C3):fB (plI 0 C) r=(iB C r).map gZ:=by
 unfold fB iB;rw[Uq];have e:(r.filter fun c=>bV (plI 0 C) c)=r.filter fun c=>fV c C:=by congr 1;funext c;exact kT C 0 c
 rw[e];refine Ug fun c hc=>?_
 obtain⟨i,_,hi⟩:=Dv hn (Ts.1 hc).2;show V.x (.int .i64 (bS (plI 0 C) c))=V.x (.int .i64 (((bS (plI 0 C) c).toNat:Nat):Int));rw[hi,tl]
theorem xp (hn:C.Nodup) (r:List C3):∀x∈iB C r,x<C.length:=fun x hx=>by obtain⟨c,hc,rfl⟩:=SU.1 hx;obtain⟨i,h1,hi⟩:=Dv hn (Ts.1 hc).2;rw[hi,tl];exact h1
theorem sJ (C r:List C3):(iB C r).length<=r.length:=by unfold iB;rw[io];exact Uc _ _
def mF (l:List En) (C:List C3) (q:QS) (i:Nat):QS:=
 match C[i]? with
 |none=>q
 | some c=>match l[(bS (aj l) c).toNat]? with
   |none=>q
   |some e=>if e.2.1=true then (iB C (aJ e.2.2.1)).foldl (cE i) q else q
def d8 (l:List En) (C:List C3) (n:Nat):QS:=(List.range n).foldl (mF l C) (List.replicate C.length [],List.replicate C.length [])
theorem fS (l:List En) (C:List C3) (n:Nat):d8 l C (n+1)=mF l C (d8 l C n) n:=by unfold d8;rw[List.range_succ,List.foldl_append];rfl
theorem zU (hc:∀e∈l,kN e.2.2.1<=400) (h:LenB q b):LenB (mF l C q i) (b+160000):=by
 have mono:∀{q:QS} {b b':Nat},LenB q b->b<=b'->LenB q b':=fun h hb=>⟨fun es he=>Tn (h.1 es he) hb,fun es he=>Tn (h.2 es he) hb⟩
 unfold mF;split
 . exact mono h (by omega)
 . split
   . exact mono h (by omega)
   . rename_i e he;split
     . refine mono h.fold ?_;have h1:=sJ C (aJ e.2.2.1);have h2:=jb e.2.2.1;have h3:=hc e (S9 he);omega
     . exact mono h (by omega)
theorem mG {l:List En} {C:List C3} (hc:∀e∈l,kN e.2.2.1<=400):∀n,LenB (d8 l C n) (n*160000)
 |0=>⟨fun es he=>by rw[(List.mem_replicate.1 he).2];exact TL _,fun es he=>by rw[(List.mem_replicate.1 he).2];exact TL _⟩
 |n+1=>by rw[fS,TJ,UU];exact zU hc (mG hc n)
noncomputable def Np:Code:=GI (jJ (jJ GJ))
theorem Nq {w1:World} {a:Act} (hn:C.Nodup) (hi:C[i]?=some c) (h400:C.length<=400) (hsz:l≠[]->sz=20) (_hl4:l.length<=400) (hcnt:∀e∈l,kN e.2.2.1<=400) (hkey:bV (aj l) c=true)
 (hH:HQ ao ln cp C gP bD gR gS vR vS (d8 l C i).1 (d8 l C i).2 H) (h1:HoldH aO 118 ⟨Kno.rd (.slice ao ln cp) (.sl false 3 (C.map aa) none),fun _=>true,#[],m,w⟩ H (aq [(0,.sl nl sz (l.map cK) none),(3,.fm (ksI (aj l)) (vsI (aj l))),(4,.x (.pointer (some ⟨bD,0,none⟩))),(57,.sl false 3 (C.map aa) none),(58,.x (.int .i64 (C.length:Int))),(59,.x (.int .i64 (i:Int)))] []) a w1)
 (hQ:∀a' w' H' vR' vS',HQ ao ln cp C gP bD gR gS vR' vS' (d8 l C (i+1)).1 (d8 l C (i+1)).2 H'->HoldH aO 118 ⟨Kno.rd (.slice ao ln cp) (.sl false 3 (C.map aa) none),fun _=>true,#[],m,w⟩ H' (aq [(0,.sl nl sz (l.map cK) none),(3,.fm (ksI (aj l)) (vsI (aj l))),(4,.x (.pointer (some ⟨bD,0,none⟩))),(57,.sl false 3 (C.map aa) none),(58,.x (.int .i64 (C.length:Int))),(59,.x (.int .i64 (i:Int)))] []) a' w'->Q .normal a' w'):Np.wpIn (aZ none) 0 aO.P Q a w1:=by
 have hE:=dG;have hm:=je;have hiN:=(iO.1 hi).1;have c1':(i:Int)<(C.length:Int):=by omega
 have c2:(0:Int)<=(i:Int):=by omega
 have q2:(C.map aa)[i]?=some (aa c):=by rw[SS,hi];rfl
 simp only[aa] at q2;obtain⟨k,hk,hz⟩:=Du (l:=l) (c:=c) l.length (SX _) (by rw[Ui];exact hkey);rw[Ui] at hz;obtain rfl:=hsz (fun h=>by rw[h] at hk;simp at hk);have kk:=FL (m:= .fm (ksI (aj l)) (vsI (aj l))) rfl (iu l) (c:=c);rw[hz] at kk;simp only[aa] at kk;have q3:l[k]?=some l[k]:=eq hk;have q4:(l.map cK)[k]?=some (cK l[k]):=by rw[SS,q3];rfl
 have hce:=hcnt l[k] (TR hk);have hstep:d8 l C (i+1)=if (l[k]).2.1=true then (iB C (aJ (l[k]).2.2.1)).foldl (cE i) (d8 l C i) else d8 l C i:=by rw[fS];unfold mF;rw[hi];simp only;rw[hz,tl,q3]
 generalize l[k]=e at q3 q4 hce hstep;have d1:(k:Int)<(l.length:Int):=by omega
 have d2:(0:Int)<=(k:Int):=by omega
 obtain⟨N,T,hN,lN,lT,hnd,tkN⟩:=FJ e;rw[hN] at q4;have tA:(N++T).take 16=N++T:=T7 (by rw[SQ];omega);have aA:(N++T).all V.cell=true:=by obtain⟨M,hM,_,_,hM4⟩:=rK e;rw[hN] at hM;simp only[V.agg.injEq,Tr,U5] at hM;rw[hM];exact hM4
 refine wpIn_block (wpIn_seq (eZ hE hm [(0,.sl nl 20 (l.map cK) none),(3,.fm (ksI (aj l)) (vsI (aj l))),(4,.x (.pointer (some ⟨bD,0,none⟩))),(57,.sl false 3 (C.map aa) none),(58,.x (.int .i64 (C.length:Int))),(59,.x (.int .i64 (i:Int))),(7,.x (.int .i64 (i:Int))),(8,.ptr 8 0)] [(8,[.x (.string c.1),.x (.int .i64 c.2.1),.x (.int .i64 c.2.2)])] (by kernel_rfl) (by kernel_rfl) h1 (by simp +decide (maxDischargeDepth:=200) only[go_sem,aO,Nat.reduceBEq,io,c1',c2,q2,tl]<;>(repeat' first|rfl|constructor)) ?_));clear h1 a w1;intro a w1 h1;refine wpIn_seq (eZ hE hm [(0,.sl nl 20 (l.map cK) none),(3,.fm (ksI (aj l)) (vsI (aj l))),(4,.x (.pointer (some ⟨bD,0,none⟩))),(57,.sl false 3 (C.map aa) none),(58,.x (.int .i64 (C.length:Int))),(59,.x (.int .i64 (i:Int))),(7,.x (.int .i64 (i:Int))),(9,.ptr 9 0)] [(9,.x (.string e.1.1):: .x (.int .i64 e.1.2.1):: .x (.int .i64 e.1.2.2):: .x (.bool e.2.1)::(N++T))] (by kernel_rfl) (by kernel_rfl) h1 (by simp +decide (maxDischargeDepth:=200) only[go_sem,aO,Nat.reduceBEq,io,SV,SQ,lN,lT,tA,aA,kk,d1,d2,q4,tl]<;>(repeat' first|rfl|constructor)) ?_);clear h1 a w1;intro a w1 h1;cases hf:e.2.1 with
 |false=>rw[hf] at h1 hstep;rw[S8 (by decide)] at hstep;refine wpIn_seq (wpIn_seq (eZ hE hm [(0,.sl nl 20 (l.map cK) none),(3,.fm (ksI (aj l)) (vsI (aj l))),(4,.x (.pointer (some ⟨bD,0,none⟩))),(57,.sl false 3 (C.map aa) none),(58,.x (.int .i64 (C.length:Int))),(59,.x (.int .i64 (i:Int))),(72,.x (.bool true))] [] (by kernel_rfl) (by kernel_rfl) h1 (by simp +decide (maxDischargeDepth:=200) only[go_sem,aO,Nat.reduceBEq,SV,SQ,lN,lT]<;>(repeat' first|rfl|constructor)) ?_));clear h1 a w1;intro a w1 h1;refine Gb hE hm 3 [(0,.sl nl 20 (l.map cK) none),(3,.fm (ksI (aj l)) (vsI (aj l))),(4,.x (.pointer (some ⟨bD,0,none⟩))),(57,.sl false 3 (C.map aa) none),(58,.x (.int .i64 (C.length:Int))),(59,.x (.int .i64 (i:Int)))] [] (by kernel_rfl) (by kernel_rfl) h1 (by simp +decide (maxDischargeDepth:=200) only[go_sem,aO,Nat.reduceBEq]<;>(repeat' first|rfl|constructor)) ?_;intro a2 w2 h2;exact hQ a2 w2 H vR vS (by rw[hstep];exact hH) h2
 | true=>
   rw[hf] at h1 hstep;rw[S4 rfl] at hstep;refine wpIn_seq (wpIn_seq (eZ hE hm [(0,.sl nl 20 (l.map cK) none),(3,.fm (ksI (aj l)) (vsI (aj l))),(4,.x (.pointer (some ⟨bD,0,none⟩))),(57,.sl false 3 (C.map aa) none),(58,.x (.int .i64 (C.length:Int))),(59,.x (.int .i64 (i:Int))),(7,.x (.int .i64 (i:Int))),(9,.ptr 9 0),(72,.x (.bool false))] [(9,.x (.string e.1.1):: .x (.int .i64 e.1.2.1):: .x (.int .i64 e.1.2.2):: .x (.bool true)::(N++T))] (by kernel_rfl) (by kernel_rfl) h1 (by simp +decide (maxDischargeDepth:=200) only[go_sem,aO,Nat.reduceBEq,SV,SQ,lN,lT]<;>(repeat' first|rfl|constructor)) ?_));clear h1 a w1;intro a w1 h1;refine eZ hE hm [(0,.sl nl 20 (l.map cK) none),(3,.fm (ksI (aj l)) (vsI (aj l))),(4,.x (.pointer (some ⟨bD,0,none⟩))),(57,.sl false 3 (C.map aa) none),(58,.x (.int .i64 (C.length:Int))),(59,.x (.int .i64 (i:Int))),(7,.x (.int .i64 (i:Int))),(9,.ptr 9 0)] [(9,.x (.string e.1.1):: .x (.int .i64 e.1.2.1):: .x (.int .i64 e.1.2.2):: .x (.bool true)::(N++T))] (by kernel_rfl) (by kernel_rfl) h1 (by simp +decide (maxDischargeDepth:=200) only[go_sem,aO,Nat.reduceBEq]<;>(repeat' first|rfl|constructor)) ?_;clear h1 a w1;intro a w1 h1;have hrd:FE dH ma [.agg N]=some (.sl (aJ e.2.2.1).isEmpty (GA (aJ e.2.2.1)) ((aJ e.2.2.1).map aa) none):=by rw[<-hnd];exact(bJ lW _ _).trans (zp hce)
   have hr4:(aJ e.2.2.1).length<=160000:=by have:=jb e.2.2.1;omega
   have hzO:aJ e.2.2.1≠[]->GA (aJ e.2.2.1)=3:=fun h=>by
    unfold GA;cases hh:aJ e.2.2.1 with
    |nil=>exact absurd hh h
    |cons _ _=>rfl
   refine wpIn_seq (wpIn_region ?_);refine pd hE 0 4 [(0,.sl nl 20 (l.map cK) none),(3,.fm (ksI (aj l)) (vsI (aj l))),(4,.x (.pointer (some ⟨bD,0,none⟩))),(57,.sl false 3 (C.map aa) none),(58,.x (.int .i64 (C.length:Int))),(59,.x (.int .i64 (i:Int))),(7,.x (.int .i64 (i:Int))),(73,.x (.pointer (some ⟨bD,0,none⟩))),(76,.sl (aJ e.2.2.1).isEmpty (GA (aJ e.2.2.1)) ((aJ e.2.2.1).map aa) none)] [] [4,5,6] (by decide) (by kernel_rfl) (by kernel_rfl) h1 (by simp +decide (maxDischargeDepth:=200) only[go_sem,aO,Nat.reduceBEq,SV,SQ,lN,lT,tkN,hrd]<;>(repeat' first|rfl|constructor)) ?_;clear h1 a w1;intro a w1 h1;refine sH (nl2:=(aJ e.2.2.1).isEmpty) (sz2:=GA (aJ e.2.2.1)) (r:=aJ e.2.2.1) hn hH rfl rfl rfl rfl (by simp only[go_sem,St.put,Nat.reduceEqDiff,SZ,S7,bw,aq]) (by simp only[go_sem,St.put,Nat.reduceEqDiff,SZ,S7,bw,aq]) hzO (by omega) h1 ?_;clear h1 a w1;intro a w1 h1;rw[Gg hn] at h1;have hpl:=sJ C (aJ e.2.2.1);refine pd hE 5 2 [(0,.sl nl 20 (l.map cK) none),(3,.fm (ksI (aj l)) (vsI (aj l))),(4,.x (.pointer (some ⟨bD,0,none⟩))),(57,.sl false 3 (C.map aa) none),(58,.x (.int .i64 (C.length:Int))),(59,.x (.int .i64 (i:Int))),(7,.x (.int .i64 (i:Int))),(77,.sl ((iB C (aJ e.2.2.1)).map gZ).isEmpty 1 ((iB C (aJ e.2.2.1)).map gZ) none),(78,.x (.int .i64 ((iB C (aJ e.2.2.1)).length:Int))),(79,.x (.int .i64 ((0:Nat):Int)))] [] [] (by decide) (by kernel_rfl) (by kernel_rfl) h1 (by simp +decide (maxDischargeDepth:=200) only[go_sem,aO,Nat.reduceBEq,St.put,io,T9]<;>(repeat' first|rfl|constructor)) ?_;clear h1 a w1;intro a w1 h1;refine No hiN (xp hn _) (mG hcnt i) (by omega) (by omega) hH h1 ?_;intro a2 w2 H2 vR2 vS2 hH2 h2;exact hQ a2 w2 H2 vR2 vS2 (by rw[hstep];exact hH2) h2
theorem Dw {es:List Int} (h:RowI H v es) (hw:∀g ob,H g=some ob->w.heap[g]?=some ob) (hm:∀g,H g≠none->m g=none):Rd m w v (rI es):=by
 rcases h with⟨rfl,rfl⟩|⟨g,cap,cur,ty,hne,rfl,hg,hcap,hsz,hc⟩
 . exact .nil _ _
 . have hh:=hw g _ hg;have hmg:=hm g (by rw[hg];exact fun h=>by cases h);have e:rI es= .sl false 1 (es.map ed) none:=by
    cases es with
    |nil=>exact absurd rfl hne
    |cons a es=>rfl
   rw[e];have:=Rd.sl (m:=m) (w:=w) g 0 cap 1 (es.map ed) none (fun k=>(cur[k]?).getD Go.undef) (ae hh) (by rw[io];exact hcap) (fun i e hi=>by
    rw[SS,SY] at hi;obtain⟨n,_,rfl⟩:=hi;rfl) (fun k hk=>by
    rw[io,Td] at hk;rw[Th,Box.cell hh,Te (by omega)];rfl) (fun fr hf=>by rw[hmg] at hf;cases hf) (fun i e hi j d hd=>by
    rw[SS,SY] at hi;obtain⟨n,hn,rfl⟩:=hi;cases j with
    |zero=>cases hd;rw[Td,T6,hc i n hn];exact .x _
    |succ j=>cases hd)
   rwa [io] at this
theorem og {g N:Nat} {vs:List Value} {es:List (List Int)} {ty:TypeId} (hg:H g=some (.cells vs.toArray ty (0,0))) (hr:∀(i:Nat) (v:Value) (e:List Int),vs[i]?=some v->es[i]?=some e->RowI H v e) (hv:vs.length=N) (he:es.length=N) (hw:∀g ob,H g=some ob->w.heap[g]?=some ob) (hm:∀g,H g≠none->m g=none):
 Rd m w (.slice (some ⟨g,0,none⟩) N N) (.sl false 1 (es.map rI) none):=by
 have hh:=hw g _ hg;have hmg:=hm g (by rw[hg];exact fun h=>by cases h);have:=Rd.sl (m:=m) (w:=w) g 0 N 1 (es.map rI) none (fun k=>(vs[k]?).getD Go.undef) (ae hh) (by rw[io];omega) (fun i e hi=>by
  rw[SS,SY] at hi;obtain⟨n,_,rfl⟩:=hi;rfl) (fun k hk=>by
  rw[io,Td] at hk;rw[Th,Box.cell hh,Vd,eq (by omega)];rfl) (fun fr hf=>by rw[hmg] at hf;cases hf) (fun i e hi j d hd=>by
  rw[SS,SY] at hi;obtain⟨n,hn,rfl⟩:=hi;cases j with
  |zero=>cases hd;have hil:=(iO.1 hn).1;rw[Td,T6,eq (by omega)];exact Dw (hr i _ n (eq (by omega)) hn) hw hm
  |succ j=>cases hd)
 rwa [io,he] at this
theorem zV (hH:HQ ao ln cp C gP bD gR gS vR vS R S H) (hw:∀g ob,H g=some ob->w.heap[g]?=some ob) (hm:∀g,H g≠none->m g=none) (hk:Rd m w (.slice ao ln cp) (.sl false 3 (C.map aa) none)):Rd m w (.pointer (some ⟨bD,0,none⟩)) (iJ (C,R,S)):=by
 have hbD:=hw bD _ hH.d;have hmD:=hm bD (by rw[hH.d];exact fun h=>by cases h);obtain⟨ents,clock,hp,hMX,hMb,hMn⟩:=hH.p;have hbP:=hw gP _ hp;have hmP:=hm gP (by rw[hp];exact fun h=>by cases h);have rfm:Rd m w (.map (some gP)) (.fm (ksI (plI 0 C)) (vsI (plI 0 C))):=by
  refine MapAt.freeze (m:=ay m gP (some 0)) ⟨ents,clock,hbP,hMX _ _,hMb,hMn,ai _ _ _⟩ ⟨SX _,fun _ _ _ _ _ h=>h,fun b _ fr' hf=>?_,fun _ _ _ _ h=>h⟩ hmP;by_cases e:b=gP
  . rw[e,hmP] at hf;cases hf
  . exact⟨fr',by rw[ah _ _ e];exact hf,SX _⟩
 have hlen:R.length=vR.length:=by rw[hH.lR,hH.lvR]
 have rR:=og (m:=m) hH.r (fun i v e hi he=>hH.rows.row i v e (by rw[S6 (iO.1 hi).1];exact hi) (by rw[S6 (iO.1 he).1];exact he)) hH.lvR hH.lR hw hm;have rS:=og (m:=m) hH.s (fun i v e hi he=>hH.rows.row (vR.length+i) v e (by rw[Tj (by omega),UM];exact hi) (by rw[Tj (by omega),show vR.length+i-R.length=i by omega];exact he)) hH.lvS hH.lS hw hm;refine .ip bD 0 _ (fun k=>(#[Value.slice ao ln cp,.map (some gP),.slice (some ⟨gR,0,none⟩) C.length C.length,.slice (some ⟨gS,0,none⟩) C.length C.length][k]?).getD Go.undef) (ae hbD) (fun k hk=>?_) (fun fr hf=>by rw[hmD] at hf;cases hf) (fun k d hk'=>?_)
 . rw[Th,Box.cell hbD];have hk4:k<4:=hk;rw[Te (by simpa using hk4)];rfl
 . rcases k with _|_|_|_|k
   . cases hk';exact hk
   . cases hk';exact rfm
   . cases hk';exact rR
   . cases hk';exact rS
   . cases hk'
theorem Nr {w1:World} {a:Act} {H:Nat->Option Obj} (hn:C.Nodup) (h400:C.length<=400) (hsz:l≠[]->sz=20) (hl4:l.length<=400) (hcnt:∀e∈l,kN e.2.2.1<=400) (hkey:∀c∈C,bV (aj l) c=true)
 (hH:HQ ao ln cp C gP bD gR gS (List.replicate C.length (.slice none 0 0)) (List.replicate C.length (.slice none 0 0)) (List.replicate C.length []) (List.replicate C.length []) H) (h1:HoldH aO 118 ⟨Kno.rd (.slice ao ln cp) (.sl false 3 (C.map aa) none),fun _=>true,#[],m,w⟩ H (aq [(0,.sl nl sz (l.map cK) none),(3,.fm (ksI (aj l)) (vsI (aj l))),(4,.x (.pointer (some ⟨bD,0,none⟩)))] []) a w1):
 pj.wpIn (aZ none) 0 aO.P (fun e a' w'=>(e=Exit.normal∨e=Exit.ret)∧∃P' st',Hold aO 118 1 ⟨Kno.top,fun _=>true,#[],m,w⟩ P' st' a' w'∧ew aO st' Try.f7.results.toList=some (iJ (C,(d8 l C C.length).1,(d8 l C C.length).2))) a w1:=by
 have hE:=dG;have hm:=je;refine wpIn_seq (wpIn_seq (wpIn_region ?_));obtain⟨fs,fd,f1,f2,f3,f4⟩:=gY 0 (by decide);have t4:a.eval (.tmp 4)=(.pointer (some ⟨bD,0,none⟩)):=h1.read_x 4 (by simp only[go_sem,St.put,Nat.reduceEqDiff,SZ,S7,bw,aq]);have hbD:=h1.at hH.d;refine bW (i:=0) (rest:=[1,2,3,4,5]) (d:=54) rfl (fun c e=>by cases e) rfl (by decide) rfl rfl h1 (bc rfl t4) ?_;intro a1 h6;refine bW (i:=1) (rest:=[2,3,4,5]) (d:=55) rfl (fun c e=>by cases e) rfl (by decide) rfl rfl h6 (cR (p:=⟨bD,0,none⟩) rfl (h6.read_x 54 (v:=(.pointer (some ⟨bD,0,none⟩))) (by simp only[go_sem,St.put,Nat.reduceEqDiff,SZ,S7,bw,aq]))) ?_;intro a2 h7;refine bW (i:=2) (rest:=[3,4,5]) (d:=56) rfl (fun c e=>by cases e) rfl (by decide) rfl rfl h7 (bC rfl f1 f2 f4 (by decide) (h7.read_x 55 (v:=(.pointer (some ⟨bD,0,none⟩))) (by simp only[go_sem,St.put,Nat.reduceEqDiff,SZ,S7,bw,aq])) (by rw[f3])) ?_;intro a3 h8;refine bW (i:=3) (rest:=[4,5]) (d:=57) rfl (fun c e=>by cases e) rfl (by decide) rfl rfl h8 (bH (v:= .slice ao ln cp) rfl (by kernel_rfl) (h8.read_x 56 (v:=(.pointer (some ⟨bD,0,none⟩))) (by simp only[go_sem,St.put,Nat.reduceEqDiff,SZ,S7,bw,aq])) ((Box.cell hbD _).trans rfl)) ?_;intro a4 h9;have h10:=h9.know (d:=57) (u:= .sl false 3 (C.map aa) none) (by decide) (fun m hk=>by rw[show a4.tmps.getD 57 Go.undef= .slice ao ln cp from h9.read_x 57 (by simp only[go_sem,St.put,Nat.reduceEqDiff,SZ,S7,bw,aq])];exact hk)
 rw[cT] at h10;clear h1 h6 h7 h8 h9 t4 hbD a a1 a2 a3;refine pd hE 4 2 [(0,.sl nl sz (l.map cK) none),(3,.fm (ksI (aj l)) (vsI (aj l))),(4,.x (.pointer (some ⟨bD,0,none⟩))),(57,.sl false 3 (C.map aa) none),(58,.x (.int .i64 (C.length:Int))),(59,.x (.int .i64 ((0:Nat):Int)))] [] [] (by decide) (by kernel_rfl) (by kernel_rfl) h10 (by simp +decide (maxDischargeDepth:=200) only[go_sem,aO,Nat.reduceBEq,St.put,io,T9]<;>(repeat' first|rfl|constructor)) ?_;clear h10 a4;intro a w6 h6;refine wpIn_block ?_;refine bR (X:={i:Nat//i<=C.length}) (fun i a' w'=>∃H vR vS,HQ ao ln cp C gP bD gR gS vR vS (d8 l C i.1).1 (d8 l C i.1).2 H∧HoldH aO 118 ⟨Kno.rd (.slice ao ln cp) (.sl false 3 (C.map aa) none),fun _=>true,#[],m,w⟩ H (aq [(0,.sl nl sz (l.map cK) none),(3,.fm (ksI (aj l)) (vsI (aj l))),(4,.x (.pointer (some ⟨bD,0,none⟩))),(57,.sl false 3 (C.map aa) none),(58,.x (.int .i64 (C.length:Int))),(59,.x (.int .i64 ((i.1:Nat):Int)))] []) a' w') (fun i=>C.length-i.1) ⟨0,TL _⟩ ⟨H,_,_,hH,h6⟩ ?_;clear h6 a w6 hH H w1;rintro⟨i,hi0⟩ a w6 ⟨H,vR,vS,hH,h1⟩;simp only at hi0 hH h1⊢;by_cases hi:i<C.length
 . have c1:decide ((i:Int)<(C.length:Int))=true:=Io (by omega);have c4:=bp (i:=i) (by omega);have q1:C[i]?=some C[i]:=eq hi;refine wpIn_seq (eZ hE hm [(0,.sl nl sz (l.map cK) none),(3,.fm (ksI (aj l)) (vsI (aj l))),(4,.x (.pointer (some ⟨bD,0,none⟩))),(57,.sl false 3 (C.map aa) none),(58,.x (.int .i64 (C.length:Int))),(59,.x (.int .i64 (i:Int))),(60,.x (.bool true))] [] (by kernel_rfl) (by kernel_rfl) h1 (by simp +decide (maxDischargeDepth:=200) only[go_sem,aO,Nat.reduceBEq,c1]<;>(repeat' first|rfl|constructor)) ?_);clear h1 a w6;intro a w6 h1;refine wpIn_seq (eZ hE hm [(0,.sl nl sz (l.map cK) none),(3,.fm (ksI (aj l)) (vsI (aj l))),(4,.x (.pointer (some ⟨bD,0,none⟩))),(57,.sl false 3 (C.map aa) none),(58,.x (.int .i64 (C.length:Int))),(59,.x (.int .i64 (i:Int)))] [] (by kernel_rfl) (by kernel_rfl) h1 (by simp +decide (maxDischargeDepth:=200) only[go_sem,aO,Nat.reduceBEq]<;>(repeat' first|rfl|constructor)) ?_);clear h1 a w6;intro a w6 h1;refine wpIn_seq (Nq hn q1 h400 hsz hl4 hcnt (hkey _ (TR hi)) hH h1 ?_);clear h1 a w6;intro a w6 H2 vR2 vS2 hH2 h1;refine eZ hE hm [(0,.sl nl sz (l.map cK) none),(3,.fm (ksI (aj l)) (vsI (aj l))),(4,.x (.pointer (some ⟨bD,0,none⟩))),(57,.sl false 3 (C.map aa) none),(58,.x (.int .i64 (C.length:Int))),(59,.x (.int .i64 ((i+1:Nat):Int)))] [] (by kernel_rfl) (by kernel_rfl) h1 (by simp +decide (maxDischargeDepth:=200) only[go_sem,aO,Nat.reduceBEq,c4]<;>(repeat' first|rfl|constructor)) ?_;intro a8 w8 h8;exact⟨⟨i+1,hi⟩,⟨H2,vR2,vS2,hH2,h8⟩,by simp only;omega⟩
 . have c1:decide ((i:Int)<(C.length:Int))=false:=SP (by omega);have e:i=C.length:=by omega
   subst e;refine wpIn_seq (eZ hE hm [(4,.x (.pointer (some ⟨bD,0,none⟩))),(60,.x (.bool false))] [] (by kernel_rfl) (by kernel_rfl) h1 (by simp +decide (maxDischargeDepth:=200) only[go_sem,aO,Nat.reduceBEq,c1]<;>(repeat' first|rfl|constructor)) ?_);clear h1 a w6;intro a w6 h1;refine wpIn_seq (Gb hE hm 2 [(4,.x (.pointer (some ⟨bD,0,none⟩)))] [] (by kernel_rfl) (by kernel_rfl) h1 (by simp +decide (maxDischargeDepth:=200) only[go_sem,aO,Nat.reduceBEq]<;>(repeat' first|rfl|constructor)) ?_);clear h1 a w6;intro a w6 h1;refine wpIn_seq (eZ hE hm [(2,.x (.pointer (some ⟨bD,0,none⟩)))] [] (by kernel_rfl) (by kernel_rfl) h1 (by simp +decide (maxDischargeDepth:=200) only[go_sem,aO,Nat.reduceBEq]<;>(repeat' first|rfl|constructor)) ?_);clear h1 a w6;intro a w6 h1;have e2:a.tmps.getD 2 Go.undef=(.pointer (some ⟨bD,0,none⟩)):=h1.read_x 2 (by simp only[go_sem,St.put,Nat.reduceEqDiff,SZ,S7,bw,aq]);have h2:Hold aO 118 1 ⟨Kno.rd (.pointer (some ⟨bD,0,none⟩)) (iJ (C,(d8 l C C.length).1,(d8 l C C.length).2)),fun _=>true,#[],m,w⟩ [] (aq [(2,.x (.pointer (some ⟨bD,0,none⟩)))] []) a w6:=HoldH.done h1 (fun m hm hk=>zV hH (fun g ob h=>h1.at h) hm hk);obtain⟨m2,O2,gs,r1,r2,r3,r4,r5,r6,r7⟩:=h2;have r8:=r1.learn (d:=2) (by decide) (u:=(iJ (C,(d8 l C C.length).1,(d8 l C C.length).2))) (by rw[e2];exact r6);exact wpIn_ret ⟨.inr rfl,[],_,⟨m2,O2,gs,r8,r2,r3,r4,r5,trivial,r7⟩,by simp +decide (maxDischargeDepth:=200) only[go_sem,aO,iJ]⟩
theorem vw:∀n:Nat,n<=l.length->bV (aj (l.take n)) c=true->∃e∈l,e.1=c:=by
 intro n
 induction n with
 |zero=>intro _ h;simp[aj,iI,bV,fV] at h
 | succ n ih=>
   intro hn h;have q1:l[n]?=some l[n]:=eq (by omega);have e:aj (l.take (n+1))=eR (aj (l.take n)) (l[n]).1 ((n:Nat):Int):=by unfold aj;rw[bA q1,dP,Tt,Th,UD (by omega)]
   rw[e] at h;by_cases hc:c=(l[n]).1
   . exact⟨_,TR _,hc.symm⟩
   . exact ih (by omega) (pk _ _ _ _ hc h)
theorem oh (h:c∈(aj l).map fun p=>p.1):∃e∈l,e.1=c:=
 vw l.length (SX _) (by rw[Ui];exact cD.2 h)
theorem cS (L:List CI):(aT L).Nodup:=(jI L).imp fun {a b} h e=>by subst e;rw[bq.irr] at h;cases h
def Gh (p:ES):Prop:=RL p∧∀e∈p.2.2,e.1.1.size<=281474976710656
def gp (l:List En):PD:=(aT (aj l),(d8 l (aT (aj l)) (aT (aj l)).length).1,(d8 l (aT (aj l)) (aT (aj l)).length).2)
open Classical in
noncomputable def Gi (p:ES):Option V:=if Gh p then some (iJ (gp p.2.2)) else none
theorem sK (h:l.length<=400):(aj l).length<=400:=by
 have:=dw (l':=l.map fun e=>e.1) (iu l) (fun c hc=>by obtain⟨e,he,rfl⟩:=oh hc;exact SU.2 ⟨e,he,rfl⟩)
 simp only[io] at this;omega
theorem sM (h:l.length<=400):(aT (aj l)).length<=400:=by have h1:=sK h;have:=dw (l':=(aj l).map fun p=>p.1) (cS _) (fun c hc=>(fP _ _).1 hc);rw[io] at this;omega
theorem sN:cm 7 (FE ej Gi):=by
 refine sj (E:=aO) (n:=118) (sz:=1) (k:=1) Try.func7 rfl (fun a w=>Try.call7 a w) Try.ntmps7 (by decide) (by decide) ?_;intro us r m w a hF hdat h0;obtain⟨⟨nl,sz,l⟩,hus,hG⟩:=be hF;clear hF;subst hus;unfold Gi at hG;split at hG
 case isFalse=>cases hG
 rename_i hok;cases hG;obtain⟨⟨hsz,hl4,hcnt⟩,hs8⟩:=hok;simp only at hsz hl4 hcnt hs8;replace h0:=h0 rfl;refine⟨rfl,?_⟩;have h400:=sM hl4;have hn:=cS (aj l);have hso:Dn (aj l):=⟨iu l,sK hl4,fun p hp=>by obtain⟨e,he,h⟩:=oh (l:=l) (c:=p.1) (SU.2 ⟨p,hp,rfl⟩);rw[<-h];exact hs8 e he⟩
 refine Nk (nl:=nl) (sz:=sz) (l:=l) ⟨hsz,hl4⟩ hs8 rfl h400 hn hso h0 (fun v15 gP bD H a' w' hHP h=>?_);obtain⟨ao,ln,cp,rfl⟩:∃ao ln cp,v15= .slice ao ln cp:=by obtain⟨m',O',_,_,_,_,q6,_⟩:=h;exact sA q6
 refine Nl h400 hHP h (fun gR gS H' a2 w2 hHQ h2=>?_);exact Nr hn h400 hsz hl4 hcnt (fun c hc=>cD.2 ((fP _ _).1 hc)) hHQ h2
end Go.Proofs.Ytalkmhjanlljhaa

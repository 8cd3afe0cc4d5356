/- MN -/
import Derived.Test.YtiepfeebmnfbdaaGreatMQ
import Derived.Test.YtiepfeebmnfbdaaGreatMH
namespace Go.Proofs.YtiepfeebmnfbdaaGreat
noncomputable section
open Tryz
set_option linter.unusedSimpArgs false
set_option maxHeartbeats 16000000
set_option maxRecDepth 100000
open Go Go.RowKit
open Go.Sort (PermIn SortedIn)
open Go.ChangeMaps (setBlock)
attribute [go_sem] results30 results43
theorem Wg{P:Prop}(h:P:=by cases hj;exact aX rfl (fun c e=>by cases e) rfl rfl (bE rfl t4) (hK _ _ _ _ (fun _ _=>rfl) (hkeep A0c A0c _ ⟨hval,rfl⟩) (fin A0c rfl (hJ.putX A0c rfl _)))):P:=h
theorem Wf{P:Prop}(h:P:=by cases hj;exact aX rfl (fun c e=>by cases e) rfl rfl (bE rfl t7) (hK _ _ _ _ (fun _ _=>rfl) (hkeep A0c A0c _ ⟨hval,rfl⟩) (fin A0c rfl (hJ.putX A0c rfl _)))):P:=h
theorem We{P:Prop}(h:P:=by rintro a2 w2 H2 val ⟨_,hI⟩ hJ;rw[adl A0a] at hI;obtain⟨v',hI⟩:=hI;exact hQ a2 w2 H2 _ hI (hJ.le (L6 (fun o ho k hk=>by simp only[adA,ae5,ags] at ho;rcases ho with rfl|rfl|rfl|rfl|rfl|rfl|rfl|rfl|rfl|rfl|rfl|rfl|rfl|rfl|rfl|rfl|rfl<;>cases hk<;>exact hst _ A0c A0c)))):P:=h
theorem Wd{P:Prop}(h:P:=by cases hj;exact aX rfl (fun c e=>by cases e) rfl rfl (bE rfl t11) (hK _ _ _ _ (fun _ _=>rfl) (hkeep A0c A0c _ ⟨hval,rfl⟩) (fin A0c rfl (hJ.putX A0c rfl _)))):P:=h
theorem Wc{P:Prop}(h:P:=by rw[<-e96] at hrun;simp only[execOp,resolve,Gc,Gd,Ge,invoke,builtin];simp[e94,hrun,show ba.P=prog from rfl]):P:=h
theorem Wb{P:Prop}(h:P:=by exact⟨_,_,underlying90,rfl,rfl,A0a⟩):P:=h
theorem Wa{P:Prop}(h:P:=by cases hj;exact ew rfl (fun c e=>by cases e) rfl A0c rfl rfl hJ (cG rfl A0a t3 t3c) (fun h=>hK _ _ h)):P:=h
theorem WZ{P:Prop}(h:P:=by cases hj;exact ew rfl (fun c e=>by cases e) rfl A0c rfl rfl hJ (bE rfl t5) (fun h=>hK _ _ h)):P:=h
theorem WY{P:Prop}(h:P:=by rw[adi,Box.cell hbD];have hk4:k<4:=hk;rw[adG (by simpa using hk4)];rfl):P:=h
theorem WX{P:Prop}(h:P:=by obtain⟨v',_,g,ob,rfl,_,hg,_⟩:=hIL;rw[ah _ _ (hH.far hi2 hg y hy)]):P:=h
def cz(L:List CI):List C3:=(L.map fun p=>p.1).foldl aM []
theorem nc(L:List CI):gB ae (cz L):=i6 _ List.Pairwise.nil
theorem jg(L:List CI)(c:C3):c∈cz L↔c∈L.map fun p=>p.1:=by unfold cz;rw[fK];simp
def oI(L:List CI):U:=[.fm (ksI L) (vsI L)]
theorem Hp(p q:List CI)(e:oI p=oI q):p=q:=by
 simp only[oI,adW,V.fm.injEq,aeQ] at e;obtain⟨h1,h2⟩:=e;have h3:(p.map fun p=>p.1)=q.map fun p=>p.1:=bn cF h1
 have h4:(p.map fun p=>p.2)=q.map fun p=>p.2:=by
  have e1:∀L:List CI,vsI L=(L.map fun p=>p.2).map fun i=>V.i i:=fun L=>by unfold vsI;rw[aes];rfl
  rw[e1,e1] at h2;exact bn (fun a b e=>by cases e;rfl) h2
 apply aeB;intro i;have a1:=ae6 (fun l=>l[i]?) h3;have a2:=ae6 (fun l=>l[i]?) h4;simp only[ac9] at a1 a2;cases hp:p[i]? with
 | none=>rw[hp] at a1;cases hq:q[i]? with
   |none=>rfl
   |some y=>rw[hq] at a1;cases a1
 | some y=>rw[hp] at a1 a2;cases hq:q[i]? with
   |none=>rw[hq] at a1;cases a1
   |some z=>rw[hq] at a1 a2;obtain⟨y1,y2⟩:=y;obtain⟨z1,z2⟩:=z;simp only[aea,adO] at a1 a2;rw[a1,a2]
def LY(L:List CI):Prop:=vw L∧L.length<=400∧∀p∈L,p.1.1.size<=281474976710656
open Classical in
def TP(L:List CI):Option V:=if LY L then some (.sl false 3 ((cz L).map aa) none) else none
def rdC:V->C3
 | .agg [.x (.string s),.x (.int _ c),.x (.int _ r)]=>(s,c,r)
 |_=>(⟨#[]⟩,0,0)
def uX(sp:List (MapEntry×V)):Nat:=if sp.isEmpty then 8 else 18
theorem Hq(sp:List (MapEntry×V))(p:MapEntry×V):uX (sp++[p])=18:=by unfold uX;cases sp<;>rfl
def Kno.map(g:Nat)(ents:Array MapEntry)(clock:Nat):Kno:=⟨fun m w=>w.heap[g]?=some (.map ents clock)∧m g=none,fun _ _ _ _ h he=>⟨he.map _ _ _ h.2 h.1,he.noLim (eA h.1) h.2⟩⟩
theorem qS:EnvOK (aY [(58,cw)] (fun _=>false) [] (fun i=>i==3) (fun _=>false)):=ge _ _ _ _ _ ⟨nG,trivial⟩ trivial
theorem Hr:∀l:U,(∀k∈l,∃p:C3,k=aa p)->∃ss:List C3,l=ss.map aa:=by
 intro l
 induction l with
 |nil=>exact fun _=>⟨[],rfl⟩
 |cons x l ih=>intro h;obtain⟨ss,rfl⟩:=ih (fun k hk=>h k (adE _ hk));obtain⟨s,rfl⟩:=h x (adP ..);exact⟨s::ss,rfl⟩
def Yz:Option Code->Code
 |some (Code.seq _ (Code.seq _ (Code.seq _ c)))=>c
 |_=>Code.skip
def YA:Code:=Yz f43.body
theorem rW:∀{a b:List C3},(a.map aa).Perm (b.map aa)->a.Perm b:=by
 intro a b h;have e:∀l:List C3,(l.map aa).map rdC=l:=fun l=>by
  rw[aes]
  conv=>rhs;rw[<-List.map_id l]
  exact aeW fun p _=>rfl
 have:=h.map rdC
 rwa [e,e] at this
def Es(L:List CI):Prop:=∀(m:Lim) (w:World) (a':Act) (w':World) (l:List C3) (tok:Nat),l.Perm (L.map fun p=>p.1)->One (aY [(58,cw)] (fun _=>false) [] (fun i=>i==3) (fun _=>false)) 40 ⟨[],Kno.top,fun _=>true,#[],fun _=>False,m,w⟩ (aq [(3,.ptr 3 0)] [(3,[.sl false 3 (l.map aa) (some tok)])]) a' w'->YA.wpIn (bg none) 0 prog (fun e a' w'=>(e=Exit.normal∨e=Exit.ret)∧∃D' Kn W' t' st',One (aY [(58,cw)] (fun _=>false) [] (fun i=>i==3) (fun _=>false)) 40 ⟨D',Kn,W',t',fun _=>False,m,w⟩ st' a' w'∧eX (aY [(58,cw)] (fun _=>false) [] (fun i=>i==3) (fun _=>false)) st' f43.results.toList=some (.sl false 3 ((cz L).map aa) none)) a' w'
theorem Hs(hrest:∀L,LY L->Es L):cg 43 (FE oI TP):=by
 have hE:EnvOK (aY [(58,cw)] (fun _=>false) [] (fun i=>i==3) (fun _=>false)):=qS;have hm:(aY [(58,cw)] (fun _=>false) [] (fun i=>i==3) (fun _=>false)).P.follows .mixedOrders=true:=A0a
 refine pR (E:=(aY [(58,cw)] (fun _=>false) [] (fun i=>i==3) (fun _=>false))) (n:=40) (k:=1) hE func43 rfl (fun a w=>call43 a w) ntmps43 A0c A0c ?_;intro us r m w a hF hdat h0;obtain⟨L,hus,hG⟩:=bh hF;subst hus;unfold TP at hG;split at hG
 case isFalse=>cases hG
 rename_i hok;cases hG;have hrest:=hrest L hok;obtain⟨hn,h400,hsz⟩:=hok;replace h0:=h0 rfl;refine⟨rfl,?_⟩;simp only[oI] at h0;refine wpIn_seq (wZ hE hm [(0,.fm (ksI L) (vsI L))] [] A0a h0 A0d ?_);intro a w1 h1;refine wpIn_seq (wpIn_region ?_);refine DK hE 0 1 [(0,.fm (ksI L) (vsI L)),(6,.fm (ksI L) (vsI L))] [] [1,2,3,4] A0c A0a h1 A0d ?_;intro a w1 h1;obtain⟨g,ents,clock,he6,hh1,hrd1,hlt,hnd⟩:∃g ents clock,a.tmps.getD 6 undef= .map (some g)∧w1.heap[g]?=some (.map ents clock)∧ents.size=L.length∧(∀e∈ents.toList,e.born<clock)∧(ents.toList.map (·.born)).Nodup:=by obtain⟨m1,O1,hn1,_⟩:=h1;have hrd:=eM hn1 6 (u:= .fm (ksI L) (vsI L)) A0g rfl;obtain⟨g,ents,clock,e,q1,q2,q3,q4,_⟩:=hrd.fm_at;refine⟨g,ents,clock,e,q1,?_,q3,q4⟩;have:=q2.len.1;simp only[ksI,eq,adD] at this;exact this
 refine uC (i:=1) (rest:=[2,3,4]) (d:=7) rfl (fun c e=>by cases e) rfl A0c rfl rfl h1 (.int .i64 (ents.size:Int)) ?_ ?_
 . have e6:a.eval (.tmp 6)= .map (some g):=he6;have hu:prog.underlying 75=some (.map (prog.mapKeyOf 75) (prog.mapElemOf 75)):=A0a
   have hl:=run_len_map (P:=prog) w1 75 3 g ents clock hu hh1;simp only[execOp,resolve,Gc,Gd,Ge,invoke,builtin,List.map_toArray,adL,afr,e6,ir,lU];rw[hl];rfl
 intro a2 h1 ha2;rw[hrd1] at h1;have c0:(0:Int)<=(L.length:Int):=A0b
 have c1:(16*2:Int)*(L.length:Int)<=281474976710656:=A0b
 have c6:(L.length:Int)<=9223372036854775807:=A0b
 have c7:((32:Nat):Int)*(L.length:Int)<=281474976710656:=A0b
 refine DK hE 2 3 [(0,.fm (ksI L) (vsI L)),(3,.ptr 3 0)] [(3,[.sl false 3 [] (some 8)])] [] A0c A0a h1 (by simp +decide (maxDischargeDepth:=200) only[go_sem,St.put,c0,c6,c7]<;>(repeat' first|rfl|constructor)) ?_;intro a w1 h1;refine wpIn_seq (wpIn_seq (wpIn_region ?_));refine DK hE 0 1 [(3,.ptr 3 0),(9,.fm (ksI L) (vsI L))] [(3,[.sl false 3 [] (some 8)])] [1] A0c A0a h1 A0d ?_;intro a w1 h1;obtain⟨m1,O1,hn1,g2,g3,g4,g5,g6⟩:=h1;obtain⟨g,ents,clock,he9,hh1,hrd1,hlt,hnd,hmg⟩:=(eM hn1 9 (u:= .fm (ksI L) (vsI L)) A0g rfl).fm_at;rw[wpOpsIn_cons];have he9':a.eval (.tmp 9)= .map (some g):=he9
 refine fI (v:= .pointer (some ⟨w1.heap.size,0,none⟩)) (w':=w1.alloc (.mapIter (some g) clock #[] clock)) rfl rfl A0L (by simp only[execOp,he9',Gc,lr (P:=prog) underlying75 hh1,Ge,Gd,lU]) ?_
 have hbl:Below w1.heap.size w1 (w1.alloc (.mapIter (some g) clock #[] clock)):=(Below.refl _ w1).alloc (adp _) _;have hst:Step (fun _=>False) m1 w1 m1 (w1.alloc (.mapIter (some g) clock #[] clock)):=Step.of_below hbl (fun _ _=>rfl);have hJ1:(aY [(58,cw)] (fun _=>false) [] (fun i=>i==3) (fun _=>false)).J (w1.alloc (.mapIter (some g) clock #[] clock)):=hE.keep [] _ _ (fun x hx=>by cases hx) hn1.J ⟨hbl.os,hbl.tape,hbl.output,hbl.size,fun k hk _=>hbl.block k hk⟩;have hKr:(aY [(58,cw)] (fun _=>false) [] (fun i=>i==3) (fun _=>false)).K<=w1.heap.size:=hE.high _ hn1.J;have hws:w.heap.size<=w1.heap.size:=g3.ext.size;have hgr:g≠w1.heap.size:=by have:=ag hh1;omega
 have h2:=OneG.after (E:=(aY [(58,cw)] (fun _=>false) [] (fun i=>i==3) (fun _=>false))) (n:=40) (Kn':=Kno.map g ents clock) (d:=10) (g:=w1.heap.size) (ob:= .mapIter (some g) clock #[] clock) A0c (v:= .pointer (some ⟨w1.heap.size,0,none⟩)) hn1 g2 g3 g4 g6 rfl hst hJ1 ⟨(Below.heap_alloc _ _ _ (ag hh1)).trans hh1,by rw[ah _ _ hgr];exact hmg⟩ (adp _) (World.heap_new _ _);generalize w1.heap.size=rr at h2 hKr hws hgr;generalize w1.alloc _=w2 at h2⊢;replace h2:=h2.le (st':=aq [(3,.ptr 3 0),(10,.x (.p rr))] [(3,[.sl false 3 [] (some 8)])]) (aK A04 A04);obtain⟨ps,hps⟩:∃ps,ps=ents.toList.zip (ksI L):=⟨_,rfl⟩;have hlen:=hrd1.len.1;have hp1:ps.map (fun p=>p.1)=ents.toList:=by rw[hps];exact List.map_fst_zip A0b
 have hp2:ps.map (fun p=>p.2)=ksI L:=by rw[hps];exact List.map_snd_zip A0b
 have hpb:(ps.map fun p=>p.1.born).Nodup:=by
  have:(ps.map fun p=>p.1.born)=(ps.map fun p=>p.1).map (·.born):=by rw[aes];rfl
  rw[this,hp1];exact hnd
 have hpk:∀p∈ps,p.2.val=some p.1.key:=fun p hp=>by obtain⟨i,hi⟩:=aen hp;rw[hps,afn] at hi;obtain⟨k,v,q1,_,q2,_⟩:=hrd1.get i p.1 hi.1;rw[q1] at hi;cases hi.2;exact q2.2
 have hks:∀k∈ksI L,∃p:C3,k=aa p:=fun k hk=>by obtain⟨p,_,rfl⟩:=ads.1 hk;exact⟨p,rfl⟩
 refine(show wpOpsIn (bg none) 0 _ _ _ [] _ _ from ?_);refine wpIn_block ?_;refine cI (X:=List (MapEntry×V)) (fun sp a' w'=>(∀p∈sp,p∈ps)∧(sp.map fun p=>p.1.born).Nodup∧OneG (aY [(58,cw)] (fun _=>false) [] (fun i=>i==3) (fun _=>false)) 40 ⟨[],Kno.map g ents clock,fun _=>true,#[],fun _=>False,m,w⟩ (aq [(3,.ptr 3 0),(10,.x (.p rr))] [(3,[.sl false 3 (sp.map fun p=>p.2) (some (uX sp))])]) a' w' rr (.mapIter (some g) clock (sp.map fun p=>p.1.born).toArray clock) (some 0)) (fun sp=>(ents.toList.filter fun e=> !(sp.map fun p=>p.1.born).contains e.born).length) [] ⟨(fun p hp=>by cases hp),ad3,h2⟩ ?_;rintro sp a2 w2 ⟨hsub,hspn,h2⟩;refine wpIn_seq (wpIn_region ?_);show wpOpsIn (bg none) 0 _ _ _ (0::List.range' 1 1++[]) _ _;rw[aee,wpOpsIn_cons];have h2':=h2;obtain⟨m2,O2,hn2,-,-,-,⟨k6,-⟩,-,-,k8,-⟩:=h2';have he10:a2.eval (.tmp 10)= .p rr:=hn2.read_x 10 A0g;have hcont:∀b:Nat,((sp.map fun p=>p.1.born).toArray.contains b)=(sp.map fun p=>p.1.born).contains b:=fun b=>by simp
 rcases run_next_at (P:=prog) w2 0 rr g clock clock _ ents clock k8 k6 hlt (adp _) with⟨hz,hrun⟩|⟨e,he,w3,hw3,hrun⟩
 . --nothing is left
   refine fI (v:= .tuple #[.bool false]) (w':=w2) rfl rfl A0L A1m ?_;have h3:=OneG.putV (d:=11) (v:= .tuple #[.bool false]) (u:= .tup [.bool false]) A0c rfl h2 (fun _ _=>Rd.tup_iff.2 ⟨_,rfl,.x _,trivial⟩);rw[eT] at h3;refine iy hE 1 1 [(3,.ptr 3 0),(12,.bool false)] [(3,[.sl false 3 (sp.map fun p=>p.2) (some (uX sp))])] [] A0c A0a A0a h3 A0d ?_;intro a3 w3 h3;refine wpIn_seq (Ea hE hm 0 [(3,.ptr 3 0)] [(3,[.sl false 3 (sp.map fun p=>p.2) (some (uX sp))])] A0a A0a h3 A0d ?_);intro a3 w3 h3;have hperm:sp.Perm ps:=xb hpb hsub hspn (fun p hp=>by
    have hz':Go.leftOf ents (sp.map fun p=>p.1.born).toArray= #[]:=aeU hz;have:p.1∈ents.toList:=by rw[<-hp1];exact ads.2 ⟨p,hp,rfl⟩
    unfold Go.leftOf at hz';rw[Array.filter_eq_empty_iff] at hz';have:=hz' p.1 (by simpa using this);rw[hcont] at this;simpa using this)
   have hpk2:(sp.map fun p=>p.2).Perm (ksI L):=by rw[<-hp2];exact hperm.map _
   obtain⟨l,hl⟩:=Hr (sp.map fun p=>p.2) (fun k hk=>hks k (hpk2.mem_iff.1 hk));have hlp:l.Perm (L.map fun p=>p.1):=by rw[hl] at hpk2;exact rW hpk2
   have h4:=h3.one;rw[hl] at h4;obtain⟨m4,O4,r1,r2,r3,r4,_,r6⟩:=h4;exact hrest m w a3 w3 l (uX sp) hlp ⟨m4,O4,r1,r2,r3,r4,trivial,r6⟩
 . --an entry has come
   obtain⟨hem,hnew⟩:=mem_left he;rw[hcont] at hnew;obtain⟨pe,hpe,rfl⟩:∃p∈ps,p.1=e:=by rw[<-hp1] at hem;obtain⟨p,hp,rfl⟩:=ads.1 hem;exact⟨p,hp,rfl⟩
   obtain⟨e,kv⟩:=pe;simp only at hem hnew hrun;have hkey:=hpk _ hpe;simp only at hkey;have hkin:kv∈ksI L:=by rw[<-hp2];exact ads.2 ⟨_,hpe,rfl⟩
   obtain⟨pc,rfl⟩:=hks kv hkin;have hkrd:∀(m:Lim) (w:World),Rd m w e.key (aa pc):=fun m w=>by have hk2:(aa pc).val=some e.key:=hkey;simp only[V.val,aa,afk,V.one,List.mapM_nil,afY,afB,aeL,aea,adO] at hk2;rw[<-hk2];exact Rd.agg_iff.2 ⟨_,rfl,.x _,.x _,.x _,trivial⟩
   have hseen:(sp.map fun p=>p.1.born).toArray.push e.born=((sp++[(e,aa pc)]).map fun p=>p.1.born).toArray:=A0k
   rw[hseen] at hrun;have hs3:Step (fun k=>k=rr) m2 w2 m2 (setBlock w3 rr (.mapIter (some g) clock ((sp++[(e,aa pc)]).map fun p=>p.1.born).toArray clock)):=Step.iter hw3 k8;have hr3:=lq (o:= .mapIter (some g) clock ((sp++[(e,aa pc)]).map fun p=>p.1.born).toArray clock) hw3 k8;refine fI (v:= .tuple #[.bool true,e.key,e.val]) (w':=setBlock w3 rr (.mapIter (some g) clock ((sp++[(e,aa pc)]).map fun p=>p.1.born).toArray clock)) rfl rfl A0L A1m ?_;have h3:=(OneG.wrote hE h2 (fun l e=>by cases e) hws hKr (hs3.bel (fun k _ h=>adj.2 h)) hr3).putV (d:=11) (v:= .tuple #[.bool true,e.key,e.val]) (u:= .tup [.bool true,.undef,.undef]) A0c rfl (fun _ _=>Rd.tup_iff.2 ⟨_,rfl,.x _,.undef _,.undef _,trivial⟩);rw[eT] at h3;generalize setBlock w3 rr _=w4 at h3;refine iy hE 1 1 [(3,.ptr 3 0),(10,.x (.p rr)),(12,.bool true)] [(3,[.sl false 3 (sp.map fun p=>p.2) (some (uX sp))])] [] A0c A0a A0a h3 A0d ?_;intro a3 w5 h3;refine wpIn_seq (jE hE hm [(3,.ptr 3 0),(10,.x (.p rr))] [(3,[.sl false 3 (sp.map fun p=>p.2) (some (uX sp))])] A0a A0a h3 A0d ?_);intro a3 w5 h3;refine wpIn_block (wpIn_seq (wpIn_region ?_));show wpOpsIn (bg none) 0 _ _ _ (0::List.range' 1 3++[]) _ _;rw[aee,wpOpsIn_cons];have h3':=h3;obtain⟨m5,O5,hn5,-,-,-,⟨k6,-⟩,-,-,k8,-⟩:=h3';have he10:a3.eval (.tmp 10)= .p rr:=hn5.read_x 10 A0g;have hen:=run_entry_at (P:=prog) w5 rr g clock (sp.map fun p=>p.1.born).toArray ents clock e (by rw[hseen];exact k8) k6 hem hnd;refine fI (v:= .tuple #[e.key,e.val]) (w':=w5) rfl rfl A0L (by simp only[execOp,he10,Gc,lU];rw[hen];rfl) ?_;have h4:=h3.putV (d:=13) (v:= .tuple #[e.key,e.val]) (u:= .tup [aa pc,.undef]) A0c rfl (fun _ _=>Rd.tup_iff.2 ⟨_,rfl,hkrd _ _,.undef _,trivial⟩);rw[eT] at h4;refine iy hE 1 3 [(3,.ptr 3 0),(10,.x (.p rr)),(4,.ptr 4 0)] [(3,[.sl false 3 (sp.map fun p=>p.2) (some (uX sp))]),(4,[.x (.string pc.1),.i pc.2.1,.i pc.2.2])] [] A0c A0a A0a h4 A0H ?_;intro a3 w5 h3;have hsub2:∀p∈sp++[(e,aa pc)],p∈ps:=fun p hp=>by
    rcases adv.1 hp with hp|hp
    . exact hsub p hp
    . rw[adj.1 hp];exact hpe
   have hspn2:((sp++[(e,aa pc)]).map fun p=>p.1.born).Nodup:=by
    rw[adK,aeH];refine⟨hspn,A0k,fun b hb c hc e1=>?_⟩;have hc1:c=e.born:=by simpa using hc
    subst hc1;subst e1;have:(sp.map fun p=>p.1.born).contains e.born=true:=by simpa using hb
    rw[this] at hnew;cases hnew
   have hspl:sp.length<=400:=by
    have:=eu (eY _ hspn) hsub;have h5:ps.length=L.length:=by have:=ae6 List.length hp2;simpa[ksI] using this
    omega
   have gg:=Eo (E:=(aY [(58,cw)] (fun _=>false) [] (fun i=>i==3) (fun _=>false))) (el:=33) (n:=3) mH mI mJ A0c rfl (es:=sp.map fun p=>p.2) (es':=[aa pc]) (m:=3) (fun _=>rfl) rfl (by simp only[eq,adm,adT];omega) (by simp only[eq,adm,adT];omega);simp only[aa] at gg;refine jE hE hm [(3,.ptr 3 0),(10,.x (.p rr))] [(3,[.sl false 3 ((sp.map fun p=>p.2)++[aa pc]) (some 18)])] A0a A0a h3 (by simp +decide only[go_sem,aa,gg]<;>(repeat' first|rfl|constructor)) ?_;intro a3 w5 h3;refine⟨sp++[(e,aa pc)],⟨hsub2,hspn2,?_⟩,?_⟩
   . rw[Hq,adK];exact h3
   . refine kd (fun e'=> !(sp.map fun p=>p.1.born).contains e'.born) (fun e'=> !((sp++[(e,aa pc)]).map fun p=>p.1.born).contains e'.born) (fun y hy=>?_) _ e hem (by rw[hnew];rfl) A0k;simp only[adK,List.contains_append,Bool.not_or,ado] at hy;exact hy.1
variable{st:St}{ops:List Oper}{L:Nat}
theorem kr{val:Nat->Value}{k:Nat}(h:(ops.all fun o=>o.dst !=some k)=true):(xW st val ops L).t k=st.t k:=by
 show(if cN ops L k=true then V.x (val k) else st.t k)=_;rw[adq];unfold cN;intro hd;obtain⟨i,_,hi⟩:=aeJ.1 hd;rw[ado] at hi;split at hi
 . rename_i o ho;have:=adr.1 h o (adg ho);rw[eq_of_beq hi.2] at this;simp at this
 . cases hi.2
def ac5(V0:Value)(g i:Nat)(s:ByteArray)(k:Nat):Value:=
 if k=28 then V0 else if k=29 then .int .i64 (i:Int) else if k=30 then V0 else if k=31 then .int .i64 (i:Int) else if k=34 then .string s else if k=35 then .string s else .pointer (some ⟨g,i*3,none⟩)
def YB:Nat->List Nat
 |4=>[30,31]
 |5=>[32]
 |6=>[33]
 |7=>[34]
 |8=>[28,29]
 |9=>[36]
 |10=>[35,37]
 |_=>[]
theorem Ht(l:List C3):(l.flatMap cQ).length=l.length*3:=by
 induction l with
 |nil=>rfl
 |cons c l ih=>rw[aeg,adh,ih,adm,show(cQ c).length=3 from rfl];omega
theorem To:∃fs fd,prog.underlying 33=some (.struct fs)∧fs[0]?=some fd∧fd.offset=0∧bo prog fd.type=some 1:=⟨_,_,underlying33,rfl,rfl,A0a⟩
abbrev FN(g N cap):=([(3,[.x (.s g N cap)])]:List (Nat×List V))
theorem LZ(L:List CI)(hok:LY L):Es L:=by
 have hE:EnvOK (aY [(58,cw)] (fun _=>false) [] (fun i=>i==3) (fun _=>false)):=qS;have hm:(aY [(58,cw)] (fun _=>false) [] (fun i=>i==3) (fun _=>false)).P.follows .mixedOrders=true:=A0a
 intro m w a1 w1 l tok hp h1;obtain⟨hn,h400,hsz⟩:=hok;have hll:l.length=L.length:=hp.length_eq.trans A0k;have hnd:l.Nodup:=hp.nodup_iff.2 hn;obtain⟨g,cap,cur,ty,m0,h2,hcap,hgs,hKg,hrd⟩:=One.shedB (E:=(aY [(58,cw)] (fun _=>false) [] (fun i=>i==3) (fun _=>false))) (fun _=>rfl) rfl (fun _ h=>h) rfl h1;have hlen:(l.map aa).length=l.toArray.size:=A0k
 rw[hlen] at h2 hcap hrd;replace h2:OneG (aY [(58,cw)] (fun _=>false) [] (fun i=>i==3) (fun _=>false)) 40 ⟨[],Kno.top,fun _=>true,#[],fun _=>False,m,w⟩ (aq [(3,.ptr 3 0)] [(3,[.x (.s g l.toArray.size cap)])]) a1 w1 g (.cells cur ty (0,0)) (some 0):=h2;have hhg:w1.heap[g]?=some (.cells cur ty (0,0)):=by obtain⟨m5,O5,_,_,_,_,_,_,_,hh9,_⟩:=h2;exact hh9
 have hcur:=KM rfl hrd hhg;refine wpIn_seq (wpIn_region ?_);refine iy hE 0 1 [(3,.ptr 3 0),(19,.x (.s g l.toArray.size cap))] [(3,[.x (.s g l.toArray.size cap)])] [1,2,3] A0c A0a A0a h2 A0d ?_;intro a7 w7 h7;have e19:a7.eval (.tmp 19)=(.s g l.toArray.size cap):=h7.read_x 19 A0g;refine kg (i:=1) (rest:=[2,3]) (d:=20) rfl (fun c e=>by cases e) rfl A0c rfl rfl h7 (.iface 29 (.s g l.toArray.size cap)) ?_ ?_
 . have hmi:(Instr.makeInterface 29 (.s g l.toArray.size cap)).run prog w7= .ok (.iface 29 (.s g l.toArray.size cap)) w7:=run_makeInterface _ _ _ A0a;simp only[execOp,Gc,e19,lU,hmi,Ge,Gd]
 intro a8 h8 ha8;obtain⟨Bk,valsB,tyB,frB,e3,hB,hB0,hne⟩:∃Bk vals tyB frB,a8.tmps.getD 3 undef= .p Bk∧w7.heap[Bk]?=some (.cells vals tyB frB)∧vals[0]?=some (.s g l.toArray.size cap)∧Bk≠g:=by obtain⟨m5,O5,hn5,_,_,_,_,_,hng,_⟩:=h8;obtain⟨b,vals,ty,fr,e,e2,e3,e4⟩:=hn5.box_at (i:=3) (s:=3) (v:=(.s g l.toArray.size cap)) A0i A0U;exact⟨b,vals,ty,fr,e,e2,e3,fun e=>hng (e▸e4)⟩
 refine kg (i:=2) (rest:=[3]) (d:=21) rfl (fun c e=>by cases e) rfl A0c rfl rfl h8 (.func (.func 56) #[] #[.p Bk]) ?_ ?_
 . have e3':a8.eval (.tmp 3)= .p Bk:=e3;simp only[execOp,Gc,Instr.makeFunc,Gd,Ge];simp[e3']
 intro a9 h9 ha9;have e20:a9.tmps.getD 20 undef= .iface 29 (.s g l.toArray.size cap):=h9.read_x 20 A0i;have e21:a9.tmps.getD 21 undef= .func (.func 56) #[] #[.p Bk]:=h9.read_x 21 A0i;obtain⟨hj9,hh9⟩:(aI []).J w7∧w7.heap[g]?=some (.cells cur ty (0,0)):=by obtain⟨m5,O5,hn5,_,_,_,_,_,_,hh9,_⟩:=h9;exact⟨hn5.J,hh9⟩
 have hS:=Yd D9 A0c (blk:=g) (Bk:=Bk) (cap:=cap) (d:=l.toArray) hh9 (by simpa using hcur) hB hB0 hne hcap (by simp only[aeR];unfold MX;omega) hKg hj9;refine nM (i:=3) (rest:=[]) rfl rfl rfl rfl (fun a w=>call55 a w) (by rw[show Array.map a9.eval #[.tmp 20,.tmp 21]= #[a9.tmps.getD 20 undef,a9.tmps.getD 21 undef] from by simp[Act.eval],e20,e21];exact hS) ?_;rintro e w8 ⟨rfl,d',hp',hs8,hb8,m8,hbx⟩;refine⟨_,rfl,?_⟩;obtain⟨hsrt,hpm⟩:=KL hp' hs8 (by simpa using hnd);have hrn:d'.toList=cz L:=l5 bQ hsrt (nc L) (fun c=>by rw[jg,hpm.mem_iff];exact hp.mem_iff)
 have hds:d'.size=l.toArray.size:=hp'.1;obtain⟨_,vals,ty8,xs,rest,hh8,hx8,hr8⟩:=hbx;rw[dw,hrn] at hr8;have hxs:=oB hr8;subst hxs;have hC:(cz L).length=l.toArray.size:=by rw[<-hrn,adD,hds]
 have hmC:∀c∈cz L,c.1.size<=281474976710656:=fun c hc=>by rw[jg] at hc;obtain⟨p,hp,rfl⟩:=ads.1 hc;exact hsz p hp
 have hN4:l.toArray.size<=400:=by simp only[aeR];omega
 generalize cz L=C at*;have h10:=(OneG.wrote hE h9 (fun l e=>by cases e) hgs hKg hb8 hh8).putV (d:=22) (v:= .tuple #[]) (u:= .undef) A0c rfl (fun _ _=> .undef _);show Exit.then _ _ Exit.normal _ _;generalize a9.put (some 22) _=a10 at h10;generalize hNN:l.toArray.size=N at*;have hvs:vals.toList=C.flatMap cQ++rest:=hx8;refine wpIn_seq (wpIn_seq (wpIn_region ?_));refine iy hE 0 1 [(3,.ptr 3 0),(23,.x (.s g N cap))] (FN g N cap) [1,2] A0c A0a A0a h10 (by simp +decide only[go_sem,St.put,fi]<;>(repeat' first|rfl|constructor)) ?_;intro a1 w1 h1;have e23:a1.eval (.tmp 23)=(.s g N cap):=h1.read_x 23 A0g;refine kg (i:=1) (rest:=[2]) (d:=24) rfl (fun c e=>by cases e) rfl A0c rfl rfl h1 (.int .i64 (N:Int)) ?_ ?_
 . have hu:(aY [(58,cw)] (fun _=>false) [] (fun i=>i==3) (fun _=>false)).P.underlying 29=some (.slice 33):=A0a
   simp[execOp,resolve,invoke,builtin,Builtin.len_,e23,aC hu,goInt]
 intro a2 h1 ha2;refine iy hE 2 1 [(3,.ptr 3 0),(24,.i N),(25,.i (0:Nat))] [(3,[.x (.s g N cap)])] [] A0c A0a A0a h1 (by simp +decide only[go_sem,St.put,adt]<;>(repeat' first|rfl|constructor)) ?_;intro a1 w1 h1;refine wpIn_block ?_;refine cI (X:={i:Nat//i<=N}) (fun i a' w'=>OneG (aY [(58,cw)] (fun _=>false) [] (fun i=>i==3) (fun _=>false)) 40 ⟨[],Kno.top,fun _=>true,#[],fun _=>False,m,w⟩ (aq [(3,.ptr 3 0),(24,.i N),(25,.i i.1)] [(3,[.x (.s g N cap)])]) a' w' g (.cells vals ty8.ty ty8.fz) (some 0)) (fun i=>N-i.1) ⟨0,adN _⟩ h1 ?_;rintro⟨i,hi0⟩ a1 w1 h1;simp only at hi0 h1⊢;by_cases hi:i<N
 . have c1:decide ((i:Int)<N)=true:=ac0 A0b;have c4:=ax (i:=i) A0b;refine wpIn_seq (jE hE hm [(3,.ptr 3 0),(24,.i N),(25,.i i),(26,.bool true)] (FN g N cap) A0a A0a h1 A0z ?_);intro a1 w1 h1;refine wpIn_seq (jE hE hm [(3,.ptr 3 0),(24,.i N),(25,.i i)] (FN g N cap) A0a A0a h1 A0d ?_);intro a1 w1 h1;refine wpIn_seq (wpIn_block (wpIn_seq (jE hE hm [(3,.ptr 3 0),(24,.i N),(25,.i i),(5,.i i)] (FN g N cap) A0a A0a h1 A0d ?_)));intro a1 w1 h1;have hiC:i<C.length:=A0b
   obtain⟨s,hs⟩:∃s,s=C[i].1:=⟨_,rfl⟩;have hs8:s.size<=281474976710656:=by rw[hs];exact hmC _ (adR hiC)
   have hcell:vals[i*3]?=some (.string s):=by rw[<-adF,hvs,adu (by rw[Ht];omega),oY,show i*3/3=i by omega,io hiC,show i*3%3=0 by omega,hs];rfl
   have hFC:cw [.x (.string s)]=some (.x (.string s)):=by show(if s.size<=281474976710656 then some (V.x (.string s)) else none)=_;rw[adl hs8]
   obtain⟨fs,fd,f1,f2,f3,f4⟩:=To;have h3o:g*0=0:=Nat.mul_zero g;refine KQ (ps:=[(0,0,1),(0,1,2),(0,2,4),(0,3,8),(1,1,3),(1,2,5),(1,3,9),(2,0,3),(2,2,6),(2,3,10),(4,0,5),(4,1,6),(4,3,12),(8,0,9),(8,1,10),(8,2,12),(3,2,7),(3,3,11),(5,1,7),(5,3,13),(9,1,11),(9,2,13),(6,0,7),(6,3,14),(10,0,11),(10,2,14),(12,0,13),(12,1,14),(12,4,28),(7,3,15),(11,2,15),(13,1,15),(13,4,29),(14,0,15),(14,4,30),(28,0,29),(28,1,30),(28,5,60),(15,4,31),(29,1,31),(29,5,61),(30,0,31),(30,5,62),(60,0,61),(60,1,62),(60,6,124),(31,5,63),(61,1,63),(61,6,125),(62,0,63),(62,6,126),(124,0,125),(124,1,126),(124,7,252),(63,6,127),(125,1,127),(125,7,253),(126,0,127),(126,7,254),(252,0,253),(252,1,254),(127,7,255),(253,1,255),(254,0,255),(255,8,511),(511,9,1023),(1023,10,2047)]) hE hm A0a (ac5 (.s g N cap) g i s) YB A0a ?_ ?_ h1
   . intro j o L a w2 K hj hJ hneed hK;have hgw:w2.heap[g]?=some (.cells vals ty8.ty ty8.fz):=by obtain⟨m5,O5,_,_,_,_,_,_,_,hh9,_⟩:=hJ;exact hh9
     have t5:a.eval (.tmp 5)= .int .i64 (i:Int):=hJ.read_x 5 ((kr A0a).trans A0g);have t3:∃Bk,a.eval (.tmp 3)= .p Bk∧w2.cell? ⟨Bk,0,none⟩=some (.s g N cap):=by obtain⟨m5,O5,hn5,_⟩:=hJ;obtain⟨b,vals,ty,fr,e,e2,e3,e4⟩:=hn5.box_at (i:=3) (s:=3) (v:=(.s g N cap)) ((kr A0a).trans A0g) (by simp only[xW,go_sem,Nat.reduceEqDiff,adw,adB,vq,aq]);exact⟨b,e,(Box.cell e2 _).trans e3⟩
     obtain⟨Bk,t3,t3c⟩:=t3;rcases j with _|_|_|_|_|_|_|_|_|_|_|j
     . exact Wa
     . exact WZ
     . exact Wa
     . exact WZ
     . cases hj;exact ew rfl (fun c e=>by cases e) rfl A0c rfl rfl hJ (l7 (sz:=3) (el:=33) rfl A0a A0a (hneed 30 A0c) (hneed 31 A0c) (aeP i) A0b) (fun h=>hK _ _ h)
     . cases hj;exact ew rfl (fun c e=>by cases e) rfl A0c rfl rfl hJ (ce rfl f1 f2 f4 A0c (hneed 32 A0c) (by rw[f3,aeq])) (fun h=>hK _ _ h)
     . cases hj;exact ew rfl (fun c e=>by cases e) rfl A0c rfl rfl hJ (cG rfl A0a (hneed 33 A0c) ((Box.cell hgw _).trans hcell)) (fun h=>hK _ _ h)
     . cases hj;refine BO hE rfl rfl rfl A0c rfl rfl (fun _=>rfl) nG hFC rfl hJ (fun _=>?_) (fun v w' h=>hK _ _ (by rw[dB] at h;exact h));have e34:a.eval (.tmp 34)= .string s:=hneed 34 A0c;rw[show Array.map a.eval #[.tmp 34]= #[a.eval (.tmp 34)] from by simp,e34];exact⟨.x _,trivial⟩
     . cases hj;exact ew rfl (fun c e=>by cases e) rfl A0c rfl rfl hJ (l7 (sz:=3) (el:=33) rfl A0a A0a (hneed 28 A0c) (hneed 29 A0c) (aeP i) A0b) (fun h=>hK _ _ h)
     . cases hj;exact ew rfl (fun c e=>by cases e) rfl A0c rfl rfl hJ (ce rfl f1 f2 f4 A0c (hneed 36 A0c) (by rw[f3,aeq])) (fun h=>hK _ _ h)
     . cases hj;exact BP rfl (fun c e=>by cases e) rfl rfl (BN rfl A0a (hneed 37 A0c) (hneed 35 A0c) rfl rfl hgw ty8.ok hcell) (hK _ _ hJ)
     . simp at hj
   . intro a2 w2 h2;have h3:=h2.le (st':=aq [(3,.ptr 3 0),(24,.i N),(25,.i i)] (FN g N cap)) (aK ⟨(kr A0a).trans A0g,(kr A0a).trans A0g,(kr A0a).trans A0g,trivial⟩ (by simp +decide only[xW,go_sem]<;>(repeat' first|rfl|constructor)));refine jE hE hm [(3,.ptr 3 0),(24,.i N),(25,.i (i+1:Nat))] (FN g N cap) A0a A0a h3 A0s ?_;intro a3 w3 h4;exact⟨⟨i+1,hi⟩,h4,by simp only;omega⟩
 . have c1:decide ((i:Int)<N)=false:=Io A0b;refine wpIn_seq (jE hE hm [(3,.ptr 3 0),(26,.bool false)] (FN g N cap) A0a A0a h1 A0z ?_);intro a1 w1 h1;refine wpIn_seq (Ea hE hm 2 [(3,.ptr 3 0)] (FN g N cap) A0a A0a h1 A0d ?_);intro a1 w1 h1;have hgw:w1.heap[g]?=some (.cells vals ty8.ty ty8.fz):=by obtain⟨m5,O5,_,_,_,_,_,_,_,hh9,_⟩:=h1;exact hh9
   have hCs:C.toArray.size=N:=by simpa using hC
   have h2:=OneG.done (v:=(.s g N cap)) (u:= .l 3 (C.map aa)) hE h1 ⟨_,_,_,rfl⟩ hgs hKg (Bel.refl _ _) (fun m hm=>by have hb:BoxAt (fun _=>some 0) w1 g (aH C.toArray):=⟨rfl,vals,ty8,C.flatMap cQ,rest,hgw,hvs,by rw[dw];exact l6 _⟩;have:=KH hb (by rw[hCs];exact hcap) m hm;rw[hCs] at this;exact this)
   refine wpIn_seq (fk hE hm [(2,.x (.s g N cap))] [] A0a A0a h2 A0d ?_);intro a2 w2 h2;have e2:a2.tmps.getD 2 undef=(.s g N cap):=by obtain⟨m5,O5,hn5,_⟩:=h2;exact hn5.read_x 2 A0g
   have h3:=One.know (n:=40) (d:=2) A0c h2 e2 (dV _ _ _ _);exact wpIn_ret ⟨.inr rfl,_,_,_,_,_,h3,A1r⟩
theorem ze:cg 43 (FE oI TP):=Hs LZ
def ba:Env:=gK [(43,FE oI TP),(44,FE mY G4),(45,FE dS fa)] [] [(42,Cu)] (fun _=>false) (fun _=>false) (fun d=>d==3) (fun _=>false)
theorem fc:EnvOK ba:=DD _ _ _ _ _ _ _ ⟨ze,uS,BM,trivial⟩ trivial ⟨Cv,trivial⟩
theorem me:ba.P.follows .mixedOrders=true:=A0a
def MapX(ents:Array MapEntry)(clock:Nat)(ks vs:U):Prop:=(∀m w,MapRd m w ents.toList ks vs)∧(∀e∈ents.toList,e.born<clock)∧(ents.toList.map (·.born)).Nodup
theorem ti:∀{es:List MapEntry} {ks vs:U} {m m':Lim} {w w':World},(∀v∈vs,∃x,v= .x x)->MapRd m w es ks vs->MapRd m' w' es ks vs
 |[],[],[],_,_,_,_,_,_=>trivial
 |e::es,k::ks,v::vs,_,_,_,_,hv,h=>by obtain⟨x,rfl⟩:=hv v (adP ..);refine⟨h.1,⟨h.2.1.1,?_⟩,ti (fun u hu=>hv u (adE _ hu)) h.2.2⟩;rw[Rd.x_iff.1 h.2.1.2];exact .x _
theorem YC(L:List CI):∀v∈vsI L,∃x,v= .x x:=fun v hv=>by obtain⟨p,_,rfl⟩:=ads.1 hv;exact⟨_,rfl⟩
theorem Et:∀(C:List C3) (k:Nat) (c:C3),plI k (C++[c])=plI k C++[(c,((k+C.length:Nat):Int))]
 |[],k,c=>by simp[plI]
 |d::C,k,c=>by have:=Et C (k+1) c;rw[show k+1+C.length=k+(C.length+1) by omega] at this;simp only[aee,plI,this,adm]
variable{C:List C3}{c:C3}
theorem L3{i:Nat}(hn:C.Nodup)(hi:C[i]?=some c):ns prog 75 (ksI (plI 0 (C.take i))) (vsI (plI 0 (C.take i))) (aa c) (.i i)=some (ksI (plI 0 (C.take (i+1))),vsI (plI 0 (C.take (i+1)))):=by
 have hil:=(iO.1 hi).1;have hnt:(C.take i).Nodup:=List.Nodup.sublist (List.take_sublist i C) hn;rw[Ym (uV hnt 0),aF hi,Et];have hno:cZ (plI 0 (C.take i)) c=false:=by
  rw[o7];cases h:je c (C.take i) with
  |false=>rfl
  | true=>
    obtain⟨j,hj⟩:=uW h;have hjl:=(iO.1 hj).1;rw[ad6] at hj;split at hj
    . rename_i hji;have h1:=(iO.1 hj).2;have h2:=(iO.1 hi).2;have:=(List.getElem_inj hn).1 (h1.trans h2.symm);omega
    . cases hj
 have e:gV (plI 0 (C.take i)) c (i:Int)=plI 0 (C.take i)++[(c,(i:Int))]:=by unfold gV;rw[adq (by rw[hno];exact fun h=>by cases h)]
 rw[e,adz,aeZ A0b,adi]
abbrev obD(v15:Value)(gP:Nat)(r s:Value):Obj:= .cells #[v15,.map (some gP),r,s] 90 (0,0)
def HP(v15:Value)(C:List C3)(gP bD i:Nat)(H:Nat->Option Obj):Prop:=H bD=some (obD v15 gP (.slice none 0 0) (.slice none 0 0))∧(∃ents clock,H gP=some (.map ents clock)∧MapX ents clock (ksI (plI 0 (C.take i))) (vsI (plI 0 (C.take i))))∧gP≠bD
theorem ku(f:Nat)(hf:f<4):∃fs fd,prog.underlying 90=some (.struct fs)∧fs[f]?=some fd∧fd.offset=f∧bo prog fd.type=some 1:=by
 rcases f with _|_|_|_|f
 . exact Wb
 . exact Wb
 . exact Wb
 . exact Wb
 . omega
def Hu(c:C3)(i gP bD:Nat)(k:Nat):V:=
 if k=31 then .x (.pointer (some ⟨bD,1,none⟩)) else if k=32 then .x (.map (some gP)) else if k=33 then aa c else if k=34 then .i i else .x (.p bD)
def Q2:Nat->List Nat
 |1=>[29]
 |2=>[30]
 |3=>[31]
 |6=>[32,33,34]
 |_=>[]
variable{E:Env}{o:Oper}
theorem uY{ops:Array Oper}{st1:St}(h:bH E ops [o] st fun st'=>st'=st1):iR E ops o st=some st1:=by
 obtain⟨st',hs,rfl⟩:=da _ _ h;unfold eV at hs;split at hs
 . rename_i s1 h1;unfold eV at hs;rw[h1];exact hs
 . cases hs
def Q3:Code->Code
 | .seq a _=>a
 |c=>c
def nf:Code->Code
 | .seq _ b=>b
 |c=>c
def zf:Code->Code
 | .block _ c=>c
 |c=>c
def P0:Code->Code
 | .loop c=>c
 |c=>c
def L4:Code:=(f30.body).getD .skip
def Tp:Code->List Oper
 | .region _ ops _=>ops.toList
 |_=>[]
def YD:Code:=nf (zf (Q3 (nf (nf (P0 (zf (nf (Q3 (nf (nf (nf L4)))))))))))
def YE:List Oper:=Tp YD
variable{gP bD sz:Nat}{m:Lim}{w:World}{H:Nat->Option Obj}{nl:Bool}{l:List En}{Q:Exit->Act->World->Prop}
theorem zg{v15:Value}{i:Nat}{w1:World}{a1:Act}{ks vs:U}(hn:C.Nodup)(hi:C[i]?=some c)
 (h1:HoldH ba 118 ⟨Kno.rd v15 (.l 3 (C.map aa)),fun _=>true,#[],m,w⟩ H (aq [(0,.sl nl sz (l.map cj) none),(3,.fm ks vs),(4,.x (.p bD)),(22,.l 3 (C.map aa)),(23,.i C.length),(24,.i i),(5,.i i),(6,.ptr 6 0)] [(6,[.x (.string c.1),.i c.2.1,.i c.2.2])]) a1 w1) (hH:HP v15 C gP bD i H)
 (hQ:∀a' w' H',HP v15 C gP bD (i+1) H'->HoldH ba 118 ⟨Kno.rd v15 (.l 3 (C.map aa)),fun _=>true,#[],m,w⟩ H' (aq [(0,.sl nl sz (l.map cj) none),(3,.fm ks vs),(4,.x (.p bD)),(22,.l 3 (C.map aa)),(23,.i C.length),(24,.i i)] []) a' w'->Q .normal a' w'):
 YD.wpIn (bg none) 0 ba.P Q a1 w1:=by
 obtain⟨fs,fd,f1,f2,f3,f4⟩:=ku 1 A0c;refine BQ fc me A0a Q2 A0a (fun L H' val=>val=Hu c i gP bD∧if L.testBit 6=true then HP v15 C gP bD (i+1) H' else H'=H) ?_ (Hu c i gP bD) ⟨rfl,rfl⟩ ?_ h1
 . intro L j o H2 val a w2 K hj hb _ hcl hIv hJ hneed hK;obtain⟨rfl,hIL⟩:=hIv;have hjl:j<7:=(iO.1 hj).1;have hL:L.testBit 6=false:=uF hcl rfl A0a A0b hb;rw[adq (by rw[hL];exact fun h=>by cases h)] at hIL;subst hIL;have t4:a.eval (.tmp 4)= .p bD:=hJ.read_x 4 ((au A0a).trans A0g);have t5:a.eval (.tmp 5)= .int .i64 (i:Int):=hJ.read_x 5 ((au A0a).trans A0g);have hx:∀k∈Q2 j,∀v,Hu c i gP bD k= .x v->a.eval (.tmp k)=v:=fun k hk v hv=>hJ.read_x k ((hneed k hk).trans hv)
   have hL':j≠6-> ¬(L|||2^j).testBit 6=true:=fun h=>by rw[av L h,hL];exact fun h=>by cases h
   have hbD:w2.heap[bD]?=some (obD v15 gP (.slice none 0 0) (.slice none 0 0)):=hJ.at hH.1;rcases j with _|_|_|_|_|_|_|j
   . cases hj;exact aX rfl (fun c e=>by cases e) rfl rfl (bE rfl t4) (hK _ _ _ _ (fun _ _=>rfl) ⟨rfl,by rw[adq (hL' A0c)]⟩ (hJ.putX A0c rfl _))
   . cases hj;exact aX rfl (fun c e=>by cases e) rfl rfl (dK rfl (hx 29 A0c _ rfl)) (hK _ _ _ _ (fun _ _=>rfl) ⟨rfl,by rw[adq (hL' A0c)]⟩ (hJ.putX A0c rfl _))
   . cases hj;exact aX rfl (fun c e=>by cases e) rfl rfl (ce rfl f1 f2 f4 A0c (hx 30 A0c _ rfl) (by rw[f3])) (hK _ _ _ _ (fun _ _=>rfl) ⟨rfl,by rw[adq (hL' A0c)]⟩ (hJ.putX A0c rfl _))
   . cases hj;exact aX rfl (fun c e=>by cases e) rfl rfl (cG rfl A0a (hx 31 A0c _ rfl) (Box.cell hbD _)) (hK _ _ _ _ (fun _ _=>rfl) ⟨rfl,by rw[adq (hL' A0c)]⟩ (hJ.putX A0c rfl _))
   . cases hj;have h6:=(au (st:=aq [(0,.sl nl sz (l.map cj) none),(3,.fm ks vs),(4,.x (.p bD)),(22,.l 3 (C.map aa)),(23,.i C.length),(24,.i i),(5,.i i),(6,.ptr 6 0)] [(6,[.x (.string c.1),.i c.2.1,.i c.2.2])]) (val:=Hu c i gP bD) (ops:=YE) (L:=L) (k:=6) A0a).trans (show _=V.ptr 6 0 by simp only[go_sem,Nat.reduceEqDiff,adw,adB,bX,aq]);have h6b:(gC (aq [(0,.sl nl sz (l.map cj) none),(3,.fm ks vs),(4,.x (.p bD)),(22,.l 3 (C.map aa)),(23,.i C.length),(24,.i i),(5,.i i),(6,.ptr 6 0)] [(6,[.x (.string c.1),.i c.2.1,.i c.2.2])]) (Hu c i gP bD) YE L).b 6=some [.x (.string c.1),.i c.2.1,.i c.2.2]:=by simp only[gC,go_sem,Nat.reduceEqDiff,adw,adB,vq,aq]
     refine Eb fc rfl A0a A0a hJ (st1:=(gC _ (Hu c i gP bD) _ L).put (some 33) (aa c)) ?_ (fun a' w' h'=>hK _ _ _ _ (fun _ _=>rfl) ⟨rfl,by rw[adq (hL' A0c)]⟩ h');generalize hS:gC _ _ _ _=ST;have h7:ST.t 6= .ptr 6 0:=by rw[<-hS];exact h6
     have h7b:ST.b 6=some [.x (.string c.1),.i c.2.1,.i c.2.2]:=by rw[<-hS];exact h6b
     refine uY ?_;simp +decide only[go_sem,ba,Nat.reduceBEq,h7,h7b,aa]
   . cases hj;exact aX rfl (fun c e=>by cases e) rfl rfl (bE rfl t5) (hK _ _ _ _ (fun _ _=>rfl) ⟨rfl,by rw[adq (hL' A0c)]⟩ (hJ.putX A0c rfl _))
   . cases hj;obtain⟨hD,⟨ents,clock,hP,hMX,hMb,hMn⟩,hne⟩:=hH;have e32:a.eval (.tmp 32)= .map (some gP):=hx 32 A0c _ rfl;have e34:a.eval (.tmp 34)= .int .i64 (i:Int):=hx 34 A0c _ rfl;obtain⟨m33,r33⟩:=hJ.read 33 (u:=aa c) (hneed 33 A0c) rfl;have e33:a.eval (.tmp 33)= .agg #[.string c.1,.int .i64 c.2.1,.int .i64 c.2.2]:=r33.val_is rfl;obtain⟨ents',clock',hrun,hMA,_⟩:=ph (P:=prog) (t:=75) (x:=a.eval (.tmp 33)) (y:=a.eval (.tmp 34)) (m:=fun _=>some 0) ⟨ents,clock,hJ.at hP,hMX _ _,hMb,hMn,rfl⟩ (k:=aa c) (v:= .i i) (by rw[e33];exact Rd.agg_iff.2 ⟨_,rfl,.x _,.x _,.x _,trivial⟩) (by rw[e34];exact .x _) (L3 hn hi);refine kh rfl (fun c e=>by cases e) rfl rfl (w':={w2 with heap:=w2.heap.setIfInBounds gP (.map ents' clock')}) ?_ ?_
     . simp only[execOp,e32,Gc];have hrun':=hrun;rw[show ba.P=prog from rfl,hrun'];rfl
     . obtain⟨ents2,clock2,hh2,hrd2,hb2,hn2,_⟩:=hMA;have hPl:=ag (hJ.at hP);have hset:({w2 with heap:=w2.heap.setIfInBounds gP (.map ents' clock')}:World).heap[gP]?=some (.map ents' clock'):=by show(w2.heap.setIfInBounds gP _)[gP]?=_;rw[Array.getElem?_setIfInBounds_self_of_lt hPl]
       rw[hset] at hh2;cases hh2;refine hK _ _ (upd H2 gP (some (.map ents' clock'))) _ (fun _ _=>rfl) ⟨rfl,?_⟩ (hJ.wrote fc rfl rfl rfl A0k (fun k _ hk=>?_) (fun g ob hg=>?_))
       . rw[adl (cy L 6)];exact⟨by rw[ah _ _ (aeM hne)];exact hD,⟨ents',clock',aj _ _ _,⟨fun _ _=>ti (YC _) hrd2,hb2,hn2⟩⟩,hne⟩
       . show(w2.heap.setIfInBounds gP _)[k]?=_;rw[afO (fun e=>by rw[<-e,hP] at hk;cases hk)]
       . by_cases e:g=gP
         . subst e;rw[aj] at hg;cases hg;exact⟨hset,.inl (by rw[hP];exact fun h=>by cases h)⟩
         . rw[ah _ _ e] at hg;refine⟨?_,.inl A0M ⟩;show(w2.heap.setIfInBounds gP _)[g]?=_;rw[afO (aeM e)];exact hJ.at hg
   . simp at hj
 . rintro a w2 H2 val ⟨_,hI⟩ hJ;rw[adl A0a] at hI;refine hQ a w2 H2 hI (hJ.le (aK ⟨(au A0a).trans A0g,(au A0a).trans A0g,(au A0a).trans A0g,(au A0a).trans A0g,(au A0a).trans A0g,(au A0a).trans A0g,trivial⟩ trivial))
def CH:Code:=nf (nf (nf (nf L4)))
variable{ob:Obj}{w':World}{n:Nat}{a:Act}
theorem jH{x:Nat}{B:Hb}(hE:EnvOK E)(h:HoldH E n B H st a w)(hos:w'.os=w.os)(htp:w'.tape=w.tape)(hou:w'.output=w.output)(hsz:w.heap.size<=w'.heap.size)(hx:H x≠none∨w.heap.size<=x)(hb:∀k,k<w.heap.size->k≠x->w'.heap[k]?=w.heap[k]?)(hn:w'.heap[x]?=some ob):HoldH E n B (upd H x (some ob)) st a w':=by
 refine h.wrote hE hos htp hou hsz (fun k hk hH=>hb k hk (fun e=>?_)) (fun g o hg=>?_)
 . rcases hx with hx|hx
   . exact hx (e▸hH)
   . omega
 . by_cases e:g=x
   . subst e;rw[aj] at hg;cases hg;exact⟨hn,hx⟩
   . rw[ah _ _ e] at hg;exact⟨(hb g (ag (h.at hg)) e).trans (h.at hg),.inl A0M ⟩
theorem ng{B:Hb}(hE:EnvOK E)(h:HoldH E n B H st a w):HoldH E n B (upd H w.heap.size (some ob)) st a (w.alloc ob):=
 jH hE h rfl rfl rfl (agG (ag (World.heap_new w ob))) (.inr (adp _)) (fun k hk _=>Below.heap_alloc w ob k hk) (World.heap_new w ob)
variable{v:Value}{es:U}{tok:Option Nat}
theorem zh(h:Rd m w v (.sl false sz es tok)):∃ao ln cp,v= .slice ao ln cp:=by cases h<;>exact⟨_,_,_,rfl⟩
theorem L5(h:Rd m w v (.sl true sz es tok)):v= .slice none 0 0:=by cases h;rfl
theorem YF{a:Act}(hok:Ly (nl,sz,l))(_hsz:∀e∈l,e.1.1.size<=281474976710656)(hC:C=cz (am l))(h400:C.length<=400)(hn:C.Nodup)(hso:LY (am l))
 (h1:Hold ba 118 1 ⟨Kno.top,fun _=>true,#[],m,w⟩ [] (start [.sl nl sz (l.map cj) none]) a w)
 (hrest:∀v15 gP bD H a' w',HP v15 C gP bD C.length H->HoldH ba 118 ⟨Kno.rd v15 (.l 3 (C.map aa)),fun _=>true,#[],m,w⟩ H (aq [(0,.sl nl sz (l.map cj) none),(3,.fm (ksI (am l)) (vsI (am l))),(4,.x (.p bD))] []) a' w'->CH.wpIn (bg none) 0 ba.P Q a' w'):L4.wpIn (bg none) 0 ba.P Q a w:=by
 have hE:=fc;have hm:=me;have h0:=HoldH.of h1;refine wpIn_seq (g9 hE hm [(0,.sl nl sz (l.map cj) none)] [] A0a A0a h0 A0l ?_);intro a w1 h1;have e1:Cu [.sl nl sz (l.map cj) none]=some (ksI (am l),vsI (am l)):=PK (p:=(nl,sz,l)) hok;refine wpIn_seq (g9 hE hm [(0,.sl nl sz (l.map cj) none),(3,.fm (ksI (am l)) (vsI (am l)))] [] A0a A0a h1 (by simp +decide only[go_sem,ba,Nat.reduceBEq,e1]<;>(repeat' first|rfl|constructor)) ?_);intro a w1 h1;have e2:FE oI TP [.fm (ksI (am l)) (vsI (am l))]=some (.l 3 (C.map aa)):=by rw[hC];exact(ca Hp TP (am l)).trans (adl hso)
 refine wpIn_seq (wpIn_region ?_);refine uE hE 0 2 [(0,.sl nl sz (l.map cj) none),(3,.fm (ksI (am l)) (vsI (am l))),(15,.l 3 (C.map aa))] [] [2,3,4,5] A0c A0a A0a h1 (by simp +decide only[go_sem,ba,Nat.reduceBEq,e2]<;>(repeat' first|rfl|constructor)) ?_;intro a w1 h1;obtain⟨v15,hv15⟩:∃v,v=a.tmps.getD 15 undef:=⟨_,rfl⟩;have h2:HoldH ba 118 ⟨Kno.rd v15 (.l 3 (C.map aa)),fun _=>true,#[],m,w⟩ (fun _=>none) (aq [(0,.sl nl sz (l.map cj) none),(3,.fm (ksI (am l)) (vsI (am l))),(15,.l 3 (C.map aa))] []) a w1:=h1.learn (Kn':=Kno.rd v15 (.l 3 (C.map aa))) (fun m O hn _=>by rw[hv15];exact eM hn 15 A0g rfl)
 have h3:=h2.know (d:=15) (u:= .x v15) A0c (fun _ _=>by rw[<-hv15];exact .x _);rw[dB] at h3;obtain⟨ao,ln,cp,hsh⟩:∃ao ln cp,v15= .slice ao ln cp:=by obtain⟨m5,r5⟩:=h2.read 15 (u:= .l 3 (C.map aa)) A0g rfl;rw[<-hv15] at r5;exact zh r5
 subst hsh
 --the map
 rw[wpOpsIn_cons];refine aX rfl (fun c e=>by cases e) rfl rfl (KU rfl) ?_;have h4:=(ng hE h3 (ob:= .map #[] 0)).putX (d:=16) A0c rfl (.map (some w1.heap.size));have hl1:=ag (World.heap_new w1 (.map #[] 0));generalize hgP:w1.heap.size=gP at h4 hl1;generalize w1.alloc _=w2 at h4 hl1;refine uE hE 3 1 [(0,.sl nl sz (l.map cj) none),(3,.fm (ksI (am l)) (vsI (am l))),(17,.agg [.x (.slice ao ln cp),.x (.map (some gP)),.sl true 0 [] none,.sl true 0 [] none])] [] [4,5] A0c A0a A0a h4 A0p ?_;intro a w3 h4;have hl3:gP<w3.heap.size:=ag (h4.at (aj _ _ _));obtain⟨m17,r17⟩:=h4.read 17 (u:= .agg [.x (.slice ao ln cp),.x (.map (some gP)),.sl true 0 [] none,.sl true 0 [] none]) A0g rfl;have e17:a.eval (.tmp 17)= .agg #[(.slice ao ln cp),.map (some gP),.slice none 0 0,.slice none 0 0]:=by
  obtain⟨cs,hcs,hr⟩:=Rd.agg_iff.1 r17;show a.tmps.getD 17 undef=_;rw[hcs];congr 1;obtain⟨L⟩:=cs
  match L,hr with
  |[c1,c2,c3,c4],⟨q1,q2,q3,q4,_⟩=>rw[Rd.x_iff.1 q1,Rd.x_iff.1 q2,L5 q3,L5 q4]
 rw[wpOpsIn_cons];refine aX rfl (fun c e=>by cases e) rfl rfl (xX rfl) ?_;rw[e17];have h5:=(ng hE h4 (ob:=obD (.slice ao ln cp) gP (.slice none 0 0) (.slice none 0 0))).putX (d:=18) A0c rfl (.pointer (some ⟨w3.heap.size,0,none⟩));change HoldH _ _ _ _ _ _ (w3.alloc (.cells (Value.agg #[(.slice ao ln cp),.map (some gP),.slice none 0 0,.slice none 0 0]).cells 90)) at h5;have hHP:HP (.slice ao ln cp) C gP w3.heap.size 0 (upd (upd (fun _=>none) gP (some (.map #[] 0))) w3.heap.size (some (obD (.slice ao ln cp) gP (.slice none 0 0) (.slice none 0 0)))):=by refine⟨aj _ _ _,⟨#[],0,?_,fun _ _=>trivial,fun e he=>(by cases he),ad3⟩,A0b⟩;rw[ah _ _ A0b,aj]
 generalize hH3:upd (upd (fun _=>none) gP (some (.map #[] 0))) w3.heap.size (some (obD (.slice ao ln cp) gP (.slice none 0 0) (.slice none 0 0)))=H3 at h5 hHP;generalize w3.heap.size=bD at h5 hHP;generalize w3.alloc _=w4 at h5;refine uE hE 5 1 [(0,.sl nl sz (l.map cj) none),(3,.fm (ksI (am l)) (vsI (am l))),(4,.x (.p bD))] [] [] A0c A0a A0a h5 A0p ?_;intro a w5 h5
 --the places
 refine wpIn_seq (wpIn_seq (wpIn_region ?_));obtain⟨fs,fd,f1,f2,f3,f4⟩:=ku 0 A0c;have t4:a.eval (.tmp 4)= .p bD:=h5.read_x 4 A0g;have hbD:=h5.at hHP.1;refine c8 (i:=0) (rest:=[1,2,3,4,5]) (d:=19) rfl (fun c e=>by cases e) rfl A0c rfl rfl h5 (bE rfl t4) ?_;intro a1 h6;refine c8 (i:=1) (rest:=[2,3,4,5]) (d:=20) rfl (fun c e=>by cases e) rfl A0c rfl rfl h6 (dK (p:=⟨bD,0,none⟩) rfl (h6.read_x 19 (v:= .p bD) A0i)) ?_;intro a2 h7;refine c8 (i:=2) (rest:=[3,4,5]) (d:=21) rfl (fun c e=>by cases e) rfl A0c rfl rfl h7 (ce rfl f1 f2 f4 A0c (h7.read_x 20 (v:= .p bD) A0i) (by rw[f3])) ?_;intro a3 h8;refine c8 (i:=3) (rest:=[4,5]) (d:=22) rfl (fun c e=>by cases e) rfl A0c rfl rfl h8 (cG (v:= .slice ao ln cp) rfl A0a (h8.read_x 21 (v:= .p bD) A0i) ((Box.cell hbD _).trans rfl)) ?_;intro a4 h9;have h10:=h9.know (d:=22) (u:= .l 3 (C.map aa)) A0c (fun m hk=>by rw[show a4.tmps.getD 22 undef=(.slice ao ln cp) from h9.read_x 22 (v:=(.slice ao ln cp)) A0i];exact hk)
 rw[dV] at h10;refine uE hE 4 2 [(0,.sl nl sz (l.map cj) none),(3,.fm (ksI (am l)) (vsI (am l))),(4,.x (.p bD)),(22,.l 3 (C.map aa)),(23,.i C.length),(24,.i (0:Nat))] [] [] A0c A0a A0a h10 A0E ?_;intro a w6 h6;refine wpIn_block ?_;refine cI (X:={i:Nat//i<=C.length}) (fun i a' w'=>∃H,HP (.slice ao ln cp) C gP bD i.1 H∧HoldH ba 118 ⟨Kno.rd (.slice ao ln cp) (.l 3 (C.map aa)),fun _=>true,#[],m,w⟩ H (aq [(0,.sl nl sz (l.map cj) none),(3,.fm (ksI (am l)) (vsI (am l))),(4,.x (.p bD)),(22,.l 3 (C.map aa)),(23,.i C.length),(24,.i i.1)] []) a' w') (fun i=>C.length-i.1) ⟨0,adN _⟩ ⟨_,hHP,h6⟩ ?_;rintro⟨i,hi0⟩ a w6 ⟨H,hH,h1⟩;simp only at hi0 hH h1⊢;by_cases hi:i<C.length
 . have c1:decide ((i:Int)<C.length)=true:=ac0 A0b;have c1':(i:Int)<C.length:=A0b
   have c2:(0:Int)<=(i:Int):=A0b
   have c4:=ax (i:=i) A0b;have q1:C[i]?=some C[i]:=io hi;have q2:(C.map aa)[i]?=some (aa C[i]):=by rw[ac9,q1];rfl
   generalize C[i]=c at q1 q2;simp only[aa] at q2;refine wpIn_seq (g9 hE hm [(0,.sl nl sz (l.map cj) none),(3,.fm (ksI (am l)) (vsI (am l))),(4,.x (.p bD)),(22,.l 3 (C.map aa)),(23,.i C.length),(24,.i i),(25,.bool true)] [] A0a A0a h1 A0r ?_);intro a w6 h1;refine wpIn_seq (g9 hE hm [(0,.sl nl sz (l.map cj) none),(3,.fm (ksI (am l)) (vsI (am l))),(4,.x (.p bD)),(22,.l 3 (C.map aa)),(23,.i C.length),(24,.i i)] [] A0a A0a h1 A0l ?_);intro a w6 h1;refine wpIn_seq (wpIn_block (wpIn_seq (g9 hE hm [(0,.sl nl sz (l.map cj) none),(3,.fm (ksI (am l)) (vsI (am l))),(4,.x (.p bD)),(22,.l 3 (C.map aa)),(23,.i C.length),(24,.i i),(5,.i i),(6,.ptr 6 0)] [(6,[.x (.string c.1),.i c.2.1,.i c.2.2])] A0a A0a h1 A0D ?_)));intro a w6 h1;refine zg hn q1 h1 hH ?_;intro a7 w7 H' hH' h7;refine g9 hE hm [(0,.sl nl sz (l.map cj) none),(3,.fm (ksI (am l)) (vsI (am l))),(4,.x (.p bD)),(22,.l 3 (C.map aa)),(23,.i C.length),(24,.i (i+1:Nat))] [] A0a A0a h7 A0G ?_;intro a8 w8 h8;exact⟨⟨i+1,hi⟩,⟨H',hH',h8⟩,by simp only;omega⟩
 . have c1:decide ((i:Int)<C.length)=false:=Io A0b;have e:i=C.length:=A0b
   subst e;refine wpIn_seq (g9 hE hm [(0,.sl nl sz (l.map cj) none),(3,.fm (ksI (am l)) (vsI (am l))),(4,.x (.p bD)),(25,.bool false)] [] A0a A0a h1 A0r ?_);intro a w6 h1;refine wpIn_seq (Pu hE hm 0 [(0,.sl nl sz (l.map cj) none),(3,.fm (ksI (am l)) (vsI (am l))),(4,.x (.p bD))] [] A0a A0a h1 A0l ?_);intro a w6 h1;exact hrest (.slice ao ln cp) gP bD H a w6 hH h1
def uZ:Code:=nf (nf CH)
def Eu:TypeInfo:=(prog.info? 54).get A0a
theorem zi:prog.info? 54=some Eu:=A0a
theorem qT:Eu.size=1:=A0a
theorem qU:Eu.zero=some (.slice none 0 0):=A0a
theorem oJ:Eu.bytes=24:=A0a
theorem zj(N:Nat):madeCells (Value.slice none 0 0).cells (N*1)=(List.replicate N (Value.slice none 0 0)).toArray:=by
 apply aed.1;apply aeB;intro i;show _=(List.replicate N (Value.slice none 0 0))[i]?;by_cases hi:i<N
 . have:=la (Value.slice none 0 0).cells N 1 rfl i 0 hi A0c;rw[show i*1+0=i by omega] at this;rw[this,ad4,adl hi];rfl
 . rw[adM,adM]
   . simp;omega
   . rw[adD,size_madeCells];omega
structure HQ (ao:Option Addr) (ln cp:Nat) (C:List C3) (gP bD gR gS:Nat) (vR vS:List Value) (R S:List (List Int)) (H:Nat->Option Obj):Prop where
 d:H bD=some (obD (.slice ao ln cp) gP (.s gR C.length C.length) (.s gS C.length C.length))
 p:∃ents clock,H gP=some (.map ents clock)∧MapX ents clock (ksI (plI 0 C)) (vsI (plI 0 C))
 r:H gR=some (.cells vR.toArray 54 (0,0))
 s:H gS=some (.cells vS.toArray 54 (0,0))
 ne:[bD,gP,gR,gS].Nodup
 rows:Piles H (vR++vS) (R++S) [bD,gP,gR,gS]
 lR:R.length=C.length
 lS:S.length=C.length
 lvR:vR.length=C.length
 lvS:vS.length=C.length
variable{ao:Option Addr}{ln cp:Nat}
theorem YG{w1:World}{a:Act}(h400:C.length<=400)(hH:HP (.slice ao ln cp) C gP bD C.length H)
 (h1:HoldH ba 118 ⟨Kno.rd (.slice ao ln cp) (.l 3 (C.map aa)),fun _=>true,#[],m,w⟩ H (aq [(0,.sl nl sz (l.map cj) none),(3,.fm (ksI (am l)) (vsI (am l))),(4,.x (.p bD))] []) a w1)
 (hrest:∀gR gS H' a' w',HQ ao ln cp C gP bD gR gS (List.replicate C.length (.slice none 0 0)) (List.replicate C.length (.slice none 0 0)) (List.replicate C.length []) (List.replicate C.length []) H'->HoldH ba 118 ⟨Kno.rd (.slice ao ln cp) (.l 3 (C.map aa)),fun _=>true,#[],m,w⟩ H' (aq [(0,.sl nl sz (l.map cj) none),(3,.fm (ksI (am l)) (vsI (am l))),(4,.x (.p bD))] []) a' w'->uZ.wpIn (bg none) 0 ba.P Q a' w'):CH.wpIn (bg none) 0 ba.P Q a w1:=by
 have hE:=fc;obtain⟨fs0,fd0,f1,f2,f3,f4⟩:=ku 0 A0c;obtain⟨fs2,fd2,g1,g2,g3,g4⟩:=ku 2 A0c;obtain⟨fs3,fd3,k1,k2,k3,k4⟩:=ku 3 A0c;have c0:(0:Int)<=(C.length:Int):=A0b
 have hu47:prog.underlying 50=some (.slice 54):=A0a
 obtain⟨hD,hP,hne⟩:=hH;rw[aei] at hP;refine wpIn_seq (wpIn_region ?_);have t4:a.eval (.tmp 4)=(.p bD):=h1.read_x 4 A0i;have hbD:=h1.at hD;refine c8 (n:=118) (E:=ba) (i:=0) (rest:=[1,2,3,4,5,6,7,8,9]) (d:=36) rfl (fun c e=>by cases e) rfl A0c rfl rfl h1 (bE rfl t4) ?_;intro a1 h1;refine c8 (i:=1) (rest:=[2,3,4,5,6,7,8,9]) (d:=37) rfl (fun c e=>by cases e) rfl A0c rfl rfl h1 (bE rfl (h1.read_x 4 (v:=(.p bD)) A0i)) ?_;intro a2 h1;refine c8 (i:=2) (rest:=[3,4,5,6,7,8,9]) (d:=38) rfl (fun c e=>by cases e) rfl A0c rfl rfl h1 (dK (p:=⟨bD,0,none⟩) rfl (h1.read_x 37 (v:=(.p bD)) A0i)) ?_;intro a3 h1;refine c8 (i:=3) (rest:=[4,5,6,7,8,9]) (d:=39) rfl (fun c e=>by cases e) rfl A0c rfl rfl h1 (ce rfl f1 f2 f4 A0c (h1.read_x 38 (v:=(.p bD)) A0i) (by rw[f3])) ?_;intro a4 h1;refine c8 (i:=4) (rest:=[5,6,7,8,9]) (d:=40) rfl (fun c e=>by cases e) rfl A0c rfl rfl h1 (cG (v:= .slice ao ln cp) rfl A0a (h1.read_x 39 (v:=(.p bD)) A0i) ((Box.cell hbD _).trans rfl)) ?_;intro a5 h1;have h2:=h1.know (d:=40) (u:= .l 3 (C.map aa)) A0c (fun m hk=>by rw[show a5.tmps.getD 40 undef= .slice ao ln cp from h1.read_x 40 A0i];exact hk)
 rw[dV] at h2;refine uE hE 5 1 [(0,.sl nl sz (l.map cj) none),(3,.fm (ksI (am l)) (vsI (am l))),(4,.x (.p bD)),(36,.x (.p bD)),(41,.i C.length)] [] [6,7,8,9] A0c A0a A0a h2 A0V ?_;intro a w2 h1;rw[wpOpsIn_cons];have t41:a.eval (.tmp 41)= .int .i64 (C.length:Int):=h1.read_x 41 A0i;refine aX rfl (fun c e=>by cases e) rfl rfl (nN rfl hu47 zi qU t41 t41 c0 (by rw[oJ];omega) A0b) ?_;rw[qT,tl,zj];have h2:=(ng hE h1 (ob:= .cells (List.replicate C.length (Value.slice none 0 0)).toArray 54 (0,0))).putX (d:=42) A0c rfl (.slice (some ⟨w2.heap.size,0,none⟩) C.length C.length);have hlt:∀k ob,H k=some ob->k≠w2.heap.size:=fun k ob hk e=>by have:=ag (h1.at hk);omega
 generalize w2.heap.size=gR at h2 hlt;generalize w2.alloc _=w3 at h2;generalize a.put (some 42) _=b at h2;refine c8 (i:=7) (rest:=[8,9]) (d:=43) rfl (fun c e=>by cases e) rfl A0c rfl rfl h2 (dK (p:=⟨bD,0,none⟩) rfl (h2.read_x 36 (v:=(.p bD)) A0i)) ?_;intro b1 h3;refine c8 (i:=8) (rest:=[9]) (d:=44) rfl (fun c e=>by cases e) rfl A0c rfl rfl h3 (ce rfl g1 g2 g4 A0c (h3.read_x 43 (v:=(.p bD)) A0i) (by rw[g3,adi])) ?_;intro b2 h4;rw[wpOpsIn_cons];have hbD4:=h4.at (show upd H gR _ bD=some _ from(ah _ _ (hlt bD _ hD)).trans hD);refine kh rfl (fun c e=>by cases e) rfl rfl (mR rfl A0a (h4.read_x 44 (v:= .pointer (some ⟨bD,2,none⟩)) A0i) (h4.read_x 42 (v:= .s gR C.length C.length) A0i) rfl rfl hbD4 (by show 2<4;decide)) ?_;have h5:=jH hE h4 (x:=bD) (ob:=(obD (.slice ao ln cp) gP (.s gR C.length C.length) (.slice none 0 0))) (w':=w3.setRow bD _) rfl rfl rfl A0k (.inl (by rw[ah _ _ (hlt bD _ hD),hD];exact fun h=>by cases h)) (fun k _ hk=>setRow_other w3 bD k _ hk) (setRow_heap w3 bD _ _ _ (0,0) hbD4);replace h5:=h5.le (st':=aq [(0,.sl nl sz (l.map cj) none),(3,.fm (ksI (am l)) (vsI (am l))),(4,.x (.p bD))] []) (aK A0p A0p);change wpOpsIn _ _ _ _ _ _ _ (w3.setRow bD #[.slice ao ln cp,.map (some gP),(.s gR C.length C.length),(.slice none 0 0)]);change HoldH _ _ _ _ _ _ (w3.setRow bD #[.slice ao ln cp,.map (some gP),(.s gR C.length C.length),(.slice none 0 0)]) at h5;generalize w3.setRow bD #[.slice ao ln cp,.map (some gP),(.s gR C.length C.length),(.slice none 0 0)]=w4 at h5⊢;have hRD:gR≠bD:=fun e=>hlt bD _ hD e.symm
 obtain⟨ents,clock,hPm,hMX⟩:=hP;have hRP:gR≠gP:=fun e=>hlt gP _ hPm e.symm
 obtain⟨H2,hH2⟩:∃H2,H2=upd (upd H gR (some (.cells (List.replicate C.length (Value.slice none 0 0)).toArray 54 (0,0)))) bD (some (obD (.slice ao ln cp) gP (.s gR C.length C.length) (.slice none 0 0))):=⟨_,rfl⟩;rw[<-hH2] at h5;have hD2:H2 bD=some (obD (.slice ao ln cp) gP (.s gR C.length C.length) (.slice none 0 0)):=by rw[hH2,aj]
 have hP2:H2 gP=some (.map ents clock):=by rw[hH2,ah _ _ hne,ah _ _ (aeM hRP)];exact hPm
 have hR2:H2 gR=some (.cells (List.replicate C.length (Value.slice none 0 0)).toArray 54 (0,0)):=by rw[hH2,ah _ _ hRD,aj]
 have h1:=h5;refine wpIn_seq (wpIn_region ?_);have t4:b2.eval (.tmp 4)=(.p bD):=h1.read_x 4 A0i;have hbD:=h1.at hD2;refine c8 (n:=118) (E:=ba) (i:=0) (rest:=[1,2,3,4,5,6,7,8,9]) (d:=45) rfl (fun c e=>by cases e) rfl A0c rfl rfl h1 (bE rfl t4) ?_;intro a1 h1;refine c8 (i:=1) (rest:=[2,3,4,5,6,7,8,9]) (d:=46) rfl (fun c e=>by cases e) rfl A0c rfl rfl h1 (bE rfl (h1.read_x 4 (v:=(.p bD)) A0i)) ?_;intro a2 h1;refine c8 (i:=2) (rest:=[3,4,5,6,7,8,9]) (d:=47) rfl (fun c e=>by cases e) rfl A0c rfl rfl h1 (dK (p:=⟨bD,0,none⟩) rfl (h1.read_x 46 (v:=(.p bD)) A0i)) ?_;intro a3 h1;refine c8 (i:=3) (rest:=[4,5,6,7,8,9]) (d:=48) rfl (fun c e=>by cases e) rfl A0c rfl rfl h1 (ce rfl f1 f2 f4 A0c (h1.read_x 47 (v:=(.p bD)) A0i) (by rw[f3])) ?_;intro a4 h1;refine c8 (i:=4) (rest:=[5,6,7,8,9]) (d:=49) rfl (fun c e=>by cases e) rfl A0c rfl rfl h1 (cG (v:= .slice ao ln cp) rfl A0a (h1.read_x 48 (v:=(.p bD)) A0i) ((Box.cell hbD _).trans rfl)) ?_;intro a5 h1;have h2:=h1.know (d:=49) (u:= .l 3 (C.map aa)) A0c (fun m hk=>by rw[show a5.tmps.getD 49 undef= .slice ao ln cp from h1.read_x 49 A0i];exact hk)
 rw[dV] at h2;refine uE hE 5 1 [(0,.sl nl sz (l.map cj) none),(3,.fm (ksI (am l)) (vsI (am l))),(4,.x (.p bD)),(45,.x (.p bD)),(50,.i C.length)] [] [6,7,8,9] A0c A0a A0a h2 A0V ?_;intro a w2 h1;rw[wpOpsIn_cons];have t41:a.eval (.tmp 50)= .int .i64 (C.length:Int):=h1.read_x 50 A0i;refine aX rfl (fun c e=>by cases e) rfl rfl (nN rfl hu47 zi qU t41 t41 c0 (by rw[oJ];omega) A0b) ?_;rw[qT,tl,zj];have h2:=(ng hE h1 (ob:= .cells (List.replicate C.length (Value.slice none 0 0)).toArray 54 (0,0))).putX (d:=51) A0c rfl (.slice (some ⟨w2.heap.size,0,none⟩) C.length C.length);have hlt:∀k ob,H2 k=some ob->k≠w2.heap.size:=fun k ob hk e=>by have:=ag (h1.at hk);omega
 generalize w2.heap.size=gS at h2 hlt;generalize w2.alloc _=w3 at h2;generalize a.put (some 51) _=b at h2;refine c8 (i:=7) (rest:=[8,9]) (d:=52) rfl (fun c e=>by cases e) rfl A0c rfl rfl h2 (dK (p:=⟨bD,0,none⟩) rfl (h2.read_x 45 (v:=(.p bD)) A0i)) ?_;intro b1 h3;refine c8 (i:=8) (rest:=[9]) (d:=53) rfl (fun c e=>by cases e) rfl A0c rfl rfl h3 (ce rfl k1 k2 k4 A0c (h3.read_x 52 (v:=(.p bD)) A0i) (by rw[k3,adi])) ?_;intro b2 h4;rw[wpOpsIn_cons];have hbD4:=h4.at (show upd H2 gS _ bD=some _ from(ah _ _ (hlt bD _ hD2)).trans hD2);refine kh rfl (fun c e=>by cases e) rfl rfl (mR rfl A0a (h4.read_x 53 (v:= .pointer (some ⟨bD,3,none⟩)) A0i) (h4.read_x 51 (v:= .s gS C.length C.length) A0i) rfl rfl hbD4 (by show 3<4;decide)) ?_;have h5:=jH hE h4 (x:=bD) (ob:=(obD (.slice ao ln cp) gP (.s gR C.length C.length) (.s gS C.length C.length))) (w':=w3.setRow bD _) rfl rfl rfl A0k (.inl (by rw[ah _ _ (hlt bD _ hD2),hD2];exact fun h=>by cases h)) (fun k _ hk=>setRow_other w3 bD k _ hk) (setRow_heap w3 bD _ _ _ (0,0) hbD4);replace h5:=h5.le (st':=aq [(0,.sl nl sz (l.map cj) none),(3,.fm (ksI (am l)) (vsI (am l))),(4,.x (.p bD))] []) (aK A0p A0p);change wpOpsIn _ _ _ _ _ _ _ (w3.setRow bD #[.slice ao ln cp,.map (some gP),(.s gR C.length C.length),(.s gS C.length C.length)]);change HoldH _ _ _ _ _ _ (w3.setRow bD #[.slice ao ln cp,.map (some gP),(.s gR C.length C.length),(.s gS C.length C.length)]) at h5;generalize w3.setRow bD #[.slice ao ln cp,.map (some gP),(.s gR C.length C.length),(.s gS C.length C.length)]=w4 at h5⊢;have hSD:gS≠bD:=fun e=>hlt bD _ hD2 e.symm
 have hSP:gS≠gP:=fun e=>hlt gP _ hP2 e.symm
 have hSR:gS≠gR:=fun e=>hlt gR _ hR2 e.symm
 refine hrest gR gS _ _ _ ⟨aj _ _ _,⟨ents,clock,by rw[ah _ _ hne,ah _ _ (aeM hSP)];exact hP2,hMX⟩,by rw[ah _ _ hRD,ah _ _ (aeM hSR)];exact hR2,by rw[ah _ _ hSD,aj],?_,?_,A0k,A0k,A0k,A0k⟩ h5
 . simp only[adY,adA,ae5,ags,not_or,afM,ad3,aeQ];exact⟨⟨aeM hne,aeM hRD,aeM hSD⟩,⟨aeM hRP,aeM hSP⟩,aeM hSR⟩
 . rw[afj,afj];have hv:∀(i:Nat) (v:Value),(List.replicate (C.length+C.length) (Value.slice none 0 0))[i]?=some v->v= .slice none 0 0:=fun i v hi=>by
    rw[ad4] at hi;split at hi
    . cases hi;rfl
    . cases hi
   refine⟨A0k,fun i v es hi he=> .inl ⟨?_,hv i v hi⟩,fun i j v v' g _ hi _ hb=>?_,fun i v g hi hb=>?_⟩
   . rw[ad4] at he;split at he
     . cases he;rfl
     . cases he
   . rw[hv i v hi] at hb;cases hb
   . rw[hv i v hi] at hb;cases hb
def Q4:Code:=P0 (zf (nf (Q3 uZ)))
def CJ:Code:=nf (nf (nf (nf (zf (Q3 (nf (nf Q4)))))))
def P1:TypeInfo:=(prog.info? 3).get A0a
theorem Ev:prog.info? 3=some P1:=A0a
theorem tj:P1.size=1:=A0a
theorem tn:P1.zero=some (.int .i64 0):=A0a
theorem qV:P1.bytes=8:=A0a
def TQ(H:Nat->Option Obj)(vi:Value)(es:List Int)(H':Nat->Option Obj)(v':Value):Prop:=∃g ob,H'=upd H g (some ob)∧blkOf v'=some g∧(blkOf vi=some g∨H g=none)∧RowI H' v' es
section
variable{ao:Option Addr}{ln cp:Nat}{C:List C3}{gP bD gR gS:Nat}{vR vS:List Value}{R S:List (List Int)}{H:Nat->Option Obj}
theorem HQ.on(h:HQ ao ln cp C gP bD gR gS vR vS R S H):∀x∈[bD,gP,gR,gS],H x≠none:=by
 intro x hx;obtain⟨ents,clock,hp,_⟩:=h.p;simp only[adA,ae5,ags] at hx;rcases hx with rfl|rfl|rfl|rfl
 . rw[h.d];exact fun h=>by cases h
 . rw[hp];exact fun h=>by cases h
 . rw[h.r];exact fun h=>by cases h
 . rw[h.s];exact fun h=>by cases h
theorem HQ.far(h:HQ ao ln cp C gP bD gR gS vR vS R S H){j:Nat}{vi:Value}(hi:(vR++vS)[j]?=some vi){g:Nat}(hg:blkOf vi=some g∨H g=none):∀x∈[bD,gP,gR,gS],x≠g:=by
 intro x hx e;subst e;rcases hg with hg|hg
 . exact h.rows.out j vi x hi hg hx
 . exact h.on x hx hg
theorem HQ.setR(h:HQ ao ln cp C gP bD gR gS vR vS R S H){i:Nat}{vi v':Value}{es:List Int}{H':Nat->Option Obj}(hi:vR[i]?=some vi)(hm:TQ H vi es H' v'):HQ ao ln cp C gP bD gR gS (vR.set i v') vS (R.set i es) S (upd H' gR (some (.cells (vR.set i v').toArray 54 (0,0)))):=by
 obtain⟨g,ob,rfl,hb,hg,hr⟩:=hm;have hil:=(iO.1 hi).1;have hi2:(vR++vS)[i]?=some vi:=by rw[adu hil];exact hi
 have hf:=h.far hi2 hg;have hn:=h.ne;simp only[adY,adA,ae5,ags,not_or,afM,ad3,aeQ] at hn;obtain⟨⟨n1,n2,n3⟩,⟨n4,n5⟩,n6⟩:=hn;obtain⟨ents,clock,hp,hx⟩:=h.p;have hR:=h.lR;have hvR:=h.lvR;refine⟨?_,⟨ents,clock,?_,hx⟩,aj _ _ _,?_,h.ne,?_,by rw[adV];exact h.lR,h.lS,by rw[adV];exact h.lvR,h.lvS⟩
 . rw[ah _ _ n2,ah _ _ (hf bD A0k)];exact h.d
 . rw[ah _ _ n4,ah _ _ (hf gP A0k)];exact hp
 . rw[ah _ _ (aeM n6),ah _ _ (hf gS A0k)];exact h.s
 . have:=(h.rows.set hi2 h.on hb hg hr).other (x:=gR) (o:=some (.cells (vR.set i v').toArray 54 (0,0))) A0k;rw[aga _ _ hil,aga _ _ A0b] at this;exact this
theorem HQ.setS(h:HQ ao ln cp C gP bD gR gS vR vS R S H){i:Nat}{vi v':Value}{es:List Int}{H':Nat->Option Obj}(hi:vS[i]?=some vi)(hm:TQ H vi es H' v'):HQ ao ln cp C gP bD gR gS vR (vS.set i v') R (S.set i es) (upd H' gS (some (.cells (vS.set i v').toArray 54 (0,0)))):=by
 obtain⟨g,ob,rfl,hb,hg,hr⟩:=hm;have hil:=(iO.1 hi).1;have hi2:(vR++vS)[vR.length+i]?=some vi:=by rw[adH A0b,aeX];exact hi
 have hf:=h.far hi2 hg;have hn:=h.ne;simp only[adY,adA,ae5,ags,not_or,afM,ad3,aeQ] at hn;obtain⟨⟨n1,n2,n3⟩,⟨n4,n5⟩,n6⟩:=hn;obtain⟨ents,clock,hp,hx⟩:=h.p;have hR:=h.lR;have hvR:=h.lvR;refine⟨?_,⟨ents,clock,?_,hx⟩,?_,aj _ _ _,h.ne,?_,h.lR,by rw[adV];exact h.lS,h.lvR,by rw[adV];exact h.lvS⟩
 . rw[ah _ _ n3,ah _ _ (hf bD A0k)];exact h.d
 . rw[ah _ _ n5,ah _ _ (hf gP A0k)];exact hp
 . rw[ah _ _ n6,ah _ _ (hf gR A0k)];exact h.r
 . have:=(h.rows.set hi2 h.on hb hg hr).other (x:=gS) (o:=some (.cells (vS.set i v').toArray 54 (0,0))) A0k;rw[af4 _ _ A0b,af4 _ _ A0b,aeX,show vR.length+i-R.length=i by omega] at this;exact this
end
theorem L6{val:Nat->V}(h:∀o∈ops,∀k,o.dst=some k->st.t k= .undef):Le st (gC st val ops L):=by
 refine⟨fun k=>?_,fun s cs h=>⟨cs,h,fG cs⟩⟩;show(st.t k).le (if cN ops L k=true then val k else st.t k);by_cases hd:cN ops L k=true
 . unfold cN at hd;obtain⟨i,_,hi⟩:=aeJ.1 hd;rw[ado] at hi;split at hi
   . rename_i o ho;rw[h o (adg ho) k (eq_of_beq hi.2)];exact .inl rfl
   . cases hi.2
 . rw[adq hd];exact .inr (.inl rfl)
def zk:Code:=Q3 (nf (zf (Q3 (nf (nf (P0 (zf CJ)))))))
def zm:List Oper:=Tp zk
def jh(N bD gR i x:Nat)(vi:Value)(k:Nat):V:=
 if k=85∨k=90 then .x (.pointer (some ⟨bD,2,none⟩)) else if k=86∨k=91 then .x (.s gR N N) else if k=87∨k=92 then .i i else if k=93∨k=98 then .x (.pointer (some ⟨gR,i*1,none⟩)) else if k=94 then .x vi else if k=95 then .i x else if k=96 then .sl false 1 [.i x] none else .x (.p bD)
def tp:Nat->List Nat
 |1=>[83]
 |2=>[84]
 |3=>[85]
 |6=>[88]
 |7=>[89]
 |8=>[90]
 |10=>[91,92]
 |11=>[93]
 |13=>[95]
 |14=>[94,96]
 |15=>[86,87]
 |16=>[97,98]
 |_=>[]
variable{gR gS:Nat}{vR vS:List Value}{R S:List (List Int)}{vi:Value}
theorem YH{w1:World}{i x:Nat}{es:List Int}(hH:HQ ao ln cp C gP bD gR gS vR vS R S H)(hi:vR[i]?=some vi)(hes:R[i]?=some es)(hlen:es.length+1<=100000000)
 (s4:st.t 4= .x (.p bD)) (s7:st.t 7= .i i) (s11:st.t 11= .i x) (hst:∀k,83<=k->k<=98->st.t k= .undef) (h1:HoldH ba 118 ⟨Kno.rd (.slice ao ln cp) (.l 3 (C.map aa)),fun _=>true,#[],m,w⟩ H st a w1)
 (hQ:∀a' w' H' vN,HQ ao ln cp C gP bD gR gS vN vS (R.set i (es++[(x:Int)])) S H'->HoldH ba 118 ⟨Kno.rd (.slice ao ln cp) (.l 3 (C.map aa)),fun _=>true,#[],m,w⟩ H' st a' w'->Q .normal a' w'):zk.wpIn (bg none) 0 ba.P Q a w1:=by
 have hE:=fc;obtain⟨fs,fd,f1,f2,f3,f4⟩:=ku 2 A0c;have hu50:prog.underlying 54=some (.slice 3):=A0a
 have hu47:prog.underlying 50=some (.slice 54):=A0a
 have hil:=(iO.1 hi).1;have hiN:i<C.length:=by have:=hH.lvR;omega
 have hi2:(vR++vS)[i]?=some vi:=by rw[adu hil];exact hi
 have hrow:RowI H vi es:=hH.rows.row i vi es hi2 (by rw[adu (by have:=hH.lR;have:=hH.lvR;omega)];exact hes);refine BQ hE me A0a tp A0a (fun L H' val=>(∀k,k≠97->val k=jh C.length bD gR i x vi k)∧if L.testBit 16=true then ∃v',HQ ao ln cp C gP bD gR gS (vR.set i v') vS (R.set i (es++[(x:Int)])) S H' else if L.testBit 14=true then ∃v',val 97= .x v'∧TQ H vi (es++[(x:Int)]) H' v' else H'=H) ?_ (jh C.length bD gR i x vi) ⟨fun _ _=>rfl,rfl⟩ ?_ h1
 . intro L j o H2 val a2 w2 K hj hbj hdp hcl hIv hJ hneed hK;obtain⟨hval,hIL⟩:=hIv;have hjl:j<17:=(iO.1 hj).1;have nb:L.testBit 16=false:=uF hcl rfl A0a A0b hbj;rw[adq (by rw[nb];exact fun h=>by cases h)] at hIL;have hx:∀k∈tp j,k≠97->∀v,jh C.length bD gR i x vi k= .x v->a2.eval (.tmp k)=v:=fun k hk hne v hv=>hJ.read_x k ((hneed k hk).trans ((hval k hne).trans hv))
   have hkeep:j≠14->j≠16->(∀val':Nat->V,(∀k,k≠97->val' k=jh C.length bD gR i x vi k)∧val' 97=val 97->((∀k,k≠97->val' k=jh C.length bD gR i x vi k)∧if (L|||2^j).testBit 16=true then ∃v',HQ ao ln cp C gP bD gR gS (vR.set i v') vS (R.set i (es++[(x:Int)])) S H2 else if (L|||2^j).testBit 14=true then ∃v',val' 97= .x v'∧TQ H vi (es++[(x:Int)]) H2 v' else H2=H)):=fun h1 h2 val' hv=>by have e14:=av L h1;have e16:=av L h2;refine⟨hv.1,?_⟩;rw[adq (by rw[e16,nb];exact fun h=>by cases h),e14,hv.2];exact hIL
   have hH2:∀y∈[bD,gP,gR,gS],H2 y=H y:=fun y hy=>by
    split at hIL
    . exact WX
    . rw[hIL]
   have t4:a2.eval (.tmp 4)= .p bD:=hJ.read_x 4 ((au A0a).trans s4);have t7:a2.eval (.tmp 7)= .int .i64 (i:Int):=hJ.read_x 7 ((au A0a).trans s7);have t11:a2.eval (.tmp 11)= .int .i64 (x:Int):=hJ.read_x 11 ((au A0a).trans s11);have hbD:=hJ.at ((hH2 bD A0k).trans hH.d);have hbX:=hJ.at ((hH2 gR A0k).trans hH.r);have fin:∀{d:Nat} {v:Value} {a':Act} {w':World},d≠97->jh C.length bD gR i x vi d= .x v->HoldH ba 118 ⟨Kno.rd (.slice ao ln cp) (.l 3 (C.map aa)),fun _=>true,#[],m,w⟩ H2 ((gC st val zm L).put (some d) (.x v)) a' w'->HoldH ba 118 ⟨Kno.rd (.slice ao ln cp) (.l 3 (C.map aa)),fun _=>true,#[],m,w⟩ H2 ((gC st val zm L).put (some d) (val d)) a' w':=fun {d v a' w'} hne hv h=>by rw[hval d hne,hv];exact h
   rcases j with _|_|_|_|_|_|_|_|_|_|_|_|_|_|_|_|_|j
   . exact Wg
   . cases hj;exact aX rfl (fun c e=>by cases e) rfl rfl (dK (p:=⟨bD,0,none⟩) rfl (hx 83 A0c A0c _ rfl)) (hK _ _ _ _ (fun _ _=>rfl) (hkeep A0c A0c _ ⟨hval,rfl⟩) (fin A0c rfl (hJ.putX A0c rfl _)))
   . cases hj;exact aX rfl (fun c e=>by cases e) rfl rfl (ce rfl f1 f2 f4 A0c (hx 84 A0c A0c _ rfl) (by rw[f3,adi])) (hK _ _ _ _ (fun _ _=>rfl) (hkeep A0c A0c _ ⟨hval,rfl⟩) (fin A0c rfl (hJ.putX A0c rfl _)))
   . cases hj;exact aX rfl (fun c e=>by cases e) rfl rfl (cG (v:= .s gR C.length C.length) rfl A0a (hx 85 A0c A0c _ rfl) ((Box.cell hbD _).trans rfl)) (hK _ _ _ _ (fun _ _=>rfl) (hkeep A0c A0c _ ⟨hval,rfl⟩) (fin A0c rfl (hJ.putX A0c rfl _)))
   . exact Wf
   . exact Wg
   . cases hj;exact aX rfl (fun c e=>by cases e) rfl rfl (dK (p:=⟨bD,0,none⟩) rfl (hx 88 A0c A0c _ rfl)) (hK _ _ _ _ (fun _ _=>rfl) (hkeep A0c A0c _ ⟨hval,rfl⟩) (fin A0c rfl (hJ.putX A0c rfl _)))
   . cases hj;exact aX rfl (fun c e=>by cases e) rfl rfl (ce rfl f1 f2 f4 A0c (hx 89 A0c A0c _ rfl) (by rw[f3,adi])) (hK _ _ _ _ (fun _ _=>rfl) (hkeep A0c A0c _ ⟨hval,rfl⟩) (fin A0c rfl (hJ.putX A0c rfl _)))
   . cases hj;exact aX rfl (fun c e=>by cases e) rfl rfl (cG (v:= .s gR C.length C.length) rfl A0a (hx 90 A0c A0c _ rfl) ((Box.cell hbD _).trans rfl)) (hK _ _ _ _ (fun _ _=>rfl) (hkeep A0c A0c _ ⟨hval,rfl⟩) (fin A0c rfl (hJ.putX A0c rfl _)))
   . exact Wf
   . cases hj;exact aX rfl (fun c e=>by cases e) rfl rfl (l7 (sz:=1) (el:=54) rfl hu47 A0a (hx 91 A0c A0c _ rfl) (hx 92 A0c A0c _ rfl) (aeP i) A0b) (hK _ _ _ _ (fun _ _=>rfl) (hkeep A0c A0c _ ⟨hval,rfl⟩) (fin A0c rfl (hJ.putX A0c rfl _)))
   . cases hj;exact aX rfl (fun c e=>by cases e) rfl rfl (cG (v:=vi) rfl A0a (hx 93 A0c A0c _ rfl) ((Box.cell hbX _).trans (by rw[adx];simpa using hi))) (hK _ _ _ _ (fun _ _=>rfl) (hkeep A0c A0c _ ⟨hval,rfl⟩) (fin A0c rfl (hJ.putX A0c rfl _)))
   . exact Wd
   . cases hj
     refine Eb hE rfl A0a A0a hJ (st1:=(gC st val _ L).put (some 96) (.sl false 1 [.i x] none)) ?_ (fun a' w' h'=>hK _ _ _ _ (fun _ _=>rfl) (hkeep A0c A0c _ ⟨hval,rfl⟩) (by show HoldH _ _ _ _ ((gC st val _ L).put (some 96) (val 96)) _ _;rw[hval 96 A0c];exact h'))
     have h95:=(hneed 95 A0c).trans (hval 95 A0c);generalize hS:gC _ _ _ _=ST;have h7:ST.t 95= .i x:=by rw[<-hS];exact h95
     refine uY ?_;simp +decide only[go_sem,ba,Nat.reduceBEq,h7]
   . cases hj;have b14:L.testBit 14=false:=hbj;have b14':=cy L 14;have b16':(L|||2^14).testBit 16=false:=by rw[av L A0c,nb]
     rw[adq (by rw[b14];exact fun h=>by cases h)] at hIL;subst hIL;have e94:a2.eval (.tmp 94)=vi:=hx 94 A0c A0c _ rfl;obtain⟨m96,r96⟩:=hJ.read 96 (u:= .sl false 1 [.i x] none) ((hneed 96 A0c).trans (hval 96 A0c)) rfl;obtain⟨v',w',g,ob,hrun,q1,q2,q3,q4,q5,q6,q7,q8,q9⟩:=xZ (P:=prog) (t:=54) (ty:=54) (el:=3) hu50 Ev tj tn rfl qV hrow (fun g ob h=>hJ.at h) r96 hlen;have h2:=(jH hE hJ q1 q2 q3 q4 (q8.imp (fun e=>hrow.blk e) id) q7 q6).putX (d:=97) A0c rfl v';refine aX rfl (fun c e=>by cases e) rfl rfl (v:=v') (w':=w') ?_ (hK _ _ (upd H2 g (some ob)) (fun k=>if k=97 then .x v' else val k) (fun k hk=>adq (fun e=>hk A08)) ⟨fun k hk=>by rw[adq hk];exact hval k hk,?_⟩ h2)
     . have e96:a2.eval (.tmp 96)=a2.tmps.getD 96 undef:=rfl;exact Wc
     . rw[adq (by rw[b16'];exact fun h=>by cases h),adl b14'];refine⟨v',adl rfl,g,ob,rfl,q5,q8.imp id (fun hge=>?_),q9 _ (aj _ _ _)⟩;cases e:H2 g with
       |none=>rfl
       |some ob'=>exact absurd (ag (hJ.at e)) (ad0.2 hge)
   . cases hj;exact aX rfl (fun c e=>by cases e) rfl rfl (l7 (sz:=1) (el:=54) rfl hu47 A0a (hx 86 A0c A0c _ rfl) (hx 87 A0c A0c _ rfl) (aeP i) A0b) (hK _ _ _ _ (fun _ _=>rfl) (hkeep A0c A0c _ ⟨hval,rfl⟩) (fin A0c rfl (hJ.putX A0c rfl _)))
   . cases hj;have b14:L.testBit 14=true:=hdp 14 (ae4.1 A0a);have b16':=cy L 16;rw[adl b14] at hIL;obtain⟨v',hv',hMid⟩:=hIL;have e97:a2.eval (.tmp 97)=v':=hJ.read_x 97 ((hneed 97 A0c).trans hv');obtain⟨hv1,hv2⟩:v'.cells= #[v']∧v'.oneCell'=true:=by obtain⟨_,_,_,_,_,hr⟩:=hMid;rcases hr with⟨_,rfl⟩|⟨_,_,_,_,_,rfl,_⟩<;>exact⟨rfl,rfl⟩
     have hset:vR.toArray.set! (i*1) v'=(vR.set i v').toArray:=by simp[adx]
     have h2:=jH hE hJ (x:=gR) (ob:= .cells (vR.set i v').toArray 54 (0,0)) (w':=w2.setRow gR (vR.toArray.set! (i*1) v')) rfl rfl rfl A0k (.inl (by rw[hH2 gR A0k,hH.r];exact fun h=>by cases h)) (fun k _ hk=>setRow_other w2 gR k _ hk) (by rw[hset];exact setRow_heap w2 gR _ _ _ (0,0) hbX);exact kh rfl (fun c e=>by cases e) rfl rfl (mR rfl A0a (hx 98 A0c A0c _ rfl) e97 hv1 hv2 hbX A1t) (hK _ _ _ _ (fun _ _=>rfl) ⟨hval,by rw[adl b16'];exact⟨v',hH.setR hi hMid⟩⟩ h2)
   . simp at hj
 . exact We
def zn:Code:=nf (nf (zf (Q3 (nf (nf (P0 (zf CJ)))))))
def zo:List Oper:=Tp zn
def ji(N bD gS i x:Nat)(vi:Value)(k:Nat):V:=
 if k=101∨k=106 then .x (.pointer (some ⟨bD,3,none⟩)) else if k=102∨k=107 then .x (.s gS N N) else if k=103∨k=108 then .i i else if k=109∨k=114 then .x (.pointer (some ⟨gS,i*1,none⟩)) else if k=110 then .x vi else if k=111 then .i x else if k=112 then .sl false 1 [.i x] none else .x (.p bD)
def tq:Nat->List Nat
 |1=>[99]
 |2=>[100]
 |3=>[101]
 |6=>[104]
 |7=>[105]
 |8=>[106]
 |10=>[107,108]
 |11=>[109]
 |13=>[111]
 |14=>[110,112]
 |15=>[102,103]
 |16=>[113,114]
 |_=>[]
theorem YI{w1:World}{i x:Nat}{es:List Int}(hH:HQ ao ln cp C gP bD gR gS vR vS R S H)(hi:vS[i]?=some vi)(hes:S[i]?=some es)(hlen:es.length+1<=100000000)
 (s4:st.t 4= .x (.p bD)) (s7:st.t 11= .i i) (s11:st.t 7= .i x) (hst:∀k,99<=k->k<=114->st.t k= .undef) (h1:HoldH ba 118 ⟨Kno.rd (.slice ao ln cp) (.l 3 (C.map aa)),fun _=>true,#[],m,w⟩ H st a w1)
 (hQ:∀a' w' H' vN,HQ ao ln cp C gP bD gR gS vR vN R (S.set i (es++[(x:Int)])) H'->HoldH ba 118 ⟨Kno.rd (.slice ao ln cp) (.l 3 (C.map aa)),fun _=>true,#[],m,w⟩ H' st a' w'->Q .normal a' w'):zn.wpIn (bg none) 0 ba.P Q a w1:=by
 have hE:=fc;obtain⟨fs,fd,f1,f2,f3,f4⟩:=ku 3 A0c;have hu50:prog.underlying 54=some (.slice 3):=A0a
 have hu47:prog.underlying 50=some (.slice 54):=A0a
 have hil:=(iO.1 hi).1;have hiN:i<C.length:=by have:=hH.lvS;omega
 have hi2:(vR++vS)[(vR.length+i)]?=some vi:=by rw[adH A0b,aeX];exact hi
 have hrow:RowI H vi es:=hH.rows.row (vR.length+i) vi es hi2 (by rw[adH (by have:=hH.lR;have:=hH.lvR;omega),show vR.length+i-R.length=i by have:=hH.lR;have:=hH.lvR;omega];exact hes);refine BQ hE me A0a tq A0a (fun L H' val=>(∀k,k≠113->val k=ji C.length bD gS i x vi k)∧if L.testBit 16=true then ∃v',HQ ao ln cp C gP bD gR gS vR (vS.set i v') R (S.set i (es++[(x:Int)])) H' else if L.testBit 14=true then ∃v',val 113= .x v'∧TQ H vi (es++[(x:Int)]) H' v' else H'=H) ?_ (ji C.length bD gS i x vi) ⟨fun _ _=>rfl,rfl⟩ ?_ h1
 . intro L j o H2 val a2 w2 K hj hbj hdp hcl hIv hJ hneed hK;obtain⟨hval,hIL⟩:=hIv;have hjl:j<17:=(iO.1 hj).1;have nb:L.testBit 16=false:=uF hcl rfl A0a A0b hbj;rw[adq (by rw[nb];exact fun h=>by cases h)] at hIL;have hx:∀k∈tq j,k≠113->∀v,ji C.length bD gS i x vi k= .x v->a2.eval (.tmp k)=v:=fun k hk hne v hv=>hJ.read_x k ((hneed k hk).trans ((hval k hne).trans hv))
   have hkeep:j≠14->j≠16->(∀val':Nat->V,(∀k,k≠113->val' k=ji C.length bD gS i x vi k)∧val' 113=val 113->((∀k,k≠113->val' k=ji C.length bD gS i x vi k)∧if (L|||2^j).testBit 16=true then ∃v',HQ ao ln cp C gP bD gR gS vR (vS.set i v') R (S.set i (es++[(x:Int)])) H2 else if (L|||2^j).testBit 14=true then ∃v',val' 113= .x v'∧TQ H vi (es++[(x:Int)]) H2 v' else H2=H)):=fun h1 h2 val' hv=>by have e14:=av L h1;have e16:=av L h2;refine⟨hv.1,?_⟩;rw[adq (by rw[e16,nb];exact fun h=>by cases h),e14,hv.2];exact hIL
   have hH2:∀y∈[bD,gP,gR,gS],H2 y=H y:=fun y hy=>by
    split at hIL
    . exact WX
    . rw[hIL]
   have t4:a2.eval (.tmp 4)= .p bD:=hJ.read_x 4 ((au A0a).trans s4);have t7:a2.eval (.tmp 11)= .int .i64 (i:Int):=hJ.read_x 11 ((au A0a).trans s7);have t11:a2.eval (.tmp 7)= .int .i64 (x:Int):=hJ.read_x 7 ((au A0a).trans s11);have hbD:=hJ.at ((hH2 bD A0k).trans hH.d);have hbX:=hJ.at ((hH2 gS A0k).trans hH.s);have fin:∀{d:Nat} {v:Value} {a':Act} {w':World},d≠113->ji C.length bD gS i x vi d= .x v->HoldH ba 118 ⟨Kno.rd (.slice ao ln cp) (.l 3 (C.map aa)),fun _=>true,#[],m,w⟩ H2 ((gC st val zo L).put (some d) (.x v)) a' w'->HoldH ba 118 ⟨Kno.rd (.slice ao ln cp) (.l 3 (C.map aa)),fun _=>true,#[],m,w⟩ H2 ((gC st val zo L).put (some d) (val d)) a' w':=fun {d v a' w'} hne hv h=>by rw[hval d hne,hv];exact h
   rcases j with _|_|_|_|_|_|_|_|_|_|_|_|_|_|_|_|_|j
   . exact Wg
   . cases hj;exact aX rfl (fun c e=>by cases e) rfl rfl (dK (p:=⟨bD,0,none⟩) rfl (hx 99 A0c A0c _ rfl)) (hK _ _ _ _ (fun _ _=>rfl) (hkeep A0c A0c _ ⟨hval,rfl⟩) (fin A0c rfl (hJ.putX A0c rfl _)))
   . cases hj;exact aX rfl (fun c e=>by cases e) rfl rfl (ce rfl f1 f2 f4 A0c (hx 100 A0c A0c _ rfl) (by rw[f3,adi])) (hK _ _ _ _ (fun _ _=>rfl) (hkeep A0c A0c _ ⟨hval,rfl⟩) (fin A0c rfl (hJ.putX A0c rfl _)))
   . cases hj;exact aX rfl (fun c e=>by cases e) rfl rfl (cG (v:= .s gS C.length C.length) rfl A0a (hx 101 A0c A0c _ rfl) ((Box.cell hbD _).trans rfl)) (hK _ _ _ _ (fun _ _=>rfl) (hkeep A0c A0c _ ⟨hval,rfl⟩) (fin A0c rfl (hJ.putX A0c rfl _)))
   . exact Wf
   . exact Wg
   . cases hj;exact aX rfl (fun c e=>by cases e) rfl rfl (dK (p:=⟨bD,0,none⟩) rfl (hx 104 A0c A0c _ rfl)) (hK _ _ _ _ (fun _ _=>rfl) (hkeep A0c A0c _ ⟨hval,rfl⟩) (fin A0c rfl (hJ.putX A0c rfl _)))
   . cases hj;exact aX rfl (fun c e=>by cases e) rfl rfl (ce rfl f1 f2 f4 A0c (hx 105 A0c A0c _ rfl) (by rw[f3,adi])) (hK _ _ _ _ (fun _ _=>rfl) (hkeep A0c A0c _ ⟨hval,rfl⟩) (fin A0c rfl (hJ.putX A0c rfl _)))
   . cases hj;exact aX rfl (fun c e=>by cases e) rfl rfl (cG (v:= .s gS C.length C.length) rfl A0a (hx 106 A0c A0c _ rfl) ((Box.cell hbD _).trans rfl)) (hK _ _ _ _ (fun _ _=>rfl) (hkeep A0c A0c _ ⟨hval,rfl⟩) (fin A0c rfl (hJ.putX A0c rfl _)))
   . exact Wf
   . cases hj;exact aX rfl (fun c e=>by cases e) rfl rfl (l7 (sz:=1) (el:=54) rfl hu47 A0a (hx 107 A0c A0c _ rfl) (hx 108 A0c A0c _ rfl) (aeP i) A0b) (hK _ _ _ _ (fun _ _=>rfl) (hkeep A0c A0c _ ⟨hval,rfl⟩) (fin A0c rfl (hJ.putX A0c rfl _)))
   . cases hj;exact aX rfl (fun c e=>by cases e) rfl rfl (cG (v:=vi) rfl A0a (hx 109 A0c A0c _ rfl) ((Box.cell hbX _).trans (by rw[adx];simpa using hi))) (hK _ _ _ _ (fun _ _=>rfl) (hkeep A0c A0c _ ⟨hval,rfl⟩) (fin A0c rfl (hJ.putX A0c rfl _)))
   . exact Wd
   . cases hj
     refine Eb hE rfl A0a A0a hJ (st1:=(gC st val _ L).put (some 112) (.sl false 1 [.i x] none)) ?_ (fun a' w' h'=>hK _ _ _ _ (fun _ _=>rfl) (hkeep A0c A0c _ ⟨hval,rfl⟩) (by show HoldH _ _ _ _ ((gC st val _ L).put (some 112) (val 112)) _ _;rw[hval 112 A0c];exact h'))
     have h95:=(hneed 111 A0c).trans (hval 111 A0c);generalize hS:gC _ _ _ _=ST;have h7:ST.t 111= .i x:=by rw[<-hS];exact h95
     refine uY ?_;simp +decide only[go_sem,ba,Nat.reduceBEq,h7]
   . cases hj;have b14:L.testBit 14=false:=hbj;have b14':=cy L 14;have b16':(L|||2^14).testBit 16=false:=by rw[av L A0c,nb]
     rw[adq (by rw[b14];exact fun h=>by cases h)] at hIL;subst hIL;have e94:a2.eval (.tmp 110)=vi:=hx 110 A0c A0c _ rfl;obtain⟨m96,r96⟩:=hJ.read 112 (u:= .sl false 1 [.i x] none) ((hneed 112 A0c).trans (hval 112 A0c)) rfl;obtain⟨v',w',g,ob,hrun,q1,q2,q3,q4,q5,q6,q7,q8,q9⟩:=xZ (P:=prog) (t:=54) (ty:=54) (el:=3) hu50 Ev tj tn rfl qV hrow (fun g ob h=>hJ.at h) r96 hlen;have h2:=(jH hE hJ q1 q2 q3 q4 (q8.imp (fun e=>hrow.blk e) id) q7 q6).putX (d:=113) A0c rfl v';refine aX rfl (fun c e=>by cases e) rfl rfl (v:=v') (w':=w') ?_ (hK _ _ (upd H2 g (some ob)) (fun k=>if k=113 then .x v' else val k) (fun k hk=>adq (fun e=>hk A08)) ⟨fun k hk=>by rw[adq hk];exact hval k hk,?_⟩ h2)
     . have e96:a2.eval (.tmp 112)=a2.tmps.getD 112 undef:=rfl;exact Wc
     . rw[adq (by rw[b16'];exact fun h=>by cases h),adl b14'];refine⟨v',adl rfl,g,ob,rfl,q5,q8.imp id (fun hge=>?_),q9 _ (aj _ _ _)⟩;cases e:H2 g with
       |none=>rfl
       |some ob'=>exact absurd (ag (hJ.at e)) (ad0.2 hge)
   . cases hj;exact aX rfl (fun c e=>by cases e) rfl rfl (l7 (sz:=1) (el:=54) rfl hu47 A0a (hx 102 A0c A0c _ rfl) (hx 103 A0c A0c _ rfl) (aeP i) A0b) (hK _ _ _ _ (fun _ _=>rfl) (hkeep A0c A0c _ ⟨hval,rfl⟩) (fin A0c rfl (hJ.putX A0c rfl _)))
   . cases hj;have b14:L.testBit 14=true:=hdp 14 (ae4.1 A0a);have b16':=cy L 16;rw[adl b14] at hIL;obtain⟨v',hv',hMid⟩:=hIL;have e97:a2.eval (.tmp 113)=v':=hJ.read_x 113 ((hneed 113 A0c).trans hv');obtain⟨hv1,hv2⟩:v'.cells= #[v']∧v'.oneCell'=true:=by obtain⟨_,_,_,_,_,hr⟩:=hMid;rcases hr with⟨_,rfl⟩|⟨_,_,_,_,_,rfl,_⟩<;>exact⟨rfl,rfl⟩
     have hset:vS.toArray.set! (i*1) v'=(vS.set i v').toArray:=by simp[adx]
     have h2:=jH hE hJ (x:=gS) (ob:= .cells (vS.set i v').toArray 54 (0,0)) (w':=w2.setRow gS (vS.toArray.set! (i*1) v')) rfl rfl rfl A0k (.inl (by rw[hH2 gS A0k,hH.s];exact fun h=>by cases h)) (fun k _ hk=>setRow_other w2 gS k _ hk) (by rw[hset];exact setRow_heap w2 gS _ _ _ (0,0) hbX);exact kh rfl (fun c e=>by cases e) rfl rfl (mR rfl A0a (hx 114 A0c A0c _ rfl) e97 hv1 hv2 hbX A1t) (hK _ _ _ _ (fun _ _=>rfl) ⟨hval,by rw[adl b16'];exact⟨v',hH.setS hi hMid⟩⟩ h2)
   . simp at hj
 . exact We
def kw(x:Nat):V:= .i x
abbrev QS:=List (List Int)×List (List Int)
def dQ(i:Nat)(q:QS)(x:Nat):QS:=(q.1.set i ((q.1[i]?.getD [])++[(x:Int)]),q.2.set x ((q.2[x]?.getD [])++[(i:Int)]))
def LenB(q:QS)(b:Nat):Prop:=(∀es∈q.1,es.length<=b)∧∀es∈q.2,es.length<=b
variable{b:Nat}
theorem tt{q:List (List Int)}{i:Nat}{e:Int}(h:∀es∈q,es.length<=b):∀es∈q.set i ((q[i]?.getD [])++[e]),es.length<=b+1:=fun es he=>by
 rcases afJ he with he|rfl
 . have:=h es he;omega
 . rw[adh];cases hq:q[i]? with
   |none=>simp
   |some es=>have:=h es (adg hq);simp;omega
variable{q:QS}
theorem LenB.tell{i x:Nat}(h:LenB q b):LenB (dQ i q x) (b+1):=⟨tt h.1,tt h.2⟩
theorem LenB.fold{i:Nat}:∀{ps:List Nat} {q:QS} {b:Nat},LenB q b->LenB (ps.foldl (dQ i) q) (b+ps.length)
 |[],_,_,h=>h
 |x::ps,q,b,h=>by have:=LenB.fold (i:=i) (ps:=ps) (h.tell (i:=i) (x:=x));rw[adm,show b+(ps.length+1)=b+1+ps.length by omega];exact this
variable{ps:List Nat}
theorem Hv{j x i:Nat}(h:ps[j]?=some x):(ps.take (j+1)).foldl (dQ i) q=dQ i ((ps.take j).foldl (dQ i) q) x:=by rw[aF h,aeT];rfl
variable{nl2:Bool}
theorem YJ{w1:World}{a:Act}{i:Nat}{H:Nat->Option Obj}{vR vS:List Value}(hi:i<C.length)(hps:∀x∈ps,x<C.length)(hq:LenB q b)(hb:b+ps.length<=99999999)(hp4:ps.length<=1000000)
 (hH:HQ ao ln cp C gP bD gR gS vR vS q.1 q.2 H) (h1:HoldH ba 118 ⟨Kno.rd (.slice ao ln cp) (.l 3 (C.map aa)),fun _=>true,#[],m,w⟩ H (aq [(0,.sl nl sz (l.map cj) none),(3,.fm (ksI (am l)) (vsI (am l))),(4,.x (.p bD)),(57,.l 3 (C.map aa)),(58,.i C.length),(59,.i i),(7,.i i),(77,.sl nl2 1 (ps.map kw) none),(78,.i ps.length),(79,.i (0:Nat))] []) a w1)
 (hQ:∀a' w' H' vR' vS',HQ ao ln cp C gP bD gR gS vR' vS' (ps.foldl (dQ i) q).1 (ps.foldl (dQ i) q).2 H'->HoldH ba 118 ⟨Kno.rd (.slice ao ln cp) (.l 3 (C.map aa)),fun _=>true,#[],m,w⟩ H' (aq [(0,.sl nl sz (l.map cj) none),(3,.fm (ksI (am l)) (vsI (am l))),(4,.x (.p bD)),(57,.l 3 (C.map aa)),(58,.i C.length),(59,.i i)] []) a' w'->Q .normal a' w'):CJ.wpIn (bg none) 0 ba.P Q a w1:=by
 have hE:=fc;have hm:=me;refine wpIn_block ?_;refine cI (X:={j:Nat//j<=ps.length}) (fun j a' w'=>∃H vR vS,HQ ao ln cp C gP bD gR gS vR vS ((ps.take j.1).foldl (dQ i) q).1 ((ps.take j.1).foldl (dQ i) q).2 H∧HoldH ba 118 ⟨Kno.rd (.slice ao ln cp) (.l 3 (C.map aa)),fun _=>true,#[],m,w⟩ H (aq [(0,.sl nl sz (l.map cj) none),(3,.fm (ksI (am l)) (vsI (am l))),(4,.x (.p bD)),(57,.l 3 (C.map aa)),(58,.i C.length),(59,.i i),(7,.i i),(77,.sl nl2 1 (ps.map kw) none),(78,.i ps.length),(79,.i j.1)] []) a' w') (fun j=>ps.length-j.1) ⟨0,adN _⟩ ⟨H,vR,vS,hH,h1⟩ ?_;rintro⟨j,hj0⟩ a w1 ⟨H,vR,vS,hH,h1⟩;simp only at hj0 hH h1⊢;by_cases hj:j<ps.length
 . have c1:decide ((j:Int)<ps.length)=true:=ac0 A0b;have c1':(j:Int)<ps.length:=A0b
   have c2:(0:Int)<=(j:Int):=A0b
   have c4:=ax (i:=j) A0b;have q1:ps[j]?=some ps[j]:=io hj;have hx:=hps ps[j] (adR hj);have q2:(ps.map kw)[j]?=some (.i (ps[j]:Nat)):=by rw[ac9,q1];rfl
   generalize ps[j]=x at q1 hx q2;have hL:LenB ((ps.take j).foldl (dQ i) q) (b+j):=by
    have:=LenB.fold (i:=i) (ps:=ps.take j) hq
    rwa [adz,aeZ hj0] at this
   have hft:=Hv (i:=i) (q:=q) q1;generalize (ps.take j).foldl (dQ i) q=qj at hH hL hft;refine wpIn_seq (g9 hE hm [(0,.sl nl sz (l.map cj) none),(3,.fm (ksI (am l)) (vsI (am l))),(4,.x (.p bD)),(57,.l 3 (C.map aa)),(58,.i C.length),(59,.i i),(7,.i i),(77,.sl nl2 1 (ps.map kw) none),(78,.i ps.length),(79,.i j),(80,.bool true)] [] A0a A0a h1 A0r ?_);intro a w1 h1;refine wpIn_seq (g9 hE hm [(0,.sl nl sz (l.map cj) none),(3,.fm (ksI (am l)) (vsI (am l))),(4,.x (.p bD)),(57,.l 3 (C.map aa)),(58,.i C.length),(59,.i i),(7,.i i),(77,.sl nl2 1 (ps.map kw) none),(78,.i ps.length),(79,.i j)] [] A0a A0a h1 A0l ?_);intro a w1 h1;refine wpIn_seq (wpIn_block (wpIn_seq (g9 hE hm [(0,.sl nl sz (l.map cj) none),(3,.fm (ksI (am l)) (vsI (am l))),(4,.x (.p bD)),(57,.l 3 (C.map aa)),(58,.i C.length),(59,.i i),(7,.i i),(77,.sl nl2 1 (ps.map kw) none),(78,.i ps.length),(79,.i j),(11,.i x)] [] A0a A0a h1 A0D ?_)));intro a w1 h1;have hRl:=hH.lR;have hSl:=hH.lS;have hvRl:=hH.lvR;have hvSl:=hH.lvS;obtain⟨vi,hvi⟩:∃v,vR[i]?=some v:=⟨_,io A0b ⟩;obtain⟨es,hes⟩:∃e,qj.1[i]?=some e:=⟨_,io A0b ⟩;have hel:=hL.1 es (adg hes);refine wpIn_seq (YH (i:=i) (x:=x) hH hvi hes A0b A0g A0g A0g (fun k h1 h2=>?_) h1 ?_)
   . simp only[aq,bX]
     iterate 12 (first|rw[ah _ _ A0b]|skip)
   intro a2 w2 H2 vR2 hH2 h2;obtain⟨vj,hvj⟩:∃v,vS[x]?=some v:=⟨_,io A0b ⟩;obtain⟨es2,hes2⟩:∃e,qj.2[x]?=some e:=⟨_,io A0b ⟩;have hel2:=hL.2 es2 (adg hes2);refine YI (i:=x) (x:=i) hH2 hvj hes2 A0b A0g A0g A0g (fun k h1 h2=>?_) h2 ?_
   . simp only[aq,bX]
     iterate 12 (first|rw[ah _ _ A0b]|skip)
   intro a3 w3 H3 vS3 hH3 h3;refine g9 hE hm [(0,.sl nl sz (l.map cj) none),(3,.fm (ksI (am l)) (vsI (am l))),(4,.x (.p bD)),(57,.l 3 (C.map aa)),(58,.i C.length),(59,.i i),(7,.i i),(77,.sl nl2 1 (ps.map kw) none),(78,.i ps.length),(79,.i (j+1:Nat))] [] A0a A0a h3 A0G ?_;intro a4 w4 h4;refine⟨⟨j+1,hj⟩,⟨H3,vR2,vS3,?_,h4⟩,by simp only;omega⟩;have e:dQ i qj x=(qj.1.set i (es++[(x:Int)]),qj.2.set x (es2++[(i:Int)])):=by unfold dQ;rw[hes,hes2];rfl
   rw[hft,e];exact hH3
 . have c1:decide ((j:Int)<ps.length)=false:=Io A0b;have e:j=ps.length:=A0b
   subst e;rw[aei] at hH;refine wpIn_seq (g9 hE hm [(0,.sl nl sz (l.map cj) none),(3,.fm (ksI (am l)) (vsI (am l))),(4,.x (.p bD)),(57,.l 3 (C.map aa)),(58,.i C.length),(59,.i i),(7,.i i),(77,.sl nl2 1 (ps.map kw) none),(78,.i ps.length),(80,.bool false)] [] A0a A0a h1 A0r ?_);intro a w1 h1;refine wpIn_seq (Pu hE hm 4 [(0,.sl nl sz (l.map cj) none),(3,.fm (ksI (am l)) (vsI (am l))),(4,.x (.p bD)),(57,.l 3 (C.map aa)),(58,.i C.length),(59,.i i)] [] A0a A0a h1 A0l ?_);intro a w1 h1;exact hQ a w1 H vR vS hH h1
theorem P2{m' m2:Lim}(hes:∀e∈es,∃i,e= .i i)(h:Rd m' w' v (.sl nl 1 es none))(hm:∀blk fr,m2 blk=some fr->m' blk=some fr∨∀off i,w'.cell? ⟨blk,off,none⟩≠some (.int .i64 i)):Rd m2 w' v (.sl nl 1 es none):=by
 cases h with
 |nil=>exact .nil _ _
 |emp a cap=>exact .emp _ _ _
 | sl blk off cap _ _ _ c hb hcap hsz hc hmm hr=>
   cases es with
   |nil=>exact .emp _ _ _
   | cons e es=>
     obtain⟨i,rfl⟩:=hes e (adP ..);have h0:c 0= .int .i64 i:=Rd.x_iff.1 (hr 0 _ rfl 0 _ rfl);have hc0:=hc 0 A0k;refine .sl blk off cap 1 _ none c hb hcap hsz hc (fun fr hf=>?_) (fun i e hi j d hd=>?_)
     . rcases hm blk fr hf with h|h
       . exact hmm fr h
       . rw[h0] at hc0;exact absurd hc0 (h _ _)
     . obtain⟨n,rfl⟩:=hes e (adg hi);cases j with
       |zero=>cases hd;have:=hr i _ hi 0 _ rfl;rw[Rd.x_iff.1 this];exact .x _
       |succ j=>cases hd
theorem zp{w1:World}{rest:List Nat}{ts:Array TypeId}{sz2:Nat}{r:List C3}(hn:C.Nodup)(hH:HQ ao ln cp C gP bD gR gS vR vS R S H)
 (hi:ops[4]?=some o) (hop:o.op= .call {callee:= .value (.func 44),args:= #[.tmp 73,.tmp 76],argTypes:=ts}) (hd:o.dst=some 77) (hg:o.guard=none) (s73:st.t 73= .x (.p bD)) (s76:st.t 76= .sl nl2 sz2 (r.map aa) none) (hsz:r≠[]->sz2=3) (hrl:r.length<=1000000)
 (h:HoldH ba 118 ⟨Kno.rd (.slice ao ln cp) (.l 3 (C.map aa)),fun _=>true,#[],m,w⟩ H st a w1) (hK:∀a' w',HoldH ba 118 ⟨Kno.rd (.slice ao ln cp) (.l 3 (C.map aa)),fun _=>true,#[],m,w⟩ H (st.put (some 77) (.sl (iL (plI 0 C) r).isEmpty 1 (iL (plI 0 C) r) none)) a' w'->wpOpsIn (bg none) 0 ba.P ⟨ops⟩ Q rest a' w'):wpOpsIn (bg none) 0 ba.P ⟨ops⟩ Q (4::rest) a w1:=by
 have hE:=fc;have hbD:=h.at hH.d;obtain⟨ents,clock,hp,hMX,hMb,hMn⟩:=hH.p;have hbP:=h.at hp;have hnd:=hH.ne;simp only[adY,adA,ae5,ags,not_or,afM,ad3,aeQ] at hnd;obtain⟨⟨n1,_,_⟩,_,_⟩:=hnd;obtain⟨m1,O,q1,q2,q4,q5,q6,q7⟩:=h;have e73:a.eval (.tmp 73)= .p bD:=q1.read_x 73 s73;have r76:Rd m1 w1 (a.eval (.tmp 76)) (.sl nl2 sz2 (r.map aa) none):=eM q1 76 s76 rfl;have hext:Ext m1 w1 (upd (upd m1 bD none) gP none) w1:=(Ext.freeze bD m1 w1).trans (Ext.freeze gP _ w1);have hmP:m1 gP=some 0:=(q2 gP _ hp).2.2.1;have rfm:Rd (upd (upd m1 bD none) gP none) w1 (.map (some gP)) (.fm (ksI (plI 0 C)) (vsI (plI 0 C))):=MapAt.freeze ⟨ents,clock,hbP,hMX m1 w1,hMb,hMn,hmP⟩ hext (aj _ _ _);have hrd:RdL (upd (upd m1 bD none) gP none) w1 [a.eval (.tmp 73),a.eval (.tmp 76)] (mY ((.l 3 (C.map aa),plI 0 C,.x (.s gR C.length C.length),.x (.s gS C.length C.length)),nl2,sz2,r)):=by
  rw[e73];refine⟨.ip bD 0 _ (fun k=>(#[Value.slice ao ln cp,.map (some gP),.s gR C.length C.length,.s gS C.length C.length][k]?).getD undef) (ag hbD) (fun k hk=>?_) (fun fr hf=>?_) (fun k d hk=>?_),r76.mono hext,trivial⟩
  . exact WY
  . rw[ah _ _ n1,aj] at hf;cases hf
  . rcases k with _|_|_|_|k
    . cases hk;exact q6.mono hext
    . cases hk;exact rfm
    . cases hk;exact .x _
    . cases hk;exact .x _
    . cases hk
 have hF:Fun ba 44 (FE mY G4):=hE.fn _ _ rfl;have hval:FE mY G4 (mY ((.l 3 (C.map aa),plI 0 C,.x (.s gR C.length C.length),.x (.s gS C.length C.length)),nl2,sz2,r))=some (.sl (iL (plI 0 C) r).isEmpty 1 (iL (plI 0 C) r) none):=(ca G3 G4 _).trans (adl ⟨uV hn 0,hsz,hrl⟩);have hc:=hF.2 _ w1 #[a.eval (.tmp 73),a.eval (.tmp 76)] _ _ hval rfl hrd q1.J (fun g=> .undef _);rw[wpOpsIn_cons];unfold wpOpIn;have hi':(⟨ops⟩:Array Oper)[4]?=some o:=A0m
 rw[hi'];simp only;rw[adl A0u];refine⟨fun _ _=>trivial,?_⟩;rw[Oper.semAt_eq _ _ _ A0J];have hrun:(execOp a.eval o).run ba.P w1= .ok (.enter 44 ((#[.tmp 73,.tmp 76]:Array Operand).map a.eval)) w1:=by simp only[execOp,hop,resolve,Gc,Act.eval,Deferred.ofValue,Gd,Ge,invoke];simpa using hF.1 _ _
 rw [hrun,show((#[.tmp 73,.tmp 76]:Array Operand).map a.eval)= #[a.eval (.tmp 73),a.eval (.tmp 76)] from by simp];refine⟨(fun e=>by cases e),cm.2 (hc.mono ?_)⟩;rintro e w' ⟨v,m',rfl,hv,hb,hmb⟩;show wpOpsIn (bg none) 0 ba.P ⟨ops⟩ Q rest (a.put o.dst v) w';rw[hd];have hs:Step (fun _=>False) m1 w1 (fun j=>if j<w1.heap.size then m1 j else m' j) w':=Step.of_below hb (fun k hk=>adl hk);have hJ:ba.J w':=hE.keep [] _ _ (fun x hx=>by cases hx) q1.J (hs.bel (fun k _ e=>e.elim));have hv2:Rd (fun j=>if j<w1.heap.size then m1 j else m' j) w' v (.sl (iL (plI 0 C) r).isEmpty 1 (iL (plI 0 C) r) none):=by
  refine P2 (fun e he=>?_) hv (fun blk fr hf=>?_)
  . obtain⟨c,_,rfl⟩:=ads.1 he;exact⟨_,rfl⟩
  . split at hf
    . rename_i hlt;by_cases e1:blk=bD
      . subst e1;refine .inr (fun off i hc=>?_);rw[bc (hs.same _ (ag hbD) (fun h=>h)).1,Box.cell hbD] at hc;rcases off with _|_|_|_|off<;>simp at hc
      . by_cases e2:blk=gP
        . subst e2;refine .inr (fun off i hc=>?_);rw[bc (hs.same _ (ag hbP) (fun h=>h)).1] at hc;simp[World.cell?,hbP] at hc
        . exact .inl (by rw[hmb blk hlt,ah _ _ e2,ah _ _ e1];exact hf)
    . exact .inl hf
 have hput:=(q1.other hs (fun _ _ h=>h) hJ).put (d:=77) A0c hv2;rw[dV] at hput;refine hK _ _ ⟨_,O,hput,fun g ob hgo=>?_,q4,q5.next hs (fun _ _ h=>h.elim),Kno.mono _ _ _ _ _ q6 hs.ext,q7.put (fun k e=>by cases e;rfl)⟩;obtain⟨s1,s2,s3,s4,s5⟩:=q2 g ob hgo;have hsame:=hs.same g (ag s2) (fun h=>h);exact⟨s1,hsame.1.trans s2,hsame.2.trans s3,s4,s5⟩
theorem L7(L:List CI)(d c:C3)(v:Int):dz (L.map fun p=>if eE d p.1=true then (p.1,v) else p) c=if c=d∧cZ L d=true then v else dz L c:=by
 induction L with
 |nil=>simp[dz,cZ,je]
 | cons p L ih=>
   have hh:cZ (p::L) d=(eE d p.1||cZ L d):=rfl;rw[adL];by_cases h1:d=p.1
   . have e1:eE d p.1=true:=ac0 h1;rw[adl e1,hh,e1,Bool.true_or];unfold dz;by_cases h2:c=p.1
     . rw[adl (show eE c (p.1,v).1=true from ac0 h2),adl ⟨h2.trans h1.symm,rfl⟩]
     . have e2: ¬eE c p.1=true:=fun h=>h2 (adQ h)
       rw[adq e2,adq e2,ih,adq (fun h=>h2 (h.1.trans h1)),adq (fun h=>h2 (h.1.trans h1))]
   . have e1: ¬eE d p.1=true:=fun h=>h1 (adQ h)
     have e1':eE d p.1=false:=by simpa using e1
     rw[adq e1,hh,e1',afG];unfold dz;by_cases h2:c=p.1
     . have e2:eE c p.1=true:=ac0 h2;rw[adl e2,adl e2,adq (fun h=>h1 (h.1.symm.trans h2))]
     . have e2: ¬eE c p.1=true:=fun h=>h2 (adQ h)
       rw[adq e2,adq e2,ih]
theorem L8(L:List CI)(d c:C3)(v:Int):dz (L++[(d,v)]) c=if cZ L c=true then dz L c else if c=d then v else 0:=by
 induction L with
 | nil=>
   show(if eE c (d,v).1=true then v else 0)=_;rw[adq (show¬cZ [] c=true by simp[cZ,je])];by_cases h:c=d
   . rw[adl (show eE c (d,v).1=true from ac0 h),adl h]
   . rw[adq (show¬eE c (d,v).1=true from fun e=>h (adQ e)),adq h]
 | cons p L ih=>
   have hh:cZ (p::L) c=(eE c p.1||cZ L c):=rfl;rw[aee,hh];unfold dz;by_cases h2:eE c p.1=true
   . rw[adl h2,adl h2,h2,Bool.true_or,adl rfl]
   . have e2:eE c p.1=false:=by simpa using h2
     rw[adq h2,adq h2,ih,e2,afG]
theorem zq(L:List CI)(d c:C3)(v:Int):cZ (gV L d v) c=true->dz (gV L d v) c=if c=d then v else dz L c:=by
 intro hc;unfold gV at hc⊢;split
 . rename_i h;rw[L7];by_cases e:c=d
   . rw[adl ⟨e,h⟩,adl e]
   . rw[adq (fun h=>e h.1),adq e]
 . rename_i h;rw[L8];split
   . rename_i h2;rw[adq (show¬c=d from fun e=>h (e▸h2))]
   . rename_i h2;split
     . rfl
     . rename_i h3;exact(uR (by simpa using h2)).symm
theorem u6(L:List CI)(d c:C3)(v:Int)(hne:c≠d)(h:cZ (gV L d v) c=true):cZ L c=true:=by
 unfold gV at h;split at h
 . rw[dO] at h⊢;obtain⟨p,hp,rfl⟩:=ads.1 h;obtain⟨p',hp',rfl⟩:=ads.1 hp;refine ads.2 ⟨p',hp',?_⟩;split<;>rfl
 . rw[dO] at h⊢;obtain⟨p,hp,rfl⟩:=ads.1 h;rcases adv.1 hp with hp|hp
   . exact ads.2 ⟨p,hp,rfl⟩
   . rw[adj.1 hp] at hne;exact absurd rfl hne
theorem L9:∀n:Nat,n<=l.length->cZ (am (l.take n)) c=true->∃k,k<n∧dz (am (l.take n)) c=(k:Int):=by
 intro n
 induction n with
 |zero=>intro _ h;simp[am,lA,cZ,je] at h
 | succ n ih=>
   intro hn h;have q1:l[n]?=some l[n]:=io A0b;have e:am (l.take (n+1))=gV (am (l.take n)) (l[n]).1 (n:Int):=by unfold am;rw[aF q1,fv,adz,adi,aeZ A0b]
   rw[e] at h⊢;rw[zq _ _ _ _ h];by_cases hc:c=(l[n]).1
   . rw[adl hc];exact⟨n,A0b,rfl⟩
   . rw[adq hc];obtain⟨k,hk,e2⟩:=ih A0b (u6 _ _ _ _ hc h);exact⟨k,A0b,e2⟩
def kY(C r:List C3):List Nat:=(r.filter fun c=>je c C).map fun c=>(dz (plI 0 C) c).toNat
theorem Ma(hn:C.Nodup){c:C3}(h:je c C=true):∃i:Nat,i<C.length∧dz (plI 0 C) c=(i:Int):=by obtain⟨i,hi⟩:=uW h;have:=tg (k:=0) hn hi;rw[adi] at this;exact⟨i,(iO.1 hi).1,this⟩
theorem P3(hn:C.Nodup)(r:List C3):iL (plI 0 C) r=(kY C r).map kw:=by
 unfold iL kY;rw[aes];have e:(r.filter fun c=>cZ (plI 0 C) c)=r.filter fun c=>je c C:=by congr 1;funext c;exact o7 C 0 c
 rw[e];refine aeW fun c hc=>?_
 obtain⟨i,_,hi⟩:=Ma hn (adZ.1 hc).2;show V.i (dz (plI 0 C) c)=V.i (((dz (plI 0 C) c).toNat:Nat):Int);rw[hi,tl]
theorem Ew(hn:C.Nodup)(r:List C3):∀x∈kY C r,x<C.length:=fun x hx=>by obtain⟨c,hc,rfl⟩:=ads.1 hx;obtain⟨i,h1,hi⟩:=Ma hn (adZ.1 hc).2;rw[hi,tl];exact h1
theorem zt(C r:List C3):(kY C r).length<=r.length:=by unfold kY;rw[eq];exact aey _ _
def qW(l:List En)(C:List C3)(q:QS)(i:Nat):QS:=
 match C[i]? with
 |none=>q
 | some c=>match l[(dz (am l) c).toNat]? with
   |none=>q
   |some e=>if e.2.1=true then (kY C (aD e.2.2.1)).foldl (dQ i) q else q
def fN(l:List En)(C:List C3)(n:Nat):QS:=(List.range n).foldl (qW l C) (List.replicate C.length [],List.replicate C.length [])
theorem jj(l:List En)(C:List C3)(n:Nat):fN l C (n+1)=qW l C (fN l C n) n:=by unfold fN;rw[afs,aeT];rfl
theorem Hw{i:Nat}(hc:∀e∈l,lw e.2.2.1<=400)(h:LenB q b):LenB (qW l C q i) (b+160000):=by
 have mono:∀{q:QS} {b b':Nat},LenB q b->b<=b'->LenB q b':=fun h hb=>⟨fun es he=>adJ (h.1 es he) hb,fun es he=>adJ (h.2 es he) hb⟩
 unfold qW;split
 . exact mono h A0b
 . split
   . exact mono h A0b
   . rename_i e he;split
     . refine mono h.fold ?_;have h1:=zt C (aD e.2.2.1);have h2:=fl e.2.2.1;have h3:=hc e (adg he);omega
     . exact mono h A0b
theorem qX{l:List En}{C:List C3}(hc:∀e∈l,lw e.2.2.1<=400):∀n,LenB (fN l C n) (n*160000)
 |0=>⟨fun es he=>by rw[(List.mem_replicate.1 he).2];exact adN _,fun es he=>by rw[(List.mem_replicate.1 he).2];exact adN _⟩
 |n+1=>by rw[jj,aek,afu];exact Hw hc (qX hc n)
def YK:Code:=Q3 (nf (nf Q4))
theorem YL{w1:World}{a:Act}{i:Nat}(hn:C.Nodup)(hi:C[i]?=some c)(h400:C.length<=400)(hsz:l≠[]->sz=20)(_hl4:l.length<=400)(hcnt:∀e∈l,lw e.2.2.1<=400)(hkey:cZ (am l) c=true)
 (hH:HQ ao ln cp C gP bD gR gS vR vS (fN l C i).1 (fN l C i).2 H) (h1:HoldH ba 118 ⟨Kno.rd (.slice ao ln cp) (.l 3 (C.map aa)),fun _=>true,#[],m,w⟩ H (aq [(0,.sl nl sz (l.map cj) none),(3,.fm (ksI (am l)) (vsI (am l))),(4,.x (.p bD)),(57,.l 3 (C.map aa)),(58,.i C.length),(59,.i i)] []) a w1)
 (hQ:∀a' w' H' vR' vS',HQ ao ln cp C gP bD gR gS vR' vS' (fN l C (i+1)).1 (fN l C (i+1)).2 H'->HoldH ba 118 ⟨Kno.rd (.slice ao ln cp) (.l 3 (C.map aa)),fun _=>true,#[],m,w⟩ H' (aq [(0,.sl nl sz (l.map cj) none),(3,.fm (ksI (am l)) (vsI (am l))),(4,.x (.p bD)),(57,.l 3 (C.map aa)),(58,.i C.length),(59,.i i)] []) a' w'->Q .normal a' w'):YK.wpIn (bg none) 0 ba.P Q a w1:=by
 have hE:=fc;have hm:=me;have hiN:=(iO.1 hi).1;have c1':(i:Int)<C.length:=A0b
 have c2:(0:Int)<=(i:Int):=A0b
 have q2:(C.map aa)[i]?=some (aa c):=by rw[ac9,hi];rfl
 simp only[aa] at q2;obtain⟨k,hk,hz⟩:=L9 (l:=l) (c:=c) l.length (adp _) (by rw[aei];exact hkey);rw[aei] at hz;obtain rfl:=hsz (fun h=>by rw[h] at hk;simp at hk);have kk:=Ek (m:= .fm (ksI (am l)) (vsI (am l))) rfl (kQ l) (c:=c);rw[hz] at kk;simp only[aa] at kk;have q3:l[k]?=some l[k]:=io hk;have q4:(l.map cj)[k]?=some (cj l[k]):=by rw[ac9,q3];rfl
 have hce:=hcnt l[k] (adR hk);have hstep:fN l C (i+1)=if (l[k]).2.1=true then (kY C (aD (l[k]).2.2.1)).foldl (dQ i) (fN l C i) else fN l C i:=by rw[jj];unfold qW;rw[hi];simp only;rw[hz,tl,q3]
 generalize l[k]=e at q3 q4 hce hstep;have d1:(k:Int)<l.length:=A0b
 have d2:(0:Int)<=(k:Int):=A0b
 obtain⟨N,T,hN,lN,lT,hnd,tkN⟩:=Ei e;rw[hN] at q4;have tA:(N++T).take 16=N++T:=ady (by rw[adh];omega);have aA:(N++T).all V.cell=true:=by obtain⟨M,hM,_,_,hM4⟩:=y7 e;rw[hN] at hM;simp only[V.agg.injEq,adW,afK] at hM;rw[hM];exact hM4
 refine wpIn_block (wpIn_seq (g9 hE hm [(0,.sl nl 20 (l.map cj) none),(3,.fm (ksI (am l)) (vsI (am l))),(4,.x (.p bD)),(57,.l 3 (C.map aa)),(58,.i C.length),(59,.i i),(7,.i i),(8,.ptr 8 0)] [(8,[.x (.string c.1),.i c.2.1,.i c.2.2])] A0a A0a h1 A0D ?_));intro a w1 h1;refine wpIn_seq (g9 hE hm [(0,.sl nl 20 (l.map cj) none),(3,.fm (ksI (am l)) (vsI (am l))),(4,.x (.p bD)),(57,.l 3 (C.map aa)),(58,.i C.length),(59,.i i),(7,.i i),(9,.ptr 9 0)] [(9,.x (.string e.1.1):: .i e.1.2.1:: .i e.1.2.2:: .bool e.2.1::(N++T))] A0a A0a h1 (by simp +decide (maxDischargeDepth:=200) only[go_sem,ba,Nat.reduceBEq,eq,adm,adh,lN,lT,tA,aA,kk,d1,d2,q4,tl]<;>(repeat' first|rfl|constructor)) ?_);intro a w1 h1;cases hf:e.2.1 with
 |false=>rw[hf] at h1 hstep;rw[adq A0c] at hstep;refine wpIn_seq (wpIn_seq (g9 hE hm [(0,.sl nl 20 (l.map cj) none),(3,.fm (ksI (am l)) (vsI (am l))),(4,.x (.p bD)),(57,.l 3 (C.map aa)),(58,.i C.length),(59,.i i),(72,.bool true)] [] A0a A0a h1 A0T ?_));intro a w1 h1;refine Pu hE hm 3 [(0,.sl nl 20 (l.map cj) none),(3,.fm (ksI (am l)) (vsI (am l))),(4,.x (.p bD)),(57,.l 3 (C.map aa)),(58,.i C.length),(59,.i i)] [] A0a A0a h1 A0l ?_;intro a2 w2 h2;exact hQ a2 w2 H vR vS (by rw[hstep];exact hH) h2
 | true=>
   rw[hf] at h1 hstep;rw[adl rfl] at hstep;refine wpIn_seq (wpIn_seq (g9 hE hm [(0,.sl nl 20 (l.map cj) none),(3,.fm (ksI (am l)) (vsI (am l))),(4,.x (.p bD)),(57,.l 3 (C.map aa)),(58,.i C.length),(59,.i i),(7,.i i),(9,.ptr 9 0),(72,.bool false)] [(9,.x (.string e.1.1):: .i e.1.2.1:: .i e.1.2.2:: .bool true::(N++T))] A0a A0a h1 A0T ?_));intro a w1 h1;refine g9 hE hm [(0,.sl nl 20 (l.map cj) none),(3,.fm (ksI (am l)) (vsI (am l))),(4,.x (.p bD)),(57,.l 3 (C.map aa)),(58,.i C.length),(59,.i i),(7,.i i),(9,.ptr 9 0)] [(9,.x (.string e.1.1):: .i e.1.2.1:: .i e.1.2.2:: .bool true::(N++T))] A0a A0a h1 A0l ?_;intro a w1 h1;have hrd:FE dS fa [.agg N]=some (.sl (aD e.2.2.1).isEmpty (kL (aD e.2.2.1)) ((aD e.2.2.1).map aa) none):=by rw[<-hnd];exact(ca ke _ _).trans (nH hce)
   have hr4:(aD e.2.2.1).length<=160000:=by have:=fl e.2.2.1;omega
   have hzO:aD e.2.2.1≠[]->kL (aD e.2.2.1)=3:=fun h=>by
    unfold kL;cases hh:aD e.2.2.1 with
    |nil=>exact absurd hh h
    |cons _ _=>rfl
   refine wpIn_seq (wpIn_region ?_);refine uE hE 0 4 [(0,.sl nl 20 (l.map cj) none),(3,.fm (ksI (am l)) (vsI (am l))),(4,.x (.p bD)),(57,.l 3 (C.map aa)),(58,.i C.length),(59,.i i),(7,.i i),(73,.x (.p bD)),(76,.sl (aD e.2.2.1).isEmpty (kL (aD e.2.2.1)) ((aD e.2.2.1).map aa) none)] [] [4,5,6] A0c A0a A0a h1 (by simp +decide only[go_sem,ba,Nat.reduceBEq,adm,adh,lN,lT,tkN,hrd]<;>(repeat' first|rfl|constructor)) ?_;intro a w1 h1;refine zp (nl2:=(aD e.2.2.1).isEmpty) (sz2:=kL (aD e.2.2.1)) (r:=aD e.2.2.1) hn hH rfl rfl rfl rfl A0i A0i hzO A0b h1 ?_;intro a w1 h1;rw[P3 hn] at h1;have hpl:=zt C (aD e.2.2.1);refine uE hE 5 2 [(0,.sl nl 20 (l.map cj) none),(3,.fm (ksI (am l)) (vsI (am l))),(4,.x (.p bD)),(57,.l 3 (C.map aa)),(58,.i C.length),(59,.i i),(7,.i i),(77,.sl ((kY C (aD e.2.2.1)).map kw).isEmpty 1 ((kY C (aD e.2.2.1)).map kw) none),(78,.i ((kY C (aD e.2.2.1)).length:Int)),(79,.i (0:Nat))] [] [] A0c A0a A0a h1 A0E ?_;intro a w1 h1;refine YJ hiN (Ew hn _) (qX hcnt i) A0b A0b hH h1 ?_;intro a2 w2 H2 vR2 vS2 hH2 h2;exact hQ a2 w2 H2 vR2 vS2 (by rw[hstep];exact hH2) h2
theorem Mb{es:List Int}(h:RowI H v es)(hw:∀g ob,H g=some ob->w.heap[g]?=some ob)(hm:∀g,H g≠none->m g=none):Rd m w v (rI es):=by
 rcases h with⟨rfl,rfl⟩|⟨g,cap,cur,ty,hne,rfl,hg,hcap,hsz,hc⟩
 . exact .nil _ _
 . have hh:=hw g _ hg;have hmg:=hm g A0M;have e:rI es= .l 1 (es.map aw):=by
    cases es with
    |nil=>exact absurd rfl hne
    |cons a es=>rfl
   rw[e];have:=Rd.sl (m:=m) (w:=w) g 0 cap 1 (es.map aw) none (fun k=>(cur[k]?).getD undef) (ag hh) (by rw[eq];exact hcap) (fun i e hi=>by
    rw[ac9,adn] at hi;obtain⟨n,_,rfl⟩:=hi;rfl) (fun k hk=>by
    rw[eq,adx] at hk;rw[adi,Box.cell hh,adG A0b];rfl) (fun fr hf=>by rw[hmg] at hf;cases hf) (fun i e hi j d hd=>by
    rw[ac9,adn] at hi;obtain⟨n,hn,rfl⟩:=hi;cases j with
    |zero=>cases hd;rw[adx,aeq,hc i n hn];exact .x _
    |succ j=>cases hd)
   rwa [eq] at this
theorem jk{g N:Nat}{vs:List Value}{es:List (List Int)}{ty:TypeId}(hg:H g=some (.cells vs.toArray ty (0,0)))(hr:∀(i:Nat) (v:Value) (e:List Int),vs[i]?=some v->es[i]?=some e->RowI H v e)(hv:vs.length=N)(he:es.length=N)(hw:∀g ob,H g=some ob->w.heap[g]?=some ob)(hm:∀g,H g≠none->m g=none):
 Rd m w (.s g N N) (.l 1 (es.map rI)):=by
 have hh:=hw g _ hg;have hmg:=hm g A0M;have:=Rd.sl (m:=m) (w:=w) g 0 N 1 (es.map rI) none (fun k=>(vs[k]?).getD undef) (ag hh) A0w (fun i e hi=>by
  rw[ac9,adn] at hi;obtain⟨n,_,rfl⟩:=hi;rfl) (fun k hk=>by
  rw[eq,adx] at hk;rw[adi,Box.cell hh,aew,io A0b];rfl) (fun fr hf=>by rw[hmg] at hf;cases hf) (fun i e hi j d hd=>by
  rw[ac9,adn] at hi;obtain⟨n,hn,rfl⟩:=hi;cases j with
  |zero=>cases hd;have hil:=(iO.1 hn).1;rw[adx,aeq,io A0b];exact Mb (hr i _ n (io A0b) hn) hw hm
  |succ j=>cases hd)
 rwa [eq,he] at this
theorem Hx(hH:HQ ao ln cp C gP bD gR gS vR vS R S H)(hw:∀g ob,H g=some ob->w.heap[g]?=some ob)(hm:∀g,H g≠none->m g=none)(hk:Rd m w (.slice ao ln cp) (.l 3 (C.map aa))):Rd m w (.p bD) (za (C,R,S)):=by
 have hbD:=hw bD _ hH.d;have hmD:=hm bD (by rw[hH.d];exact fun h=>by cases h);obtain⟨ents,clock,hp,hMX,hMb,hMn⟩:=hH.p;have hbP:=hw gP _ hp;have hmP:=hm gP (by rw[hp];exact fun h=>by cases h);have rfm:Rd m w (.map (some gP)) (.fm (ksI (plI 0 C)) (vsI (plI 0 C))):=by
  refine MapAt.freeze (m:=upd m gP (some 0)) ⟨ents,clock,hbP,hMX _ _,hMb,hMn,aj _ _ _⟩ ⟨adp _,fun _ _ _ _ _ h=>h,fun b _ fr' hf=>?_,fun _ _ _ _ h=>h⟩ hmP;by_cases e:b=gP
  . rw[e,hmP] at hf;cases hf
  . exact⟨fr',by rw[ah _ _ e];exact hf,adp _⟩
 have hlen:R.length=vR.length:=by rw[hH.lR,hH.lvR]
 have rR:=jk (m:=m) hH.r (fun i v e hi he=>hH.rows.row i v e (by rw[adu (iO.1 hi).1];exact hi) (by rw[adu (iO.1 he).1];exact he)) hH.lvR hH.lR hw hm;have rS:=jk (m:=m) hH.s (fun i v e hi he=>hH.rows.row (vR.length+i) v e (by rw[adH A0b,aeX];exact hi) (by rw[adH A0b,show vR.length+i-R.length=i by omega];exact he)) hH.lvS hH.lS hw hm;refine .ip bD 0 _ (fun k=>(#[Value.slice ao ln cp,.map (some gP),.s gR C.length C.length,.s gS C.length C.length][k]?).getD undef) (ag hbD) (fun k hk=>?_) (fun fr hf=>by rw[hmD] at hf;cases hf) (fun k d hk'=>?_)
 . exact WY
 . rcases k with _|_|_|_|k
   . cases hk';exact hk
   . cases hk';exact rfm
   . cases hk';exact rR
   . cases hk';exact rS
   . cases hk'
theorem YM{w1:World}{a:Act}{H:Nat->Option Obj}(hn:C.Nodup)(h400:C.length<=400)(hsz:l≠[]->sz=20)(hl4:l.length<=400)(hcnt:∀e∈l,lw e.2.2.1<=400)(hkey:∀c∈C,cZ (am l) c=true)
 (hH:HQ ao ln cp C gP bD gR gS (List.replicate C.length (.slice none 0 0)) (List.replicate C.length (.slice none 0 0)) (List.replicate C.length []) (List.replicate C.length []) H) (h1:HoldH ba 118 ⟨Kno.rd (.slice ao ln cp) (.l 3 (C.map aa)),fun _=>true,#[],m,w⟩ H (aq [(0,.sl nl sz (l.map cj) none),(3,.fm (ksI (am l)) (vsI (am l))),(4,.x (.p bD))] []) a w1):
 uZ.wpIn (bg none) 0 ba.P (fun e a' w'=>(e=Exit.normal∨e=Exit.ret)∧∃P' st',Hold ba 118 1 ⟨Kno.top,fun _=>true,#[],m,w⟩ P' st' a' w'∧eX ba st' f30.results.toList=some (za (C,(fN l C C.length).1,(fN l C C.length).2))) a w1:=by
 have hE:=fc;have hm:=me;refine wpIn_seq (wpIn_seq (wpIn_region ?_));obtain⟨fs,fd,f1,f2,f3,f4⟩:=ku 0 A0c;have t4:a.eval (.tmp 4)=(.p bD):=h1.read_x 4 A0i;have hbD:=h1.at hH.d;refine c8 (i:=0) (rest:=[1,2,3,4,5]) (d:=54) rfl (fun c e=>by cases e) rfl A0c rfl rfl h1 (bE rfl t4) ?_;intro a1 h6;refine c8 (i:=1) (rest:=[2,3,4,5]) (d:=55) rfl (fun c e=>by cases e) rfl A0c rfl rfl h6 (dK (p:=⟨bD,0,none⟩) rfl (h6.read_x 54 (v:=(.p bD)) A0i)) ?_;intro a2 h7;refine c8 (i:=2) (rest:=[3,4,5]) (d:=56) rfl (fun c e=>by cases e) rfl A0c rfl rfl h7 (ce rfl f1 f2 f4 A0c (h7.read_x 55 (v:=(.p bD)) A0i) (by rw[f3])) ?_;intro a3 h8;refine c8 (i:=3) (rest:=[4,5]) (d:=57) rfl (fun c e=>by cases e) rfl A0c rfl rfl h8 (cG (v:= .slice ao ln cp) rfl A0a (h8.read_x 56 (v:=(.p bD)) A0i) ((Box.cell hbD _).trans rfl)) ?_;intro a4 h9;have h10:=h9.know (d:=57) (u:= .l 3 (C.map aa)) A0c (fun m hk=>by rw[show a4.tmps.getD 57 undef= .slice ao ln cp from h9.read_x 57 A0i];exact hk)
 rw[dV] at h10;refine uE hE 4 2 [(0,.sl nl sz (l.map cj) none),(3,.fm (ksI (am l)) (vsI (am l))),(4,.x (.p bD)),(57,.l 3 (C.map aa)),(58,.i C.length),(59,.i (0:Nat))] [] [] A0c A0a A0a h10 A0E ?_;intro a w6 h6;refine wpIn_block ?_;refine cI (X:={i:Nat//i<=C.length}) (fun i a' w'=>∃H vR vS,HQ ao ln cp C gP bD gR gS vR vS (fN l C i.1).1 (fN l C i.1).2 H∧HoldH ba 118 ⟨Kno.rd (.slice ao ln cp) (.l 3 (C.map aa)),fun _=>true,#[],m,w⟩ H (aq [(0,.sl nl sz (l.map cj) none),(3,.fm (ksI (am l)) (vsI (am l))),(4,.x (.p bD)),(57,.l 3 (C.map aa)),(58,.i C.length),(59,.i i.1)] []) a' w') (fun i=>C.length-i.1) ⟨0,adN _⟩ ⟨H,_,_,hH,h6⟩ ?_;rintro⟨i,hi0⟩ a w6 ⟨H,vR,vS,hH,h1⟩;simp only at hi0 hH h1⊢;by_cases hi:i<C.length
 . have c1:decide ((i:Int)<C.length)=true:=ac0 A0b;have c4:=ax (i:=i) A0b;have q1:C[i]?=some C[i]:=io hi;refine wpIn_seq (g9 hE hm [(0,.sl nl sz (l.map cj) none),(3,.fm (ksI (am l)) (vsI (am l))),(4,.x (.p bD)),(57,.l 3 (C.map aa)),(58,.i C.length),(59,.i i),(60,.bool true)] [] A0a A0a h1 A0r ?_);intro a w6 h1;refine wpIn_seq (g9 hE hm [(0,.sl nl sz (l.map cj) none),(3,.fm (ksI (am l)) (vsI (am l))),(4,.x (.p bD)),(57,.l 3 (C.map aa)),(58,.i C.length),(59,.i i)] [] A0a A0a h1 A0l ?_);intro a w6 h1;refine wpIn_seq (YL hn q1 h400 hsz hl4 hcnt (hkey _ (adR hi)) hH h1 ?_);intro a w6 H2 vR2 vS2 hH2 h1;refine g9 hE hm [(0,.sl nl sz (l.map cj) none),(3,.fm (ksI (am l)) (vsI (am l))),(4,.x (.p bD)),(57,.l 3 (C.map aa)),(58,.i C.length),(59,.i (i+1:Nat))] [] A0a A0a h1 A0G ?_;intro a8 w8 h8;exact⟨⟨i+1,hi⟩,⟨H2,vR2,vS2,hH2,h8⟩,by simp only;omega⟩
 . have c1:decide ((i:Int)<C.length)=false:=Io A0b;have e:i=C.length:=A0b
   subst e;refine wpIn_seq (g9 hE hm [(4,.x (.p bD)),(60,.bool false)] [] A0a A0a h1 A0r ?_);intro a w6 h1;refine wpIn_seq (Pu hE hm 2 [(4,.x (.p bD))] [] A0a A0a h1 A0l ?_);intro a w6 h1;refine wpIn_seq (g9 hE hm [(2,.x (.p bD))] [] A0a A0a h1 A0l ?_);intro a w6 h1;have e2:a.tmps.getD 2 undef=(.p bD):=h1.read_x 2 A0i;have h2:Hold ba 118 1 ⟨Kno.rd (.p bD) (za (C,(fN l C C.length).1,(fN l C C.length).2)),fun _=>true,#[],m,w⟩ [] (aq [(2,.x (.p bD))] []) a w6:=HoldH.done h1 (fun m hm hk=>Hx hH (fun g ob h=>h1.at h) hm hk);obtain⟨m2,O2,gs,r1,r2,r3,r4,r5,r6,r7⟩:=h2;have r8:=r1.learn (d:=2) A0c (u:=(za (C,(fN l C C.length).1,(fN l C C.length).2))) (by rw[e2];exact r6);exact wpIn_ret ⟨.inr rfl,[],_,⟨m2,O2,gs,r8,r2,r3,r4,r5,trivial,r7⟩,by simp +decide only[go_sem,ba,za]⟩
theorem CK:∀n:Nat,n<=l.length->cZ (am (l.take n)) c=true->∃e∈l,e.1=c:=by
 intro n
 induction n with
 |zero=>intro _ h;simp[am,lA,cZ,je] at h
 | succ n ih=>
   intro hn h;have q1:l[n]?=some l[n]:=io A0b;have e:am (l.take (n+1))=gV (am (l.take n)) (l[n]).1 (n:Int):=by unfold am;rw[aF q1,fv,adz,adi,aeZ A0b]
   rw[e] at h;by_cases hc:c=(l[n]).1
   . exact⟨_,adR _,hc.symm⟩
   . exact ih A0b (u6 _ _ _ _ hc h)
theorem tu(h:c∈(am l).map fun p=>p.1):∃e∈l,e.1=c:=
 CK l.length (adp _) (by rw[aei];exact dO.2 h)
theorem eh(L:List CI):(cz L).Nodup:=(nc L).imp fun {a b} h e=>by subst e;rw[bQ.irr] at h;cases h
def Mc(p:ES):Prop:=Lq p∧∀e∈p.2.2,e.1.1.size<=281474976710656
def bi(l:List En):PD:=(cz (am l),(fN l (cz (am l)) (cz (am l)).length).1,(fN l (cz (am l)) (cz (am l)).length).2)
open Classical in
def YN(p:ES):Option V:=if Mc p then some (za (bi p.2.2)) else none
theorem zu(h:l.length<=400):(am l).length<=400:=by
 have:=eu (l':=l.map fun e=>e.1) (kQ l) (fun c hc=>by obtain⟨e,he,rfl⟩:=tu hc;exact ads.2 ⟨e,he,rfl⟩)
 simp only[eq] at this;omega
theorem zw(h:l.length<=400):(cz (am l)).length<=400:=by have h1:=zu h;have:=eu (l':=(am l).map fun p=>p.1) (eh _) (fun c hc=>(jg _ _).1 hc);rw[eq] at this;omega
theorem Md:cg 30 (FE cd YN):=by
 refine xU (E:=ba) (n:=118) (sz:=1) (k:=1) func30 rfl (fun a w=>call30 a w) ntmps30 A0c A0c ?_;intro us r m w a hF hdat h0;obtain⟨⟨nl,sz,l⟩,hus,hG⟩:=bh hF;subst hus;unfold YN at hG;split at hG
 case isFalse=>cases hG
 rename_i hok;cases hG;obtain⟨⟨hsz,hl4,hcnt⟩,hs8⟩:=hok;simp only at hsz hl4 hcnt hs8;replace h0:=h0 rfl;refine⟨rfl,?_⟩;have h400:=zw hl4;have hn:=eh (am l);have hso:LY (am l):=⟨kQ l,zu hl4,fun p hp=>by obtain⟨e,he,h⟩:=tu (l:=l) (c:=p.1) (ads.2 ⟨p,hp,rfl⟩);rw[<-h];exact hs8 e he⟩
 refine YF (nl:=nl) (sz:=sz) (l:=l) ⟨hsz,hl4⟩ hs8 rfl h400 hn hso h0 (fun v15 gP bD H a' w' hHP h=>?_);obtain⟨ao,ln,cp,rfl⟩:∃ao ln cp,v15= .slice ao ln cp:=by obtain⟨m',O',_,_,_,_,q6,_⟩:=h;exact zh q6
 refine YG h400 hHP h (fun gR gS H' a2 w2 hHQ h2=>?_);exact YM hn h400 hsz hl4 hcnt (fun c hc=>dO.2 ((jg _ _).1 hc)) hHQ h2

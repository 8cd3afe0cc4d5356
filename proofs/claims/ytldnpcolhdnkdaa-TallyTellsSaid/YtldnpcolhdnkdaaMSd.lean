/- Sorting cells: the exchange, the comparison, breakPatterns. -/
import Derived.Shelf.SlSortFuncK.BreakPatternsK
import Derived.Sort.Grow
import Derived.Test.YtldnpcolhdnkdaaShelf
import Derived.Test.YtldnpcolhdnkdaaMSc
import Derived.Test.YtldnpcolhdnkdaaMSt
import Derived.Shelf.GgSortFunc.Tiny
import Derived.Shelf.GgSortFunc.Slice
import Derived.Shelf.GgSortFunc.SmallK
namespace Go.Proofs.Ytldnpcolhdnkdaa
set_option linter.unusedSimpArgs false
set_option maxHeartbeats 8000000
set_option maxRecDepth 100000
open Go Go.RowKit
open Go.Sort (swp)
open Go.Sort (putRowK HoldsK flatK)
attribute [go_sem] Try.results15
theorem cG (d:Array Ch):am d=(d.toList.flatMap d7).map V.x:=by
 unfold am;generalize d.toList=l
 induction l with
 |nil=>rfl
 |cons p l ih=>rw[Qq,Qq,Qj,ih];rfl
theorem oc:∀(l:List Ch) (t:Nat),(l.flatMap d7)[t]?=(l[t/4]?).map fun p=>(d7 p)[t%4]!
 |[],t=>by simp
 | p ::l,t=>by
   rw[Qq];rcases Ql t 4 with h|h
   . rw[PT (by show t<4;exact h),Nat.div_eq_of_lt h,Ss h];have:t=0∨t=1∨t=2∨t=3:=by omega
     rcases this with rfl|rfl|rfl|rfl<;>rfl
   . rw[P6 (by show 4<=t;exact h)];show(l.flatMap d7)[t-4]?=_;obtain⟨u,rfl⟩:∃u,t=u+4:=⟨t-4,by omega⟩;rw[Nat.add_sub_cancel,oc l u,show(u+4)/4=u/4+1 from by omega,show(u+4)%4=u%4 from by omega,RA]
theorem k9 (d:Array Ch):(flatK d7 4 d).toList=d.toList.flatMap d7:=by
 apply QI;intro t;rw[oc];unfold flatK;rw[PN,Array.getElem?_map,PN];rcases Ql t (d.size*4) with h|h
 . have h3:t/4<d.size:=by omega
   rw[R4,PO h,PW h3];simp[h3]
 . rw[R4,PS (by omega),Rr (by omega)];rfl
theorem fX {m:Lim} {w:World}:∀{xs l:List Value},RdL m w xs (l.map V.x)->xs=l
 |[],[],_=>rfl
 |x::xs,y::l,h=>by have h1:Rd m w x (.x y):=h.1;cases h1;rw[fX h.2]
theorem gM {m:Lim} {w:World}:∀l:List Value,RdL m w l (l.map V.x)
 |[]=>trivial
 |_::l=>⟨.x _,gM l⟩
variable {m:Lim} {w:World} {d:Array Ch}
theorem fe {blk:Nat} (h:BoxAt m w blk (am d)):HoldsK d7 4 w blk 0 d:=by
 obtain⟨_,vals,ty,xs,rest,hh,hv,hr⟩:=h;rw[cG] at hr;have hx:=fX hr;subst hx;intro j hj;have hlen:(flatK d7 4 d).size=d.size*4:=by simp[flatK]
 have e:vals[j]?=(flatK d7 4 d)[j]?:=by rw[<-PN,hv,<-k9,PT (by simpa using hj),PN]
 have hjs:j<vals.size:=by have h1:=RB List.length hv;rw[<-k9] at h1;simp only[PR,PP] at h1;omega
 refine⟨?_,?_⟩
 . rw[Qn,Box.cell hh,e,PW hj];exact RB some (Rp _ j hj).symm
 . have hok:=ty.ok;have hh':w.heap[blk]?=some (.cells vals ty.ty (ty.fz.1,ty.fz.2)):=hh;generalize ty.fz.1=f1 at hh' hok;generalize ty.fz.2=f2 at hh' hok;simp only[World.frozen?,hh',So,Ra];rcases hok with h2|h2
   . right;omega
   . left;omega
variable {n:Nat} {os:Array Obj} {cur:Array Value} {ty:TypeId}
theorem ph {w1:World} {g:Nat} {d:Array Value} {fr:Nat×Nat} (hh:w1.heap[g]?=some (.cells cur ty fr)):
 (Go.Sort.grow (Go.Sort.putRow id (Go.Sort.ahead w1 n) g 0 d) os).heap[g]?=some (.cells (Go.Sort.putCells id 0 d cur) ty fr)∧∀k,k<w1.heap.size->k≠g->(Go.Sort.grow (Go.Sort.putRow id (Go.Sort.ahead w1 n) g 0 d) os).heap[k]?=w1.heap[k]?:=by
 have hsz:(Go.Sort.putRow id (Go.Sort.ahead w1 n) g 0 d).heap.size=w1.heap.size:=by simp[Go.Sort.putRow,Go.Sort.mapBlock,Go.Sort.ahead]
 refine⟨?_,fun k hk hn=>?_⟩
 . rw[Go.Sort.heap_grow_old _ _ (by rw[hsz];exact al hh)];show(w1.heap.modify g (Go.Sort.onCells (Go.Sort.putCells id 0 d)))[g]?=_;rw[QY,PO rfl,hh];rfl
 . rw[Go.Sort.heap_grow_old _ _ (by rw[hsz];exact hk)];show(w1.heap.modify g (Go.Sort.onCells (Go.Sort.putCells id 0 d)))[k]?=_;rw[QY,PS (fun e=>hn e.symm)]
theorem kO {blk:Nat} {d':Array Ch} (h:BoxAt m w blk (am d)) (hs:d'.size=d.size):
 BoxAt m (Go.Sort.grow (putRowK d7 4 (Go.Sort.ahead w n) blk 0 d') os) blk (am d')∧Bel [blk] w (Go.Sort.grow (putRowK d7 4 (Go.Sort.ahead w n) blk 0 d') os)∧Ext m w m (Go.Sort.grow (putRowK d7 4 (Go.Sort.ahead w n) blk 0 d') os):=by
 obtain⟨hlim,vals,ty,xs,rest,hh,hv,hr⟩:=h;rw[cG] at hr;have hx:=fX hr;subst hx;have hfl:(flatK d7 4 d').size=d.size*4:=by simp[flatK,hs]
 have hvl:d.size*4<=vals.size:=by
  have h1:=RB List.length hv;rw[<-k9] at h1;have h2:(flatK d7 4 d).size=d.size*4:=by simp[flatK]
  simp only[PR,PP] at h1;omega
 have hsz:w.heap.size<=(Go.Sort.grow (putRowK d7 4 (Go.Sort.ahead w n) blk 0 d') os).heap.size:=by simp[putRowK,Go.Sort.putRow,Go.Sort.mapBlock,Go.Sort.grow,Go.Sort.ahead]
 obtain⟨r1,r2⟩:=ph (w1:=w) (n:=n) (d:=flatK d7 4 d') (os:=os) hh;have hbel:Bel [blk] w (Go.Sort.grow (putRowK d7 4 (Go.Sort.ahead w n) blk 0 d') os):=⟨rfl,rfl,rfl,hsz,fun k hk hn=>r2 k hk (by simpa using hn)⟩;refine⟨⟨hlim,_,ty.to (by simp[Go.Sort.putCells]),(flatK d7 4 d').toList,vals.toList.drop (d.size*4),r1,?_,?_⟩,hbel,⟨hsz,fun b off v hb hm hc=>?_,fun b hb fr hf=>⟨fr,hf,PB _⟩,fun b es c hm hc=>(r2 b (du hc) (fun e=>by rw[e,hlim] at hm;cases hm)).trans hc⟩⟩
 . apply QI;intro j;rw[PN,Go.Sort.putCells,Array.getElem?_mapIdx];rcases Ql j (d.size*4) with h|h
   . rw[PT (by simpa[hfl] using h),PW (by omega),PN,PW (by omega)];simp[hfl,h]
   . rw[P6 (by simpa[hfl] using h),Qm];simp only[PR,hfl];rw[show d.size*4+(j-d.size*4)=j from by omega,PN];cases vals[j]? with
     |none=>rfl
     |some v=>simp only[Qd];rw[PS (by omega)]
 . rw[cG,k9];exact gM _
 . by_cases e:b=blk
   . subst e;exact absurd (hm 0 hlim) (Ro _)
   . exact(aT (j:=off) (r2 b hb e)).trans hc
variable {vs:Array Value} {p:Value} {bs gs hs:List Nat} {a b c:V}
theorem rO {K:Nat} (h:ArgsP m w K (vs.toList++[p]) [a,b,c] bs gs hs):∃v1 v2,vs= #[v1,v2]:=by
 have hl:=h.len;simp only[PP,PR,P5,Qk] at hl;obtain⟨l⟩:=vs
 match l,hl with
 |[v1,v2],_=>exact⟨v1,v2,rfl⟩
theorem uS {K:Nat} {d:V} (h:ArgsP m w K (vs.toList++[p]) [a,b,c,d] bs gs hs):∃v1 v2 v3,vs= #[v1,v2,v3]:=by
 have hl:=h.len;simp only[PP,PR,P5,Qk] at hl;obtain⟨l⟩:=vs
 match l,hl with
 |[v1,v2,v3],_=>exact⟨v1,v2,v3,rfl⟩
section
variable {G:Nat->V} {bk N:Nat} {g sf:FuncId} {gl gs:Array Value}
theorem CF (hsw:SwapSwapsK Try.prog sf gs d7 4 bk 0 N):FunXVS4 G bk sf gs.toList (FE en2S4 (GSwpS4 N)):=by
 intro m w vs us bs gs' hs r outs hF hargs hnd hhnd hj hg;obtain⟨⟨i,j,d⟩,hus,hG⟩:=aZ hF;subst hus;unfold GSwpS4 at hG;obtain⟨⟨hi,hjj,hd⟩,hG⟩:=aI hG;simp only at hi hjj hd;cases hG;obtain⟨v1,v2,rfl⟩:=rO hargs;simp only[en2S4] at hargs;cases hargs with
 | dat hr1 hd1 h1=>
   cases h1 with
   | dat hr2 hd2 h2=>
     cases h2 with
     |dat hr3 hd3 h3=>cases hd3
     | bx hb hK h3=>
       cases h3;cases hr1;cases hr2;have hH:=fe hb;have hrun:=hsw w d hH hd i j hi hjj;have hw:w=(putRowK d7 4 (Go.Sort.ahead w 0) bk 0 d).drewN 0:=by rw[Go.Sort.ahead_zero,Go.Sort.putRowK_self d7 4 w bk 0 d hH];rfl
       have hsw2:=Go.Sort.swap_worldK d7 4 (fun _=>rfl) w 0 0 bk 0 d i j (by omega) (by omega);rw[<-hw] at hsw2;rw[hsw2] at hrun;have hgr:putRowK d7 4 (Go.Sort.ahead w (0+0)) bk 0 (swp d i j)=Go.Sort.grow (putRowK d7 4 (Go.Sort.ahead w 0) bk 0 (swp d i j)) #[]:=by rw[Go.Sort.grow_empty]
       rw[hgr] at hrun;obtain⟨b1,b2,b3⟩:=kO (n:=0) (os:= #[]) hb (aN d i j);refine .inr ⟨_,_,hrun,m,.tup #[] [] rfl (fun i v u h=>by simp at h),b2,b3,fun _ _ _=>rfl,⟨[am (swp d i j)],[],by simp,⟨b1,trivial⟩,trivial⟩,fun sz es k e=>by cases e⟩
theorem Fz (hN:N<=MXS4) (hsw:SwapSwapsK Try.prog sf gs d7 4 bk 0 N):FunXVS4 G bk 46 [] (FE (bt g sf gl gs) (iT N)):=by
 intro m w vs us bs gs' hs r outs hF hargs hnd hhnd hj hg;obtain⟨⟨a,b,d⟩,hus,hG⟩:=aZ hF;subst hus;unfold iT at hG;obtain⟨⟨hab,hbN,hd⟩,hG⟩:=aI hG;simp only at hab hbN hd;cases hG;obtain⟨v1,v2,v3,rfl⟩:=uS hargs;simp only[bt] at hargs;cases hargs with
 | dat hr1 hd1 h1=>
   cases h1 with
   | dat hr2 hd2 h2=>
     cases h2 with
     | dat hr3 hd3 h3=>
       cases h3 with
       |dat hr4 hd4 h4=>cases hd4
       | bx hb hK h4=>
         cases h4;cases hr2;cases hr3;obtain⟨cs,rfl,hcs⟩:=Rd.agg_iff.1 hr1;have e:cs= #[.func (.func g) #[] gl,.func (.func sf) #[] gs]:=by apply Qe.1;exact fX (l:=[.func (.func g) #[] gl,.func (.func sf) #[] gs]) hcs
         subst e;have hH:=fe hb;have hblk:bk<w.heap.size:=by obtain⟨_,_,_,_,_,hhb,_⟩:=hb;exact al hhb
         have hc:=Any.breakPatterns_func_cells_w (P:=Try.prog) (ρ:=Try.laysGg14_ren) {Try.laysGg14 with} d7 4 (fun _=>rfl) (.func g) #[] gl sf gs bk 0 a b d w (by rw[hd];exact hsw) hH hblk hab (by omega) (by unfold MXS4 at hN;omega);change Calls Try.prog 46 _ _ _ at hc;refine .inl ⟨Try.call46 _ _,?_⟩;rw[show(#[Value.agg #[.func (.func g) #[] gl,.func (.func sf) #[] gs],.int .i64 (a:Int),.int .i64 (b:Int)]++(⟨[]⟩:Array Value))= #[.agg #[.func (.func g) #[] gl,.func (.func sf) #[] gs],.int .i64 (a:Int),.int .i64 (b:Int)] from RH];refine hc.mono ?_;rintro e w' ⟨rfl,n,os,rfl⟩;obtain⟨b1,b2,b3⟩:=kO (n:=n) (os:=os) hb ((Go.Sort.breakPatterns_holds d a b hab (by omega)).1);exact⟨_,rfl,m,.tup #[] [] rfl (fun i v u h=>by simp at h),b2,b3,fun _ _ _=>rfl,⟨[am (Go.Sort.breakPatterns d a b)],[],by simp,⟨b1,trivial⟩,trivial⟩,fun sz es k e=>by cases e⟩
end
def wh:List V->Option V
 | [.x (.int .i64 i),.x (.int .i64 j),.ip [.sl false 4 es none]]=>match es[i.toNat]?,es[j.toNat]? with
   |some (.agg [.x (.int .i64 a),.x (.int .i64 b),.x (.int .i64 c),.x (.int .i64 _)]),some (.agg [.x (.int .i64 a'),.x (.int .i64 b'),.x (.int .i64 c'),.x (.int .i64 _)])=>if 0<=i∧0<=j then some (.x (.bool (dm a b c a' b' c'))) else none
   |_,_=>none
 |_=>none
theorem rP:ij 15 wh:=by
 refine cn (E:=bf [(16,bm)]) (k:=3) (di _ ⟨nN,trivial⟩) (by kernel_rfl) Try.func15 rfl (fun a w=>Try.call15 a w) Try.ntmps15 (by kernel_rfl) (by decide) (by decide) ?_;intro us r hF hdat;unfold wh at hF;split at hF
 case h_2=>cases hF
 rename_i i j es;split at hF
 case h_2=>cases hF
 rename_i s c r n s' c' r' n' hi hj;obtain⟨⟨h0,h1⟩,hF⟩:=aI hF;cases hF;refine⟨rfl,?_⟩;have e1:bm [.agg [.x (.int .i64 s),.x (.int .i64 c),.x (.int .i64 r)],.agg [.x (.int .i64 s'),.x (.int .i64 c'),.x (.int .i64 r')]]=some (.x (.bool (dm s c r s' c' r'))):=rfl;simp +decide (maxDischargeDepth:=200) only[go_sem,h0,h1,hi,hj,e1]
open Go.Sort (putRowK HoldsK flatK PermIn SortedIn)
theorem yT (p q:Ch):ai p q=dm p.1.1 p.1.2.1 p.1.2.2 q.1.1 q.1.2.1 q.1.2.2:=rfl
theorem CG {l:List Ch} {i:Nat} {p:Ch} (h:l[i]?=some p):(l.map cD)[(i:Int).toNat]?=some (.agg [.x (.int .i64 p.1.1),.x (.int .i64 p.1.2.1),.x (.int .i64 p.1.2.2),.x (.int .i64 p.2)]):=by rw[io,PF,h];rfl
variable {bk Bk cap:Nat}
theorem yU {N:Nat} (hb:BoxAt m w bk (am d)) (hd:d.size=N) (hcap:N<=cap) (hB:Rd m w (.pointer (some ⟨Bk,0,none⟩)) (.ip [.x (.slice (some ⟨bk,0,none⟩) N cap)])):Rd (fun _=>none) w (.pointer (some ⟨Bk,0,none⟩)) (.ip [.sl false 4 (d.toList.map cD) none]):=by
 have hH:=fe hb;have hblk:bk<w.heap.size:=by obtain⟨_,_,_,_,_,hhb,_⟩:=hb;exact al hhb
 have hlen:(flatK d7 4 d).size=d.size*4:=by simp[flatK]
 have hl:(d.toList.map cD).length=N:=by simpa using hd
 have hsl:Rd (fun _=>none) w (.slice (some ⟨bk,0,none⟩) (d.toList.map cD).length cap) (.sl false 4 (d.toList.map cD) none):=by
  refine .sl bk 0 cap 4 _ none (fun k=>(flatK d7 4 d)[k]!) hblk (by omega) (fun i e he=>?_) (fun k hk=>?_) (fun fr hf=>by cases hf) (fun i e he j dd hj=>?_)
  . rw[PF] at he;obtain⟨p,_,rfl⟩:=PK.1 he;rfl
  . exact(hH k (by rw[hlen];simp at hk;omega)).1
  . rw[PF] at he;obtain⟨p,hp,rfl⟩:=PK.1 he;have hil:i<d.size:=by simpa using(PE.1 hp).1
    have hdi:d[i]! =p:=by rw[Io (by simpa using hil)] at hp;rw[Rp d i hil];simpa using hp
    have hj3:j<4:=(PE.1 hj).1;have e:(flatK d7 4 d)[i*4+j]! =(d7 p)[j]! :=by rw[Go.Sort.get_flatK _ _ _ _ (by omega),show(i*4+j)/4=i from by omega,show(i*4+j)%4=j from by omega,hdi]
    show Rd _ w ((flatK d7 4 d)[i*4+j]!) dd;rw[e];have:j=0∨j=1∨j=2∨j=3:=by omega
    rcases this with rfl|rfl|rfl|rfl<;>(cases hj;exact .x _)
 rw[hl] at hsl;cases hB with
 | ip blk off cs c hbB hc hm hr=>
   have h0:Rd m w (c 0) (.x (.slice (some ⟨bk,0,none⟩) N cap)):=hr 0 _ rfl;have hc0:=Rd.x_iff.1 h0;refine .ip Bk 0 _ c hbB (fun k hk=>hc k hk) (fun fr hf=>by cases hf) (fun k dd hk=>?_);cases k with
   |zero=>cases hk;rw[hc0];exact hsl
   |succ k=>simp at hk
section
variable {G:Nat->V} {bk Bk N cap:Nat}
theorem CH (hcap:N<=cap) (hG:G Bk= .ip [.x (.slice (some ⟨bk,0,none⟩) N cap)]):FunXVS4 G bk 15 [.pointer (some ⟨Bk,0,none⟩)] (FE en2S4 (GLessS4 N)):=by
 intro m w vs us bs gs' hs r outs hF hargs hnd hhnd hj hg;obtain⟨⟨i,j,d⟩,hus,hGl⟩:=aZ hF;subst hus;unfold GLessS4 at hGl;obtain⟨⟨hi,hjj,hd⟩,hGl⟩:=aI hGl;simp only at hi hjj hd;cases hGl;obtain⟨v1,v2,rfl⟩:=rO hargs;simp only[en2S4] at hargs;cases hargs with
 | dat hr1 hd1 h1=>
   cases h1 with
   | dat hr2 hd2 h2=>
     cases h2 with
     |dat hr3 hd3 h3=>cases hd3
     | bx hb hK h3=>
       cases h3;cases hr1;cases hr2;have hB:Rd m w (.pointer (some ⟨Bk,0,none⟩)) (.ip [.x (.slice (some ⟨bk,0,none⟩) N cap)]):=by have:=hg Bk;have e:(cB G (fun _ _=>none) 0).G Bk= .ip [.x (.slice (some ⟨bk,0,none⟩) N cap)]:=hG;rw[e] at this;exact this
       have hip:=yU hb hd hcap hB;obtain⟨p,hp⟩:∃p,d.toList[i]?=some p:=⟨_,Io (by simpa using(show i<d.size by omega))⟩;obtain⟨q,hq⟩:∃q,d.toList[j]?=some q:=⟨_,Io (by simpa using(show j<d.size by omega))⟩;have hat:∀(k:Nat) (p:Ch),k<d.size->d.toList[k]?=some p->d[k]! =p:=fun k p hk h=>by rw[Io (by simpa using hk)] at h;rw[Rp d k hk];simpa using h
       have hpe:=hat i p (by omega) hp;have hqe:=hat j q (by omega) hq;have hFL:wh [.x (.int .i64 (i:Int)),.x (.int .i64 (j:Int)),.ip [.sl false 4 (d.toList.map cD) none]]=some (.x (.bool (ai d[i]! d[j]!))):=by rw[hpe,hqe,yT];simp only[wh,CG hp,CG hq];rw[PO ⟨by omega,by omega⟩]
       have hcalls:=rP.2 (fun _=>none) w #[.int .i64 (i:Int),.int .i64 (j:Int),.pointer (some ⟨Bk,0,none⟩)] _ _ hFL rfl ⟨.x _,.x _,hip,trivial⟩ hj (fun g=> .undef _);refine .inl ⟨rP.1 _ _,?_⟩;refine hcalls.mono ?_;rintro e w' ⟨v,m',rfl,hv,hbel,_⟩;cases hv;have hblk:bk<w.heap.size:=by obtain⟨_,_,_,_,_,hhb,_⟩:=hb;exact al hhb
       have hbx:BoxAt m w' bk (am d):=by obtain⟨hlim,vals,ty,xs,rest,hh,hv,hr⟩:=hb;rw[cG] at hr;have hx:=fX hr;subst hx;exact⟨hlim,vals,ty,_,rest,(hbel.block bk hblk).trans hh,hv,by rw[cG];exact gM _⟩
       exact⟨_,rfl,m,.x _,⟨hbel.os,hbel.tape,hbel.output,hbel.size,fun k hk _=>hbel.block k hk⟩,Ext.of_below hbel (fun _ _=>rfl),fun _ _ _=>rfl,⟨[am d],[],by simp,⟨hbx,trivial⟩,trivial⟩,fun sz es k e=>by cases e⟩
end
noncomputable def dB:TypeInfo:=(Try.prog.info? 34).get (by kernel_rfl)
noncomputable def eS:TypeInfo:=(Try.prog.info? 26).get (by kernel_rfl)
theorem Gp (n:Nat) (h:2<=n):Lib.swapperK n dB 25=9:=by
 have a:dB.hasPointers=false:=by kernel_rfl
 have b:dB.bytes=32:=by kernel_rfl
 have c:(n==0)=false:=by simp;omega
 have d:(n==1)=false:=by simp;omega
 simp[Lib.swapperK,a,b,c,d]
theorem FA {blk:Nat} {tyB:TypeId} {frB:Nat×Nat} (hh:w.heap[blk]?=some (.cells cur ty (0,0))) (hcur:∃rest,cur.toList=d.toList.flatMap d7++rest) {vals:Array Value} (hB:w.heap[Bk]?=some (.cells vals tyB frB)) (hB0:vals[0]?=some (.slice (some ⟨blk,0,none⟩) d.size cap)) (hne:Bk≠blk) (hcap:d.size<=cap) (hN:d.size<=MXS4) (hK:iy<=blk) (hj:(bf []).J w):
 Calls Try.prog 14 #[.iface 26 (.slice (some ⟨blk,0,none⟩) d.size cap),.func (.func 15) #[] #[.pointer (some ⟨Bk,0,none⟩)]] w fun e w'=>e= .returned (.tuple #[])∧∃d':Array Ch,PermIn 0 d.size d d'∧SortedIn ai 0 d.size d'∧Bel [blk] w w'∧∃m',BoxAt m' w' blk (am d'):=by
 have hi:Try.prog.info? 26=some eS:=by kernel_rfl
 have hdd:eS.desc= .slice 34:=by kernel_rfl
 have hie:Try.prog.info? 34=some dB:=by kernel_rfl
 have hke:∀w,(Extern.Rtype.kind 34).run Try.prog w= .ok 25 w:=fun _=>by kernel_rfl
 obtain⟨rest,hcur⟩:=hcur;have hN1:d.size<=1000000:=hN;let m:Lim:=fun b=>if b=blk then some 0 else none
 have hbx:∀w2:World,w2.heap[blk]?=w.heap[blk]?->BoxAt m w2 blk (am d):=fun w2 e=>⟨PO rfl,cur,.plain ty,_,rest,e.trans hh,hcur,by rw[cG];exact gM _⟩
 have hblk:=al hh;have hBk:=al hB;by_cases h2:2<=d.size
 . let G:Nat->V:=fun b=>if b=Bk then .ip [.x (.slice (some ⟨blk,0,none⟩) d.size cap)] else .undef
   have hG:G Bk= .ip [.x (.slice (some ⟨blk,0,none⟩) d.size cap)]:=PO rfl;have hx:∀args W,(callFunc 41 args).run Try.prog W=((Extern.ReflectliteSwapper.swap false args).run Try.prog W).andThen fun v w'=> .ok (.value v) w':=fun args W=>run_callFunc_extern Try.func41 (by kernel_rfl) (by kernel_rfl) (by kernel_rfl) (e:=Extern.ReflectliteSwapper.swap false) (by kernel_rfl) args W
   have hsw:=swapSwapsK_of_literal (P:=Try.prog) false 41 hx 34 dB hie d7 4 (fun _=>rfl) (by kernel_rfl) (fun _=>by kernel_rfl) (fun p v hv=>by simp only[d7,PY,R9,or_false] at hv;rcases hv with rfl|rfl|rfl|rfl<;>rfl) blk 0 d.size cap
   have hS:SoOKS4 G blk d.size 15 41 #[.pointer (some ⟨Bk,0,none⟩)] #[.slice (some ⟨blk,0,none⟩) d.size cap,typeHandle Try.prog 34]:=⟨by simp,by simp,by decide,hN,CH hcap hG,CF hsw⟩;have hP:=Fy hS (Fz hN hsw) (d.size+1);refine Any.sort_Slice_of_pdq (P:=Try.prog) (ρ:=Try.laysGg6_ren) Try.laysGg6 26 34 eS dB hi hdd (by kernel_rfl) hie 25 hke (some ⟨blk,0,none⟩) d.size cap (by unfold MXS4 at hN;omega) 41 (by rw[Gp _ h2];kernel_rfl) (.func 15) #[] #[.pointer (some ⟨Bk,0,none⟩)] w _ ?_;have hsb:sliceBound Try.prog 34 dB 25 (some ⟨blk,0,none⟩) d.size cap= #[.slice (some ⟨blk,0,none⟩) d.size cap,typeHandle Try.prog 34]:=by unfold sliceBound;rw[Gp _ h2];rfl
   rw[hsb];generalize hW:sliceWorld Try.prog Try.laysGg6_ren 26 (some ⟨blk,0,none⟩) d.size cap w=W;have hbel:Below w.heap.size w W:=by rw[<-hW];unfold sliceWorld;exact((Below.refl _ w).alloc (PB _) _).alloc (by simp) _
   have hjW:(bf []).J W:=Glob.low hj hbel.size ⟨hbel.os,hbel.tape,hbel.output,hbel.size,fun k hk=>hbel.block k (Qf hk (Glob.high hj))⟩;have hb:=hbx W (hbel.block blk hblk);have hl62:Lib.bitLen d.size<=62:=Lib.bitLen_le d.size 62 (by omega) (by omega);have hF:=mE (g:=15) (sf:=41) (gl:= #[.pointer (some ⟨Bk,0,none⟩)]) (gs:= #[.slice (some ⟨blk,0,none⟩) d.size cap,typeHandle Try.prog 34]) (N:=d.size) (d.size+1) 0 d.size (Lib.bitLen d.size) d (by omega) (by omega) (PB _) (by omega) rfl (.inl rfl)
   have hargs:ArgsP m W iy [.agg #[.func (.func 15) #[] #[.pointer (some ⟨Bk,0,none⟩)],.func (.func 41) #[] #[.slice (some ⟨blk,0,none⟩) d.size cap,typeHandle Try.prog 34]],.int .i64 ((0:Nat):Int),.int .i64 (d.size:Int),.int .i64 (Lib.bitLen d.size:Int),.pointer (some ⟨blk,0,none⟩)] [bJ 15 41 #[.pointer (some ⟨Bk,0,none⟩)] #[.slice (some ⟨blk,0,none⟩) d.size cap,typeHandle Try.prog 34],.x (.int .i64 ((0:Nat):Int)),.x (.int .i64 (d.size:Int)),.x (.int .i64 (Lib.bitLen d.size:Int)),.bx (am d)] [blk] [] []:=
    .dat (Rd.agg_iff.2 ⟨_,rfl,.x _,.x _,trivial⟩) rfl (.dat (.x _) rfl (.dat (.x _) rfl (.dat (.x _) rfl (.bx hb hK .nil))))
   have hgl:∀g,Rd m W (.pointer (some ⟨g,0,none⟩)) (G g):=fun b=>by
    show Rd m W _ (if b=Bk then _ else _);split
    . rename_i e;subst e;have hBW:=(hbel.block b hBk).trans hB;refine .ip b 0 _ (fun _=> .slice (some ⟨blk,0,none⟩) d.size cap) (al hBW) (fun k hk=>?_) (fun fr hf=>?_) (fun k dd hk=>?_)
      . have:k=0:=by simpa using hk
        subst this;rw[Box.cell hBW];exact hB0
      . have:m b=none:=PS hne;rw[this] at hf;cases hf
      . cases k with
        |zero=>cases hk;exact .x _
        |succ k=>simp at hk
    . exact .undef _
   rcases hP m W #[.agg #[.func (.func 15) #[] #[.pointer (some ⟨Bk,0,none⟩)],.func (.func 41) #[] #[.slice (some ⟨blk,0,none⟩) d.size cap,typeHandle Try.prog 34]],.int .i64 ((0:Nat):Int),.int .i64 (d.size:Int),.int .i64 (Lib.bitLen d.size:Int)] _ [blk] [] [] _ _ hF hargs (by simp) (by simp) hjW hgl with⟨_,hc⟩|⟨v,w',he,_⟩
   . rw[show ∀a:Array Value,a++(⟨[]⟩:Array Value)=a from fun a=>RH] at hc;refine hc.mono ?_;rintro e w' ⟨v,rfl,m',hv,hb2,_,_,⟨o1,o2,ho,hou,_⟩,_⟩;have hs:=Go.Sort.pdq_sorts ai dN d 0 d.size (Lib.bitLen d.size) true true (PH _) (PB _) (.inl rfl);have hvt:v= .tuple #[]:=by obtain⟨cs,rfl,hcs⟩:=Rd.tup_iff.1 hv;have:=hcs.length;simp only[PR,Qk] at this;rw[Rc this]
     subst hvt;refine⟨rfl,_,hs.1,hs.2,⟨hb2.os.trans hbel.os,hb2.tape.trans hbel.tape,hb2.output.trans hbel.output,tl hbel.size hb2.size,fun k hk hn=>(hb2.block k (Qf hk hbel.size) (by simpa using hn)).trans (hbel.block k hk)⟩,m',?_⟩;cases o1 with
     |nil=>exact hou.elim
     |cons c o1=>obtain⟨e,_⟩:=Sv (show[am _]=c::(o1++o2) from ho);rw[e];exact hou.1
   . have he2:=(Try.call27 _ _).symm.trans he;cases he2
 . have hz:d.size=0∨d.size=1:=by omega
   have hf:∃f,Try.prog.funcs.findIdx? (·.name== "internal/reflectlite" ++ ".Swapper$" ++toString (Lib.swapperK d.size dB 25))=some f:=by
    rcases hz with e|e
    . exact⟨33,by rw[e];kernel_rfl⟩
    . exact⟨34,by rw[e];kernel_rfl⟩
   obtain⟨f,hf⟩:=hf;refine(Any.sort_Slice_tiny (P:=Try.prog) (ρ:=Try.laysGg6_ren) Try.laysGg6 26 34 eS dB hi hdd (by kernel_rfl) hie 25 hke (some ⟨blk,0,none⟩) d.size cap (by omega) f hf (.func 15) #[] #[.pointer (some ⟨Bk,0,none⟩)] w).mono ?_;rintro e w' ⟨rfl,os,rfl⟩;refine⟨rfl,d,Go.Sort.permIn_refl d _ _,fun i j _ h1 h3=>by omega,⟨rfl,rfl,rfl,by simp[Go.Sort.grow],fun k hk _=>Go.Sort.heap_grow_old _ _ hk⟩,m,hbx _ (Go.Sort.heap_grow_old _ _ hblk)⟩
theorem FB:Calls Try.prog 14 #[.iface 26 (.slice none 0 0),.func (.func 15) #[] #[.pointer (some ⟨Bk,0,none⟩)]] w fun e w'=>e= .returned (.tuple #[])∧∃os,w'=Go.Sort.grow w os:=by
 have hi:Try.prog.info? 26=some eS:=by kernel_rfl
 have hdd:eS.desc= .slice 34:=by kernel_rfl
 have hie:Try.prog.info? 34=some dB:=by kernel_rfl
 have hke:∀w,(Extern.Rtype.kind 34).run Try.prog w= .ok 25 w:=fun _=>by kernel_rfl
 exact Any.sort_Slice_tiny (P:=Try.prog) (ρ:=Try.laysGg6_ren) Try.laysGg6 26 34 eS dB hi hdd (by kernel_rfl) hie 25 hke none 0 0 (by omega) 33 (by kernel_rfl) (.func 15) #[] #[.pointer (some ⟨Bk,0,none⟩)] w
theorem CI {m0:Lim} (hb:BoxAt m0 w bk (am d)) (hcap:d.size<=cap) (m:Lim) (hm:m bk=none):Rd m w (.slice (some ⟨bk,0,none⟩) d.size cap) (.sl false 4 (d.toList.map cD) none):=by
 have hH:=fe hb;have hblk:bk<w.heap.size:=by obtain⟨_,_,_,_,_,hhb,_⟩:=hb;exact al hhb
 have hlen:(flatK d7 4 d).size=d.size*4:=by simp[flatK]
 have hl:(d.toList.map cD).length=d.size:=by simp
 have hsl:Rd m w (.slice (some ⟨bk,0,none⟩) (d.toList.map cD).length cap) (.sl false 4 (d.toList.map cD) none):=by
  refine .sl bk 0 cap 4 _ none (fun k=>(flatK d7 4 d)[k]!) hblk (by omega) (fun i e he=>?_) (fun k hk=>?_) (fun fr hf=>by rw[hm] at hf;cases hf) (fun i e he j dd hj=>?_)
  . rw[PF] at he;obtain⟨p,_,rfl⟩:=PK.1 he;rfl
  . exact(hH k (by rw[hlen];simp at hk;omega)).1
  . rw[PF] at he;obtain⟨p,hp,rfl⟩:=PK.1 he;have hil:i<d.size:=by simpa using(PE.1 hp).1
    have hdi:d[i]! =p:=by rw[Io (by simpa using hil)] at hp;rw[Rp d i hil];simpa using hp
    have hj3:j<4:=(PE.1 hj).1;have e:(flatK d7 4 d)[i*4+j]! =(d7 p)[j]! :=by rw[Go.Sort.get_flatK _ _ _ _ (by omega),show(i*4+j)/4=i from by omega,show(i*4+j)%4=j from by omega,hdi]
    show Rd _ w ((flatK d7 4 d)[i*4+j]!) dd;rw[e];have:j=0∨j=1∨j=2∨j=3:=by omega
    rcases this with rfl|rfl|rfl|rfl<;>(cases hj;exact .x _)
 rw[hl] at hsl;exact hsl
end Go.Proofs.Ytldnpcolhdnkdaa

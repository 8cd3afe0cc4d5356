/- Sorting cells: the exchange, the comparison, breakPatterns. -/
import Derived.Shelf.SlSortFuncK.BreakPatternsK
import Derived.Sort.Grow
import Derived.Test.YtldnpcolhdnkdaaShelf
import Derived.Test.YtldnpcolhdnkdaaMSp
import Derived.Test.YtldnpcolhdnkdaaMSt
import Derived.Shelf.GgSortFunc.Tiny
import Derived.Shelf.GgSortFunc.Slice
import Derived.Shelf.GgSortFunc.SmallK
namespace Go.Proofs.Ytldnpcolhdnkdaa
set_option linter.unusedSimpArgs false
set_option maxHeartbeats 8000000
set_option maxRecDepth 100000
open Go Go.RowKit
open Go.Sort (swp)
open Go.Sort (putRowK HoldsK flatK)
attribute [go_sem] Try.results31
def aQ (p:aK):List Value:=[.int .i64 p.1,.int .i64 p.2.1,.int .i64 p.2.2]
theorem cH (d:Array aK):an d=(d.toList.flatMap aQ).map V.x:=by
 unfold an;generalize d.toList=l
 induction l with
 |nil=>rfl
 |cons p l ih=>rw[Qq,Qq,Qj,ih];rfl
theorem oo:∀(l:List aK) (t:Nat),(l.flatMap aQ)[t]?=(l[t/3]?).map fun p=>(aQ p)[t%3]!
 |[],t=>by simp
 | p ::l,t=>by
   rw[Qq];rcases Ql t 3 with h|h
   . rw[PT (by show t<3;exact h),Nat.div_eq_of_lt h,Ss h];have:t=0∨t=1∨t=2:=by omega
     rcases this with rfl|rfl|rfl<;>rfl
   . rw[P6 (by show 3<=t;exact h)];show(l.flatMap aQ)[t-3]?=_;obtain⟨u,rfl⟩:∃u,t=u+3:=⟨t-3,by omega⟩;rw[Nat.add_sub_cancel,oo l u,show(u+3)/3=u/3+1 from by omega,show(u+3)%3=u%3 from by omega,RA]
theorem ld (d:Array aK):(flatK aQ 3 d).toList=d.toList.flatMap aQ:=by
 apply QI;intro t;rw[oo];unfold flatK;rw[PN,Array.getElem?_map,PN];rcases Ql t (d.size*3) with h|h
 . have h3:t/3<d.size:=by omega
   rw[R4,PO h,PW h3];simp[h3]
 . rw[R4,PS (by omega),Rr (by omega)];rfl
theorem f8 {m:Lim} {w:World}:∀{xs l:List Value},RdL m w xs (l.map V.x)->xs=l
 |[],[],_=>rfl
 |x::xs,y::l,h=>by have h1:Rd m w x (.x y):=h.1;cases h1;rw[f8 h.2]
theorem gS {m:Lim} {w:World}:∀l:List Value,RdL m w l (l.map V.x)
 |[]=>trivial
 |_::l=>⟨.x _,gS l⟩
variable {m:Lim} {w:World} {d:Array aK}
theorem ff {blk:Nat} (h:BoxAt m w blk (an d)):HoldsK aQ 3 w blk 0 d:=by
 obtain⟨_,vals,ty,xs,rest,hh,hv,hr⟩:=h;rw[cH] at hr;have hx:=f8 hr;subst hx;intro j hj;have hlen:(flatK aQ 3 d).size=d.size*3:=by simp[flatK]
 have e:vals[j]?=(flatK aQ 3 d)[j]?:=by rw[<-PN,hv,<-ld,PT (by simpa using hj),PN]
 have hjs:j<vals.size:=by have h1:=RB List.length hv;rw[<-ld] at h1;simp only[PR,PP] at h1;omega
 refine⟨?_,?_⟩
 . rw[Qn,Box.cell hh,e,PW hj];exact RB some (Rp _ j hj).symm
 . have hok:=ty.ok;have hh':w.heap[blk]?=some (.cells vals ty.ty (ty.fz.1,ty.fz.2)):=hh;generalize ty.fz.1=f1 at hh' hok;generalize ty.fz.2=f2 at hh' hok;simp only[World.frozen?,hh',So,Ra];rcases hok with h2|h2
   . right;omega
   . left;omega
variable {n:Nat} {os:Array Obj} {cur:Array Value} {ty:TypeId}
theorem po {w1:World} {g:Nat} {d:Array Value} {fr:Nat×Nat} (hh:w1.heap[g]?=some (.cells cur ty fr)):
 (Go.Sort.grow (Go.Sort.putRow id (Go.Sort.ahead w1 n) g 0 d) os).heap[g]?=some (.cells (Go.Sort.putCells id 0 d cur) ty fr)∧∀k,k<w1.heap.size->k≠g->(Go.Sort.grow (Go.Sort.putRow id (Go.Sort.ahead w1 n) g 0 d) os).heap[k]?=w1.heap[k]?:=by
 have hsz:(Go.Sort.putRow id (Go.Sort.ahead w1 n) g 0 d).heap.size=w1.heap.size:=by simp[Go.Sort.putRow,Go.Sort.mapBlock,Go.Sort.ahead]
 refine⟨?_,fun k hk hn=>?_⟩
 . rw[Go.Sort.heap_grow_old _ _ (by rw[hsz];exact al hh)];show(w1.heap.modify g (Go.Sort.onCells (Go.Sort.putCells id 0 d)))[g]?=_;rw[QY,PO rfl,hh];rfl
 . rw[Go.Sort.heap_grow_old _ _ (by rw[hsz];exact hk)];show(w1.heap.modify g (Go.Sort.onCells (Go.Sort.putCells id 0 d)))[k]?=_;rw[QY,PS (fun e=>hn e.symm)]
theorem kQ {blk:Nat} {d':Array aK} (h:BoxAt m w blk (an d)) (hs:d'.size=d.size):
 BoxAt m (Go.Sort.grow (putRowK aQ 3 (Go.Sort.ahead w n) blk 0 d') os) blk (an d')∧Bel [blk] w (Go.Sort.grow (putRowK aQ 3 (Go.Sort.ahead w n) blk 0 d') os)∧Ext m w m (Go.Sort.grow (putRowK aQ 3 (Go.Sort.ahead w n) blk 0 d') os):=by
 obtain⟨hlim,vals,ty,xs,rest,hh,hv,hr⟩:=h;rw[cH] at hr;have hx:=f8 hr;subst hx;have hfl:(flatK aQ 3 d').size=d.size*3:=by simp[flatK,hs]
 have hvl:d.size*3<=vals.size:=by
  have h1:=RB List.length hv;rw[<-ld] at h1;have h2:(flatK aQ 3 d).size=d.size*3:=by simp[flatK]
  simp only[PR,PP] at h1;omega
 have hsz:w.heap.size<=(Go.Sort.grow (putRowK aQ 3 (Go.Sort.ahead w n) blk 0 d') os).heap.size:=by simp[putRowK,Go.Sort.putRow,Go.Sort.mapBlock,Go.Sort.grow,Go.Sort.ahead]
 obtain⟨r1,r2⟩:=po (w1:=w) (n:=n) (d:=flatK aQ 3 d') (os:=os) hh;have hbel:Bel [blk] w (Go.Sort.grow (putRowK aQ 3 (Go.Sort.ahead w n) blk 0 d') os):=⟨rfl,rfl,rfl,hsz,fun k hk hn=>r2 k hk (by simpa using hn)⟩;refine⟨⟨hlim,_,ty.to (by simp[Go.Sort.putCells]),(flatK aQ 3 d').toList,vals.toList.drop (d.size*3),r1,?_,?_⟩,hbel,⟨hsz,fun b off v hb hm hc=>?_,fun b hb fr hf=>⟨fr,hf,PB _⟩,fun b es c hm hc=>(r2 b (du hc) (fun e=>by rw[e,hlim] at hm;cases hm)).trans hc⟩⟩
 . apply QI;intro j;rw[PN,Go.Sort.putCells,Array.getElem?_mapIdx];rcases Ql j (d.size*3) with h|h
   . rw[PT (by simpa[hfl] using h),PW (by omega),PN,PW (by omega)];simp[hfl,h]
   . rw[P6 (by simpa[hfl] using h),Qm];simp only[PR,hfl];rw[show d.size*3+(j-d.size*3)=j from by omega,PN];cases vals[j]? with
     |none=>rfl
     |some v=>simp only[Qd];rw[PS (by omega)]
 . rw[cH,ld];exact gS _
 . by_cases e:b=blk
   . subst e;exact absurd (hm 0 hlim) (Ro _)
   . exact(aT (j:=off) (r2 b hb e)).trans hc
variable {vs:Array Value} {p:Value} {bs gs hs:List Nat} {a b c:V}
theorem sc {K:Nat} (h:ArgsP m w K (vs.toList++[p]) [a,b,c] bs gs hs):∃v1 v2,vs= #[v1,v2]:=by
 have hl:=h.len;simp only[PP,PR,P5,Qk] at hl;obtain⟨l⟩:=vs
 match l,hl with
 |[v1,v2],_=>exact⟨v1,v2,rfl⟩
theorem vc {K:Nat} {d:V} (h:ArgsP m w K (vs.toList++[p]) [a,b,c,d] bs gs hs):∃v1 v2 v3,vs= #[v1,v2,v3]:=by
 have hl:=h.len;simp only[PP,PR,P5,Qk] at hl;obtain⟨l⟩:=vs
 match l,hl with
 |[v1,v2,v3],_=>exact⟨v1,v2,v3,rfl⟩
section
variable {G:Nat->V} {bk N:Nat} {g sf:FuncId} {gl gs:Array Value}
theorem C8 (hsw:SwapSwapsK Try.prog sf gs aQ 3 bk 0 N):FunXVS3 G bk sf gs.toList (FE en2S3 (GSwpS3 N)):=by
 intro m w vs us bs gs' hs r outs hF hargs hnd hhnd hj hg;obtain⟨⟨i,j,d⟩,hus,hG⟩:=aZ hF;subst hus;unfold GSwpS3 at hG;obtain⟨⟨hi,hjj,hd⟩,hG⟩:=aI hG;simp only at hi hjj hd;cases hG;obtain⟨v1,v2,rfl⟩:=sc hargs;simp only[en2S3] at hargs;cases hargs with
 | dat hr1 hd1 h1=>
   cases h1 with
   | dat hr2 hd2 h2=>
     cases h2 with
     |dat hr3 hd3 h3=>cases hd3
     | bx hb hK h3=>
       cases h3;cases hr1;cases hr2;have hH:=ff hb;have hrun:=hsw w d hH hd i j hi hjj;have hw:w=(putRowK aQ 3 (Go.Sort.ahead w 0) bk 0 d).drewN 0:=by rw[Go.Sort.ahead_zero,Go.Sort.putRowK_self aQ 3 w bk 0 d hH];rfl
       have hsw2:=Go.Sort.swap_worldK aQ 3 (fun _=>rfl) w 0 0 bk 0 d i j (by omega) (by omega);rw[<-hw] at hsw2;rw[hsw2] at hrun;have hgr:putRowK aQ 3 (Go.Sort.ahead w (0+0)) bk 0 (swp d i j)=Go.Sort.grow (putRowK aQ 3 (Go.Sort.ahead w 0) bk 0 (swp d i j)) #[]:=by rw[Go.Sort.grow_empty]
       rw[hgr] at hrun;obtain⟨b1,b2,b3⟩:=kQ (n:=0) (os:= #[]) hb (aO d i j);refine .inr ⟨_,_,hrun,m,.tup #[] [] rfl (fun i v u h=>by simp at h),b2,b3,fun _ _ _=>rfl,⟨[an (swp d i j)],[],by simp,⟨b1,trivial⟩,trivial⟩,fun sz es k e=>by cases e⟩
theorem FO (hN:N<=MXS3) (hsw:SwapSwapsK Try.prog sf gs aQ 3 bk 0 N):FunXVS3 G bk 46 [] (FE (bw g sf gl gs) (iW N)):=by
 intro m w vs us bs gs' hs r outs hF hargs hnd hhnd hj hg;obtain⟨⟨a,b,d⟩,hus,hG⟩:=aZ hF;subst hus;unfold iW at hG;obtain⟨⟨hab,hbN,hd⟩,hG⟩:=aI hG;simp only at hab hbN hd;cases hG;obtain⟨v1,v2,v3,rfl⟩:=vc hargs;simp only[bw] at hargs;cases hargs with
 | dat hr1 hd1 h1=>
   cases h1 with
   | dat hr2 hd2 h2=>
     cases h2 with
     | dat hr3 hd3 h3=>
       cases h3 with
       |dat hr4 hd4 h4=>cases hd4
       | bx hb hK h4=>
         cases h4;cases hr2;cases hr3;obtain⟨cs,rfl,hcs⟩:=Rd.agg_iff.1 hr1;have e:cs= #[.func (.func g) #[] gl,.func (.func sf) #[] gs]:=by apply Qe.1;exact f8 (l:=[.func (.func g) #[] gl,.func (.func sf) #[] gs]) hcs
         subst e;have hH:=ff hb;have hblk:bk<w.heap.size:=by obtain⟨_,_,_,_,_,hhb,_⟩:=hb;exact al hhb
         have hc:=Any.breakPatterns_func_cells_w (P:=Try.prog) (ρ:=Try.laysGg14_ren) {Try.laysGg14 with} aQ 3 (fun _=>rfl) (.func g) #[] gl sf gs bk 0 a b d w (by rw[hd];exact hsw) hH hblk hab (by omega) (by unfold MXS3 at hN;omega);change Calls Try.prog 46 _ _ _ at hc;refine .inl ⟨Try.call46 _ _,?_⟩;rw[show(#[Value.agg #[.func (.func g) #[] gl,.func (.func sf) #[] gs],.int .i64 (a:Int),.int .i64 (b:Int)]++(⟨[]⟩:Array Value))= #[.agg #[.func (.func g) #[] gl,.func (.func sf) #[] gs],.int .i64 (a:Int),.int .i64 (b:Int)] from RH];refine hc.mono ?_;rintro e w' ⟨rfl,n,os,rfl⟩;obtain⟨b1,b2,b3⟩:=kQ (n:=n) (os:=os) hb ((Go.Sort.breakPatterns_holds d a b hab (by omega)).1);exact⟨_,rfl,m,.tup #[] [] rfl (fun i v u h=>by simp at h),b2,b3,fun _ _ _=>rfl,⟨[an (Go.Sort.breakPatterns d a b)],[],by simp,⟨b1,trivial⟩,trivial⟩,fun sz es k e=>by cases e⟩
end
def ww:List V->Option V
 | [.x (.int .i64 i),.x (.int .i64 j),.ip [.sl false 3 es none]]=>match es[i.toNat]?,es[j.toNat]? with
   |some (.agg [.x (.int .i64 a),.x (.int .i64 b),.x (.int .i64 c)]),some (.agg [.x (.int .i64 a'),.x (.int .i64 b'),.x (.int .i64 c')])=>if 0<=i∧0<=j then some (.x (.bool (dm a b c a' b' c'))) else none
   |_,_=>none
 |_=>none
theorem sd:ij 31 ww:=by
 refine cn (E:=bf [(16,bm)]) (k:=3) (di _ ⟨nN,trivial⟩) (by kernel_rfl) Try.func31 rfl (fun a w=>Try.call31 a w) Try.ntmps31 (by kernel_rfl) (by decide) (by decide) ?_;intro us r hF hdat;unfold ww at hF;split at hF
 case h_2=>cases hF
 rename_i i j es;split at hF
 case h_2=>cases hF
 rename_i s c r s' c' r' hi hj;obtain⟨⟨h0,h1⟩,hF⟩:=aI hF;cases hF;refine⟨rfl,?_⟩;have e1:bm [.agg [.x (.int .i64 s),.x (.int .i64 c),.x (.int .i64 r)],.agg [.x (.int .i64 s'),.x (.int .i64 c'),.x (.int .i64 r')]]=some (.x (.bool (dm s c r s' c' r'))):=rfl;simp +decide (maxDischargeDepth:=200) only[go_sem,h0,h1,hi,hj,e1]
open Go.Sort (putRowK HoldsK flatK PermIn SortedIn)
theorem zd (p q:aK):ac p q=dm p.1 p.2.1 p.2.2 q.1 q.2.1 q.2.2:=rfl
theorem C9 {l:List aK} {i:Nat} {p:aK} (h:l[i]?=some p):(l.map aJ)[(i:Int).toNat]?=some (.agg [.x (.int .i64 p.1),.x (.int .i64 p.2.1),.x (.int .i64 p.2.2)]):=by rw[io,PF,h];rfl
variable {bk Bk cap:Nat}
theorem ze {N:Nat} (hb:BoxAt m w bk (an d)) (hd:d.size=N) (hcap:N<=cap) (hB:Rd m w (.pointer (some ⟨Bk,0,none⟩)) (.ip [.x (.slice (some ⟨bk,0,none⟩) N cap)])):Rd (fun _=>none) w (.pointer (some ⟨Bk,0,none⟩)) (.ip [.sl false 3 (d.toList.map aJ) none]):=by
 have hH:=ff hb;have hblk:bk<w.heap.size:=by obtain⟨_,_,_,_,_,hhb,_⟩:=hb;exact al hhb
 have hlen:(flatK aQ 3 d).size=d.size*3:=by simp[flatK]
 have hl:(d.toList.map aJ).length=N:=by simpa using hd
 have hsl:Rd (fun _=>none) w (.slice (some ⟨bk,0,none⟩) (d.toList.map aJ).length cap) (.sl false 3 (d.toList.map aJ) none):=by
  refine .sl bk 0 cap 3 _ none (fun k=>(flatK aQ 3 d)[k]!) hblk (by omega) (fun i e he=>?_) (fun k hk=>?_) (fun fr hf=>by cases hf) (fun i e he j dd hj=>?_)
  . rw[PF] at he;obtain⟨p,_,rfl⟩:=PK.1 he;rfl
  . exact(hH k (by rw[hlen];simp at hk;omega)).1
  . rw[PF] at he;obtain⟨p,hp,rfl⟩:=PK.1 he;have hil:i<d.size:=by simpa using(PE.1 hp).1
    have hdi:d[i]! =p:=by rw[Io (by simpa using hil)] at hp;rw[Rp d i hil];simpa using hp
    have hj3:j<3:=(PE.1 hj).1;have e:(flatK aQ 3 d)[i*3+j]! =(aQ p)[j]! :=by rw[Go.Sort.get_flatK _ _ _ _ (by omega),show(i*3+j)/3=i from by omega,show(i*3+j)%3=j from by omega,hdi]
    show Rd _ w ((flatK aQ 3 d)[i*3+j]!) dd;rw[e];have:j=0∨j=1∨j=2:=by omega
    rcases this with rfl|rfl|rfl<;>(cases hj;exact .x _)
 rw[hl] at hsl;cases hB with
 | ip blk off cs c hbB hc hm hr=>
   have h0:Rd m w (c 0) (.x (.slice (some ⟨bk,0,none⟩) N cap)):=hr 0 _ rfl;have hc0:=Rd.x_iff.1 h0;refine .ip Bk 0 _ c hbB (fun k hk=>hc k hk) (fun fr hf=>by cases hf) (fun k dd hk=>?_);cases k with
   |zero=>cases hk;rw[hc0];exact hsl
   |succ k=>simp at hk
section
variable {G:Nat->V} {bk Bk N cap:Nat}
theorem Da (hcap:N<=cap) (hG:G Bk= .ip [.x (.slice (some ⟨bk,0,none⟩) N cap)]):FunXVS3 G bk 31 [.pointer (some ⟨Bk,0,none⟩)] (FE en2S3 (GLessS3 N)):=by
 intro m w vs us bs gs' hs r outs hF hargs hnd hhnd hj hg;obtain⟨⟨i,j,d⟩,hus,hGl⟩:=aZ hF;subst hus;unfold GLessS3 at hGl;obtain⟨⟨hi,hjj,hd⟩,hGl⟩:=aI hGl;simp only at hi hjj hd;cases hGl;obtain⟨v1,v2,rfl⟩:=sc hargs;simp only[en2S3] at hargs;cases hargs with
 | dat hr1 hd1 h1=>
   cases h1 with
   | dat hr2 hd2 h2=>
     cases h2 with
     |dat hr3 hd3 h3=>cases hd3
     | bx hb hK h3=>
       cases h3;cases hr1;cases hr2;have hB:Rd m w (.pointer (some ⟨Bk,0,none⟩)) (.ip [.x (.slice (some ⟨bk,0,none⟩) N cap)]):=by have:=hg Bk;have e:(cB G (fun _ _=>none) 0).G Bk= .ip [.x (.slice (some ⟨bk,0,none⟩) N cap)]:=hG;rw[e] at this;exact this
       have hip:=ze hb hd hcap hB;obtain⟨p,hp⟩:∃p,d.toList[i]?=some p:=⟨_,Io (by simpa using(show i<d.size by omega))⟩;obtain⟨q,hq⟩:∃q,d.toList[j]?=some q:=⟨_,Io (by simpa using(show j<d.size by omega))⟩;have hat:∀(k:Nat) (p:aK),k<d.size->d.toList[k]?=some p->d[k]! =p:=fun k p hk h=>by rw[Io (by simpa using hk)] at h;rw[Rp d k hk];simpa using h
       have hpe:=hat i p (by omega) hp;have hqe:=hat j q (by omega) hq;have hFL:ww [.x (.int .i64 (i:Int)),.x (.int .i64 (j:Int)),.ip [.sl false 3 (d.toList.map aJ) none]]=some (.x (.bool (ac d[i]! d[j]!))):=by rw[hpe,hqe,zd];simp only[ww,C9 hp,C9 hq];rw[PO ⟨by omega,by omega⟩]
       have hcalls:=sd.2 (fun _=>none) w #[.int .i64 (i:Int),.int .i64 (j:Int),.pointer (some ⟨Bk,0,none⟩)] _ _ hFL rfl ⟨.x _,.x _,hip,trivial⟩ hj (fun g=> .undef _);refine .inl ⟨sd.1 _ _,?_⟩;refine hcalls.mono ?_;rintro e w' ⟨v,m',rfl,hv,hbel,_⟩;cases hv;have hblk:bk<w.heap.size:=by obtain⟨_,_,_,_,_,hhb,_⟩:=hb;exact al hhb
       have hbx:BoxAt m w' bk (an d):=by obtain⟨hlim,vals,ty,xs,rest,hh,hv,hr⟩:=hb;rw[cH] at hr;have hx:=f8 hr;subst hx;exact⟨hlim,vals,ty,_,rest,(hbel.block bk hblk).trans hh,hv,by rw[cH];exact gS _⟩
       exact⟨_,rfl,m,.x _,⟨hbel.os,hbel.tape,hbel.output,hbel.size,fun k hk _=>hbel.block k hk⟩,Ext.of_below hbel (fun _ _=>rfl),fun _ _ _=>rfl,⟨[an d],[],by simp,⟨hbx,trivial⟩,trivial⟩,fun sz es k e=>by cases e⟩
end
noncomputable def dD:TypeInfo:=(Try.prog.info? 32).get (by kernel_rfl)
noncomputable def eV:TypeInfo:=(Try.prog.info? 43).get (by kernel_rfl)
theorem Gq (n:Nat) (h:2<=n):Lib.swapperK n dD 25=9:=by
 have a:dD.hasPointers=false:=by kernel_rfl
 have b:dD.bytes=24:=by kernel_rfl
 have c:(n==0)=false:=by simp;omega
 have d:(n==1)=false:=by simp;omega
 simp[Lib.swapperK,a,b,c,d]
theorem FQ {blk:Nat} {tyB:TypeId} {frB:Nat×Nat} (hh:w.heap[blk]?=some (.cells cur ty (0,0))) (hcur:∃rest,cur.toList=d.toList.flatMap aQ++rest) {vals:Array Value} (hB:w.heap[Bk]?=some (.cells vals tyB frB)) (hB0:vals[0]?=some (.slice (some ⟨blk,0,none⟩) d.size cap)) (hne:Bk≠blk) (hcap:d.size<=cap) (hN:d.size<=MXS3) (hK:iy<=blk) (hj:(bf []).J w):
 Calls Try.prog 14 #[.iface 43 (.slice (some ⟨blk,0,none⟩) d.size cap),.func (.func 31) #[] #[.pointer (some ⟨Bk,0,none⟩)]] w fun e w'=>e= .returned (.tuple #[])∧∃d':Array aK,PermIn 0 d.size d d'∧SortedIn ac 0 d.size d'∧Bel [blk] w w'∧∃m',BoxAt m' w' blk (an d'):=by
 have hi:Try.prog.info? 43=some eV:=by kernel_rfl
 have hdd:eV.desc= .slice 32:=by kernel_rfl
 have hie:Try.prog.info? 32=some dD:=by kernel_rfl
 have hke:∀w,(Extern.Rtype.kind 32).run Try.prog w= .ok 25 w:=fun _=>by kernel_rfl
 obtain⟨rest,hcur⟩:=hcur;have hN1:d.size<=1000000:=hN;let m:Lim:=fun b=>if b=blk then some 0 else none
 have hbx:∀w2:World,w2.heap[blk]?=w.heap[blk]?->BoxAt m w2 blk (an d):=fun w2 e=>⟨PO rfl,cur,.plain ty,_,rest,e.trans hh,hcur,by rw[cH];exact gS _⟩
 have hblk:=al hh;have hBk:=al hB;by_cases h2:2<=d.size
 . let G:Nat->V:=fun b=>if b=Bk then .ip [.x (.slice (some ⟨blk,0,none⟩) d.size cap)] else .undef
   have hG:G Bk= .ip [.x (.slice (some ⟨blk,0,none⟩) d.size cap)]:=PO rfl;have hx:∀args W,(callFunc 41 args).run Try.prog W=((Extern.ReflectliteSwapper.swap false args).run Try.prog W).andThen fun v w'=> .ok (.value v) w':=fun args W=>run_callFunc_extern Try.func41 (by kernel_rfl) (by kernel_rfl) (by kernel_rfl) (e:=Extern.ReflectliteSwapper.swap false) (by kernel_rfl) args W
   have hsw:=swapSwapsK_of_literal (P:=Try.prog) false 41 hx 32 dD hie aQ 3 (fun _=>rfl) (by kernel_rfl) (fun _=>by kernel_rfl) (fun p v hv=>by simp only[aQ,PY,R9,or_false] at hv;rcases hv with rfl|rfl|rfl<;>rfl) blk 0 d.size cap
   have hS:SoOKS3 G blk d.size 31 41 #[.pointer (some ⟨Bk,0,none⟩)] #[.slice (some ⟨blk,0,none⟩) d.size cap,typeHandle Try.prog 32]:=⟨by simp,by simp,by decide,hN,Da hcap hG,C8 hsw⟩;have hP:=FN hS (FO hN hsw) (d.size+1);refine Any.sort_Slice_of_pdq (P:=Try.prog) (ρ:=Try.laysGg6_ren) Try.laysGg6 43 32 eV dD hi hdd (by kernel_rfl) hie 25 hke (some ⟨blk,0,none⟩) d.size cap (by unfold MXS3 at hN;omega) 41 (by rw[Gq _ h2];kernel_rfl) (.func 31) #[] #[.pointer (some ⟨Bk,0,none⟩)] w _ ?_;have hsb:sliceBound Try.prog 32 dD 25 (some ⟨blk,0,none⟩) d.size cap= #[.slice (some ⟨blk,0,none⟩) d.size cap,typeHandle Try.prog 32]:=by unfold sliceBound;rw[Gq _ h2];rfl
   rw[hsb];generalize hW:sliceWorld Try.prog Try.laysGg6_ren 43 (some ⟨blk,0,none⟩) d.size cap w=W;have hbel:Below w.heap.size w W:=by rw[<-hW];unfold sliceWorld;exact((Below.refl _ w).alloc (PB _) _).alloc (by simp) _
   have hjW:(bf []).J W:=Glob.low hj hbel.size ⟨hbel.os,hbel.tape,hbel.output,hbel.size,fun k hk=>hbel.block k (Qf hk (Glob.high hj))⟩;have hb:=hbx W (hbel.block blk hblk);have hl62:Lib.bitLen d.size<=62:=Lib.bitLen_le d.size 62 (by omega) (by omega);have hF:=mP (g:=31) (sf:=41) (gl:= #[.pointer (some ⟨Bk,0,none⟩)]) (gs:= #[.slice (some ⟨blk,0,none⟩) d.size cap,typeHandle Try.prog 32]) (N:=d.size) (d.size+1) 0 d.size (Lib.bitLen d.size) d (by omega) (by omega) (PB _) (by omega) rfl (.inl rfl)
   have hargs:ArgsP m W iy [.agg #[.func (.func 31) #[] #[.pointer (some ⟨Bk,0,none⟩)],.func (.func 41) #[] #[.slice (some ⟨blk,0,none⟩) d.size cap,typeHandle Try.prog 32]],.int .i64 ((0:Nat):Int),.int .i64 (d.size:Int),.int .i64 (Lib.bitLen d.size:Int),.pointer (some ⟨blk,0,none⟩)] [bL 31 41 #[.pointer (some ⟨Bk,0,none⟩)] #[.slice (some ⟨blk,0,none⟩) d.size cap,typeHandle Try.prog 32],.x (.int .i64 ((0:Nat):Int)),.x (.int .i64 (d.size:Int)),.x (.int .i64 (Lib.bitLen d.size:Int)),.bx (an d)] [blk] [] []:=
    .dat (Rd.agg_iff.2 ⟨_,rfl,.x _,.x _,trivial⟩) rfl (.dat (.x _) rfl (.dat (.x _) rfl (.dat (.x _) rfl (.bx hb hK .nil))))
   have hgl:∀g,Rd m W (.pointer (some ⟨g,0,none⟩)) (G g):=fun b=>by
    show Rd m W _ (if b=Bk then _ else _);split
    . rename_i e;subst e;have hBW:=(hbel.block b hBk).trans hB;refine .ip b 0 _ (fun _=> .slice (some ⟨blk,0,none⟩) d.size cap) (al hBW) (fun k hk=>?_) (fun fr hf=>?_) (fun k dd hk=>?_)
      . have:k=0:=by simpa using hk
        subst this;rw[Box.cell hBW];exact hB0
      . have:m b=none:=PS hne;rw[this] at hf;cases hf
      . cases k with
        |zero=>cases hk;exact .x _
        |succ k=>simp at hk
    . exact .undef _
   rcases hP m W #[.agg #[.func (.func 31) #[] #[.pointer (some ⟨Bk,0,none⟩)],.func (.func 41) #[] #[.slice (some ⟨blk,0,none⟩) d.size cap,typeHandle Try.prog 32]],.int .i64 ((0:Nat):Int),.int .i64 (d.size:Int),.int .i64 (Lib.bitLen d.size:Int)] _ [blk] [] [] _ _ hF hargs (by simp) (by simp) hjW hgl with⟨_,hc⟩|⟨v,w',he,_⟩
   . rw[show ∀a:Array Value,a++(⟨[]⟩:Array Value)=a from fun a=>RH] at hc;refine hc.mono ?_;rintro e w' ⟨v,rfl,m',hv,hb2,_,_,⟨o1,o2,ho,hou,_⟩,_⟩;have hs:=Go.Sort.pdq_sorts ac dR d 0 d.size (Lib.bitLen d.size) true true (PH _) (PB _) (.inl rfl);have hvt:v= .tuple #[]:=by obtain⟨cs,rfl,hcs⟩:=Rd.tup_iff.1 hv;have:=hcs.length;simp only[PR,Qk] at this;rw[Rc this]
     subst hvt;refine⟨rfl,_,hs.1,hs.2,⟨hb2.os.trans hbel.os,hb2.tape.trans hbel.tape,hb2.output.trans hbel.output,tl hbel.size hb2.size,fun k hk hn=>(hb2.block k (Qf hk hbel.size) (by simpa using hn)).trans (hbel.block k hk)⟩,m',?_⟩;cases o1 with
     |nil=>exact hou.elim
     |cons c o1=>obtain⟨e,_⟩:=Sv (show[an _]=c::(o1++o2) from ho);rw[e];exact hou.1
   . have he2:=(Try.call27 _ _).symm.trans he;cases he2
 . have hz:d.size=0∨d.size=1:=by omega
   have hf:∃f,Try.prog.funcs.findIdx? (·.name== "internal/reflectlite" ++ ".Swapper$" ++toString (Lib.swapperK d.size dD 25))=some f:=by
    rcases hz with e|e
    . exact⟨33,by rw[e];kernel_rfl⟩
    . exact⟨34,by rw[e];kernel_rfl⟩
   obtain⟨f,hf⟩:=hf;refine(Any.sort_Slice_tiny (P:=Try.prog) (ρ:=Try.laysGg6_ren) Try.laysGg6 43 32 eV dD hi hdd (by kernel_rfl) hie 25 hke (some ⟨blk,0,none⟩) d.size cap (by omega) f hf (.func 31) #[] #[.pointer (some ⟨Bk,0,none⟩)] w).mono ?_;rintro e w' ⟨rfl,os,rfl⟩;refine⟨rfl,d,Go.Sort.permIn_refl d _ _,fun i j _ h1 h3=>by omega,⟨rfl,rfl,rfl,by simp[Go.Sort.grow],fun k hk _=>Go.Sort.heap_grow_old _ _ hk⟩,m,hbx _ (Go.Sort.heap_grow_old _ _ hblk)⟩
theorem FR:Calls Try.prog 14 #[.iface 43 (.slice none 0 0),.func (.func 31) #[] #[.pointer (some ⟨Bk,0,none⟩)]] w fun e w'=>e= .returned (.tuple #[])∧∃os,w'=Go.Sort.grow w os:=by
 have hi:Try.prog.info? 43=some eV:=by kernel_rfl
 have hdd:eV.desc= .slice 32:=by kernel_rfl
 have hie:Try.prog.info? 32=some dD:=by kernel_rfl
 have hke:∀w,(Extern.Rtype.kind 32).run Try.prog w= .ok 25 w:=fun _=>by kernel_rfl
 exact Any.sort_Slice_tiny (P:=Try.prog) (ρ:=Try.laysGg6_ren) Try.laysGg6 43 32 eV dD hi hdd (by kernel_rfl) hie 25 hke none 0 0 (by omega) 33 (by kernel_rfl) (.func 31) #[] #[.pointer (some ⟨Bk,0,none⟩)] w
theorem Db {m0:Lim} (hb:BoxAt m0 w bk (an d)) (hcap:d.size<=cap) (m:Lim) (hm:m bk=none):Rd m w (.slice (some ⟨bk,0,none⟩) d.size cap) (.sl false 3 (d.toList.map aJ) none):=by
 have hH:=ff hb;have hblk:bk<w.heap.size:=by obtain⟨_,_,_,_,_,hhb,_⟩:=hb;exact al hhb
 have hlen:(flatK aQ 3 d).size=d.size*3:=by simp[flatK]
 have hl:(d.toList.map aJ).length=d.size:=by simp
 have hsl:Rd m w (.slice (some ⟨bk,0,none⟩) (d.toList.map aJ).length cap) (.sl false 3 (d.toList.map aJ) none):=by
  refine .sl bk 0 cap 3 _ none (fun k=>(flatK aQ 3 d)[k]!) hblk (by omega) (fun i e he=>?_) (fun k hk=>?_) (fun fr hf=>by rw[hm] at hf;cases hf) (fun i e he j dd hj=>?_)
  . rw[PF] at he;obtain⟨p,_,rfl⟩:=PK.1 he;rfl
  . exact(hH k (by rw[hlen];simp at hk;omega)).1
  . rw[PF] at he;obtain⟨p,hp,rfl⟩:=PK.1 he;have hil:i<d.size:=by simpa using(PE.1 hp).1
    have hdi:d[i]! =p:=by rw[Io (by simpa using hil)] at hp;rw[Rp d i hil];simpa using hp
    have hj3:j<3:=(PE.1 hj).1;have e:(flatK aQ 3 d)[i*3+j]! =(aQ p)[j]! :=by rw[Go.Sort.get_flatK _ _ _ _ (by omega),show(i*3+j)/3=i from by omega,show(i*3+j)%3=j from by omega,hdi]
    show Rd _ w ((flatK aQ 3 d)[i*3+j]!) dd;rw[e];have:j=0∨j=1∨j=2:=by omega
    rcases this with rfl|rfl|rfl<;>(cases hj;exact .x _)
 rw[hl] at hsl;exact hsl
end Go.Proofs.Ytldnpcolhdnkdaa

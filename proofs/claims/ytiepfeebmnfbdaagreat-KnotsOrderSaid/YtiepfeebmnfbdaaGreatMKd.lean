/- MKd -/
import Derived.Test.YtiepfeebmnfbdaaGreatMKc
import Derived.Test.YtiepfeebmnfbdaaGreatMZ
namespace Go.Proofs.YtiepfeebmnfbdaaGreat
noncomputable section
open Tryz
set_option linter.unusedSimpArgs false
set_option maxHeartbeats 64000000
set_option maxRecDepth 100000
open Go Go.RowKit
attribute [go_sem] results15 results16
theorem WR{P:Prop}(h:P:=by exact⟨val,fun _ _=>rfl,hI.next A0c A0c,by rw[hval];exact Le.refl _⟩):P:=h
theorem WO{P:Prop}(h:P:=by exact⟨val,fun _ _=>rfl,bx,hI.next A0c A0c A0c A0c A0c,by rw[hval];exact Le.refl _⟩):P:=h
theorem WN{P:Prop}(h:P:=by obtain⟨r1,r2⟩:=hI.app (dF (n:=12) hcl rfl A0a hb) hb' hg hr' hval;exact⟨_,r1,r2,by rw[dB];exact Le.refl _⟩):P:=h
theorem WM{P:Prop}(h:P:=by simp +decide only[go_sem]):P:=h
theorem WL{P:Prop}(h:P:=by exact⟨_,fun _=>rfl,by rw[adq A1o];exact hI.put h10 hb' hg hr' hval,Le.refl _⟩):P:=h
theorem WK{P:Prop}(h:P:=by exact⟨j,rfl,.inl ⟨a,b⟩⟩):P:=h
theorem WJ{P:Prop}(h:P:=by simp +decide only[go_sem,Nat.reduceBEq]<;>(repeat' first|rfl|constructor)):P:=h
theorem WI{P:Prop}(h:P:=by exact⟨val',r1,bx,r3,by unfold B4;simp only[r2];exact Le.refl _⟩):P:=h
noncomputable abbrev EX:Env:=(aY [] (fun _=>false) [] (fun _=>false) (fun _=>false))
theorem tB:EnvOK EX:=ge _ _ _ _ _ trivial trivial
theorem rm:EX.P.follows .mixedOrders=true:=A0a
def vb(out:List Int)(k:Nat):List U:=(List.range k).map fun j=>[aw ((out.length-1-j:Nat):Int),aw (out[out.length-1-j]?.getD 0)]
theorem ro(out:List Int)(k:Nat):vb out (k+1)=vb out k++[[aw ((out.length-1-k:Nat):Int),aw (out[out.length-1-k]?.getD 0)]]:=by unfold vb;rw[afs,adK];rfl
theorem o8(out:List Int)(k:Nat):(vb out k).length=k:=by simp[vb]
def Za(out:List Int)(pre:List U):Prop:=∃k,k<out.length∧pre=vb out (k+1)
def Q6(out:List Int)(pre:List U):Prop:=pre=vb out out.length
theorem HE(ao:Option Addr)(ln cp:Nat)(w:World):Calls prog 33 #[.slice ao ln cp] w fun e w'=>e= .returned (.func (.func 49) #[] #[.pointer (some ⟨w.heap.size,0,none⟩)])∧w'=w.alloc (.cells #[.slice ao ln cp] 54):=by
 go_enter func33,ntmps33
 go_wp2
 go_ret
 exact⟨rfl,rfl⟩
theorem HF{out:List Int}(hlen:out.length<=400){m:Lim}{w:World}{lb:Array Value}(hr:RdL m w lb.toList [.ip [.l 1 (out.map aw)]]):j9 EX (fun _=>False) 49 lb (Za out) (Q6 out) m w:=by
 refine un (E:=EX) (n:=19) (us:=[.ip [.l 1 (out.map aw)]]) func49 rfl ntmps49 results49 A0k A0c hr rfl (fun g=> .undef _) ?_;intro l0 A Ax a0 O hA hX hy h0 _;have hE:=tB;have hm:=rm;have e0:az .i64 ((out.length:Int)-1)=(out.length:Int)-1:=ak A0j;refine wpIn_seq (dl hE hm (hA []) [(0,.x (.func (.yield l0) #[] #[])),(1,.ip [.l 1 (out.map aw)]),(3,aw ((out.length:Int)-1))] [] A0a h0 (by simp +decide only[go_sem,eq,e0]<;>(repeat' first|rfl|constructor)) ?_);intro a w1 h1;refine wpIn_block ?_;refine cI (X:=Nat) (fun k a' w'=>k<=out.length∧Two EX 19 O m w (A (vb out k)) (aq [(0,.x (.func (.yield l0) #[] #[])),(1,.ip [.l 1 (out.map aw)]),(3,aw ((out.length:Int)-1-(k:Int)))] []) a' w') (fun k=>out.length-k) 0 ⟨adN _,by simpa[vb] using h1⟩ ?_;rintro k a w1 ⟨hk0,h1⟩;by_cases hk:k<out.length
 . have c1:decide ((out.length:Int)-1-(k:Int)≥0)=true:=ac0 A0b;have c1':decide (0<=(out.length:Int)-1-(k:Int))=true:=ac0 A0b;have hi:(out.length:Int)-1-(k:Int)=((out.length-1-k:Nat):Int):=A0b
   have c2:(0:Int)<=((out.length-1-k:Nat):Int):=A0b
   have c3:((out.length-1-k:Nat):Int)<(out.length:Int):=A0b
   have c4:az .i64 (((out.length-1-k:Nat):Int)-1)=(out.length:Int)-1-((k+1:Nat):Int):=by rw[ak A0j];omega
   have c5:decide (((out.length-1-k:Nat):Int)≥0)=true:=ac0 A0b;have q:out[out.length-1-k]?=some (out[out.length-1-k]?.getD 0):=by rw[io A0b];rfl
   have q2:(out.map aw)[((out.length-1-k:Nat):Int).toNat]?=some (aw (out[out.length-1-k]?.getD 0)):=by rw[tl,ac9,q];rfl
   have hs:=ro out k;generalize hx:out[out.length-1-k]?.getD 0=x at q q2 hs;rw[hi] at h1;refine wpIn_seq (wpIn_seq (dl hE hm (hA (vb out k)) [(0,.x (.func (.yield l0) #[] #[])),(1,.ip [.l 1 (out.map aw)]),(3,aw ((out.length-1-k:Nat):Int)),(8,.bool true)] [] A0a h1 (by simp +decide only[go_sem,c5,c2]<;>(repeat' first|rfl|constructor)) ?_));intro a w1 h1;refine dl hE hm (hA (vb out k)) [(0,.x (.func (.yield l0) #[] #[])),(1,.ip [.l 1 (out.map aw)]),(3,aw ((out.length-1-k:Nat):Int))] [] A0a h1 A0d ?_;intro a w1 h1;refine wpIn_seq (wpIn_block ?_);refine wpIn_seq (wpIn_region ?_);refine fZ hE (hA _) 0 6 [(0,.x (.func (.yield l0) #[] #[])),(1,.ip [.l 1 (out.map aw)]),(3,aw ((out.length-1-k:Nat):Int)),(11,.x (.func (.yield l0) #[] #[])),(12,aw ((out.length-1-k:Nat):Int)),(16,aw x)] [] [6,7] A0c A0a h1 (by simp +decide only[go_sem,eq,c2,c3,q2]<;>(repeat' first|rfl|constructor)) ?_;intro a w1 h1;rw[wpOpsIn_cons];have hokp:Za out (vb out k++[[aw ((out.length-1-k:Nat):Int),aw x]]):=⟨k,hk,hs.symm⟩;refine Cn (n:=19) (A1:=A (vb out k++[[aw ((out.length-1-k:Nat):Int),aw x]])) (Ax:=Ax (vb out k++[[aw ((out.length-1-k:Nat):Int),aw x]])) (l:=l0) rfl (d:=17) rfl A0c rfl rfl rfl h1 (us:=[aw ((out.length-1-k:Nat):Int),aw x]) (by simp +decide only[go_sem,adL,afr]<;>rfl) rfl (fun O1 m1 w2 vs ha hv=>hy _ _ O1 m1 w2 vs hokp ha hv rfl) ?_ ?_
   . intro a w1 h1;refine fZ hE (hA _) 7 1 [(0,.x (.func (.yield l0) #[] #[])),(1,.ip [.l 1 (out.map aw)]),(3,aw ((out.length-1-k:Nat):Int)),(18,.bool false)] [] [] A0c A0a h1 A0d ?_;intro a w1 h1;refine dl hE hm (hA _) [(0,.x (.func (.yield l0) #[] #[])),(1,.ip [.l 1 (out.map aw)]),(3,aw ((out.length-1-k:Nat):Int))] [] A0a h1 A0d ?_;intro a w1 h1;refine dl hE hm (hA _) [(0,.x (.func (.yield l0) #[] #[])),(1,.ip [.l 1 (out.map aw)]),(3,aw ((out.length:Int)-1-((k+1:Nat):Int)))] [] A0a h1 A0s ?_;intro a w1 h1;refine⟨k+1,⟨hk,?_⟩,A0b⟩;rw[hs];exact h1
   . intro a w1 h1;refine fZ hE (hX _) 7 1 [(18,.bool true)] [] [] A0c A0a h1 A0d ?_;intro a w1 h1;refine DI hE hm (hX _) [] [] A0a h1 A0d ?_;intro a w1 h1;exact⟨.inr rfl,.inr ⟨_,_,h1⟩⟩
 . have hke:k=out.length:=A0b
   subst hke;have c1:decide ((out.length:Int)-1-(out.length:Int)≥0)=false:=Io A0b;have c2:decide (0<=(out.length:Int)-1-(out.length:Int))=false:=Io A0b;refine wpIn_seq (wpIn_seq (dl hE hm (hA (vb out out.length)) [(8,.bool false)] [] A0a h1 (by simp +decide only[go_sem,c1,c2]<;>(repeat' first|rfl|constructor)) ?_));intro a w1 h1;refine DH hE hm (hA (vb out out.length)) 0 [] [] A0a h1 A0d ?_;intro a w1 h1;exact⟨.inl rfl,.inl ⟨_,_,rfl,h1⟩⟩
def mh:Option (List Oper×Code×Code):=match f16.body with
 |some (.seq _ (.seq _ (.seq _ (.seq (.seq (.region _ ops _) (.block _ (.rangeFunc _ _ ac bd))) _))))=>some (ops.toList,ac,bd)
 |_=>none
def vd:Code:=match f16.body with
 |some (.seq _ (.seq _ (.seq _ (.seq c _))))=>c
 |_=> .skip
def HZ:List (FuncId×(U->HH->Tr)):=[(34,YS),(35,QX),(36,YU)]
def EG:Fx:={F:=yK HZ,D:=fun d=>d==14}
theorem ve:∀f C,EG.F f=some C->cR EX f C:=gU (l:=HZ) ⟨P8,LG,Qa,trivial⟩
def vf(s:XS)(K:Out->XS->Prop):Prop:=∃(C:List C3) (R S:List (List Int)) (g:Nat) (ty:TypeId),(gw s.st [(1,.ptr 1 0),(3,.ptr 3 0)]∧gL s.st [(1,[.l 3 (C.map aa),.l 1 (R.map rI),.l 1 (S.map rI)]),(3,[.x (.s g C.length C.length)])]∧s.H g=some (rowO ((List.replicate C.length (-1)).map iv) ty))∧bU C.length R∧bU C.length S∧zx C.length R S∧
 ∀hs,HeadsOK R C.length hs->(∃out,FinOK R C.length out)->K .normal ⟨aq [(1,.ip [.l 3 (C.map aa),.l 1 (R.map rI),.l 1 (S.map rI)]),(3,.ip [.x (.s g C.length C.length)])] [],upd s.H g (some (rowO (hs.map iv) ty))⟩
variable{m:Lim}{w:World}{v:Value}{ty:TypeId}
theorem YX{u:V}(h:Rd m w v u):Step (fun _=>False) m w (upd m w.heap.size none) (w.alloc (.cells #[v] ty))∧Rd (upd m w.heap.size none) (w.alloc (.cells #[v] ty)) (.pointer (some ⟨w.heap.size,0,none⟩)) (.ip [u]):=by
 have hs:Step (fun _=>False) m w (upd m w.heap.size none) (w.alloc (.cells #[v] ty)):=Step.of_below ((Below.refl _ w).alloc (adp _) _) (fun k hk=>ah _ _ (aer hk));refine⟨hs,.ip _ 0 _ (fun _=>v) A0k (fun k hk=>?_) (fun fr hf=>by rw[aj] at hf;cases hf) (fun k d hd=>?_)⟩
 . have hh:(w.alloc (.cells #[v] ty)).heap[w.heap.size]?=some (.cells #[v] ty (0,0)):=World.heap_new w _;rw[Box.cell hh];have:k=0:=A1h
   subst this;rfl
 . cases k with
   |zero=>simp at hd;subst hd;exact h.mono hs.ext
   |succ k=>simp at hd
theorem zL{P:List Oper->Code->Code->Prop}{ops:List Oper}{ac bd:Code}(h:mh=some (ops,ac,bd))(hp:P ops ac bd):∀ops1 ac1 bd1,mh=some (ops1,ac1,bd1)->P ops1 ac1 bd1:=by intro ops1 ac1 bd1 h';rw[h] at h';cases h';exact hp
variable{g:Nat}{ob:Obj}
theorem Tv{H0 H1:HH}{ob':Obj}(h1:∀y,y≠g->H1 y=upd H0 g (some ob) y)(h2:H1 g=some ob'):H1=upd H0 g (some ob'):=by
 funext y;by_cases e:y=g
 . subst e;rw[h2,aj]
 . rw[h1 y e,ah _ _ e,ah _ _ e]
theorem zM{C:List C3}{R S:List (List Int)}{g:Nat}{ty:TypeId}{H0:HH}{out:List Int}(hR:bU C.length R)(hS:bU C.length S)(hrev:zx C.length R S)(hF:FinOK R C.length out):∀ops ac bd,mh=some (ops,ac,bd)->∀pre x H,Za out (pre++[x])->(∃k L,k<=out.length∧pre=vb out k∧HSt R C.length out (out.length-k) L∧H=upd H0 g (some (rowO (L.map iv) ty)))->
 run EX ac (ul [27,28] x (aq [(1,.ip [.l 3 (C.map aa),.l 1 (R.map rI),.l 1 (S.map rI)]),(3,.ip [.x (.s g C.length C.length)])] [])) (S7 fun st1=>c9 EX EG bd ⟨st1,H⟩ (GT fun s2=>∃k L,k<=out.length∧pre++[x]=vb out k∧HSt R C.length out (out.length-k) L∧s2.H=upd H0 g (some (rowO (L.map iv) ty)))):=by
 refine zL (by rfl) ?_;rintro pre x H ⟨k,hk,hpre⟩ ⟨k',L,hle,rfl,hst,rfl⟩;have e:k'=k:=by have:=ae6 List.length hpre;rw[adh,o8,o8,aej] at this;omega
 subst e;have hx:x=[aw ((out.length-1-k':Nat):Int),aw (out[out.length-1-k']?.getD 0)]:=by rw[ro] at hpre;have:=List.append_cancel_left hpre;simpa using this
 have q:out[out.length-1-k']?=some (out[out.length-1-k']?.getD 0):=by rw[io A0b];rfl
 generalize hr:out[out.length-1-k']?.getD 0=r at q hx;subst hx;have hk1:out.length-k'=(out.length-1-k')+1:=A0b
 rw[hk1] at hst;obtain⟨r0,rl⟩:=(hF.mem r).1 (adg q);have hLn:=hst.1;have rL:r<(L.length:Int):=A0b
 have rC:r<(C.length:Int):=A0b
 have hC4:C.length<=400:=hR.2.1;have z52:rO prog 54=some 1:=A0a
 have c1:=bf (aj H0 g (some (rowO (L.map iv) ty)));obtain⟨y,hy⟩:∃y,L[r.toNat]?=some y:=⟨_,io A0b ⟩;have p4:((L.map iv).map V.x)[r.toNat]?=some (aw y):=by rw[aes,ac9,hy];rfl
 have hkk:out.length-(k'+1)=out.length-1-k':=A0b
 by_cases hyn:y= -1
 case neg=>have e5:decide (y= -1)=false:=Io hyn;simp +decide only[go_sem,EG,HZ,z52,adx,adi,c1,p4,r0,rC,e5];exact⟨k'+1,L,hk,hpre,by rw[hkk];exact hst.skip q ⟨r0,rl⟩ (by rw[hy];exact fun h=>hyn (by cases h;rfl)),rfl⟩
 subst hyn;simp +decide only[go_sem,EG,HZ,z52,adx,adi,c1,p4,r0,rC,EG,HZ];refine⟨C,R,S,r,g,L,ty,by rw[hLn];rfl,by rw[hLn];exact hS,aj _ _ _,r0,hy,fun f L1 H1 hI hc hH1 hH1g=>?_⟩;obtain rfl:=Tv hH1 hH1g;have hfn:f≠[]:=List.ne_nil_of_mem hI.start;have hfl:f.length<=L.length:=dA hI.nd (fun x hx=>(hI.mem x hx).1);have hL1:=hI.len;simp +decide only[go_sem,EG,HZ];refine⟨f,rfl,hfn,A0b,fun d hd hdle=>?_⟩;simp +decide only[go_sem,EG,HZ,eq];refine bz (X:={q:Nat×List Int//q.1<=f.length∧q.2.length=C.length∧∀j:Nat,q.2[j]?=if (j:Int)∈f.take q.1 then some d else L1[j]?}) (fun q=>[(1,.ip [.l 3 (C.map aa),.l 1 (R.map rI),.l 1 (S.map rI)]),(3,.ip [.x (.s g C.length C.length)]),(8,aw d),(40,.l 1 (f.map aw)),(41,aw (f.length:Int)),(42,aw (q.1.1:Int))]) (fun _=>[]) (fun q H'=>H'=upd H0 g (some (rowO (q.1.2.map iv) ty))) (fun q=>f.length-q.1.1) ⟨(0,L1),adN _,by simp only;omega,fun j=>by simp⟩ A0f A0f rfl ?_;rintro⟨⟨i,L2⟩,hi,hL2,h2⟩ H1 rfl;simp only at hi hL2 h2⊢;by_cases hil:i<f.length
 case neg=>have d1:decide ((i:Int)<f.length)=false:=Io A0b;simp +decide only[go_sem,EG,HZ,d1];refine⟨k'+1,L2,hk,hpre,?_,rfl⟩;rw[hkk];refine HSt.tell hF hR hS hrev hst q hy hI hc hd hdle (fun j=>?_);rw[h2 j,ady A0b,hI.val j];split<;>rfl
 have d1:decide ((i:Int)<f.length)=true:=ac0 A0b;have d2:(0:Int)<=(i:Int):=A0b
 have d3:(i:Int)<f.length:=A0b
 have d4:=ax (i:=i) A0b;have p1:f[i]?=some f[i]:=io hil;have p2:(f.map aw)[(i:Int).toNat]?=some (aw f[i]):=by rw[tl,ac9,p1];rfl
 have pm:f[i]∈f:=adR hil;generalize f[i]=x at p1 p2 pm;obtain⟨⟨x0,xl⟩,_,_⟩:=hI.mem x pm;have x2:x<(C.length:Int):=A0b
 have x3:x.toNat+1<=L2.length:=A0b
 have c2:=bf (aj H0 g (some (rowO (L2.map iv) ty)));have hsp:fU (L2.map iv) x.toNat [.int .i64 d]=(L2.set x.toNat d).map iv:=by rw[dh _ _ _ A0w,afH]
 rw[tl] at p2;simp +decide only[go_sem,EG,HZ,z52,adx,adi,eq,tl,c2,d1,d2,d3,d4,p2,x0,x2,x3,hsp,gp];refine⟨⟨(i+1,L2.set x.toNat d),hil,by simp only[adV];exact hL2,fun j=>?_⟩,⟨?_,?_,rfl⟩,by simp only;omega⟩
 . simp only;simp only[adX,h2 j,aF p1,adv,adj];by_cases e:x.toNat=j
   . subst e;rw[adl rfl,adl A0b,adl (.inr A0b)]
   . rw[adq e];have:(j:Int)≠x:=A0b
     simp only[this,ags]
 . exact WM
 . exact WM
theorem CU:qE EX 52 none (vd,vf):=by
 have key:∀ops ac bd,mh=some (ops,ac,bd)->qE EX 52 none (.seq (.region 7 ⟨ops⟩ false) (.block 2 (.rangeFunc (.tmp 26) #[27,28] ac bd)),vf):=by
  have hround:= @zM;refine zL (by rfl) ?_;rintro B s K a w hX ⟨C,R,S,g,ty,⟨ht,hb,hg⟩,hR,hS,hrev,hK⟩;have hC4:C.length<=400:=hR.2.1;have hX:=hX.le (aK ht hb);have hX:=(HoldX.toIp (i:=1) (v:=1) (cs:=[.l 3 (C.map aa),.l 1 (R.map rI),.l 1 (S.map rI)]) (st':=aq [(3,.ptr 3 0)] [(3,[.x (.s g C.length C.length)])]) (fun _=>rfl) hX rfl A0c rfl (aK ⟨rfl,trivial⟩ ⟨rfl,trivial⟩) rfl).le (aK (ts:=[(1,.ip [.l 3 (C.map aa),.l 1 (R.map rI),.l 1 (S.map rI)]),(3,.ptr 3 0)]) (bs:=[(3,[.x (.s g C.length C.length)])]) ⟨rfl,rfl,trivial⟩ ⟨rfl,trivial⟩);have hX:=(HoldX.toIp (i:=3) (v:=3) (cs:=[.x (.s g C.length C.length)]) (st':=aq [(1,.ip [.l 3 (C.map aa),.l 1 (R.map rI),.l 1 (S.map rI)])] []) (fun _=>rfl) hX rfl A0c rfl (aK ⟨rfl,trivial⟩ trivial) rfl).le (aK (ts:=[(1,.ip [.l 3 (C.map aa),.l 1 (R.map rI),.l 1 (S.map rI)]),(3,.ip [.x (.s g C.length C.length)])]) (bs:=[]) ⟨rfl,rfl,trivial⟩ trivial);simp only at hX;refine wpIn_seq (wpIn_region ?_);refine(wpOpsIn_cons ..).mpr ?_;refine qF (F:=EG) (K':=fun s'=>gw s'.st [(1,.ip [.l 3 (C.map aa),.l 1 (R.map rI),.l 1 (S.map rI)]),(3,.ip [.x (.s g C.length C.length)]),(24,jf C R S)]∧s'.H=s.H) tB ve (fun t s C e=>by cases e) rfl (by intro k hk;cases hk;decide) hX ?_ ?_
  . simp +decide only[go_sem,jf,EG,HZ]<;>(repeat' first|rfl|constructor)
  rintro⟨st1,H1⟩ a1 w1 ⟨ht,rfl⟩ hX1;have hX:=hX1.le (aK (bs:=[]) ht trivial);refine(wpOpsIn_cons ..).mpr ?_;refine qF (F:=EG) (K':=fun s'=>∃out,FinOK R C.length out∧gw s'.st [(1,.ip [.l 3 (C.map aa),.l 1 (R.map rI),.l 1 (S.map rI)]),(3,.ip [.x (.s g C.length C.length)]),(25,.l 1 (out.map aw))]∧s'.H=s.H) tB ve (fun t s C e=>by cases e) rfl (by intro k hk;cases hk;decide) hX ?_ ?_
  . simp +decide only[go_sem,jf,EG,HZ];refine⟨C,R,S,rfl,hR,fun out hF=>⟨out,hF,?_⟩⟩;simp +decide only[go_sem]<;>(repeat' first|rfl|constructor)
  rintro⟨st2,H1⟩ a2 w2 ⟨out,hF,ht2,rfl⟩ hX2;have hX:=hX2.le (aK (bs:=[]) ht2 trivial);have hol:out.length<=400:=by have:=dA hF.nd (n:=C.length) (fun x hx=>(hF.mem x).1 hx);omega
  obtain⟨ao,ln,cp,hv⟩:∃ao ln cp,a2.eval (.tmp 25)= .slice ao ln cp:=by obtain⟨m,hr⟩:=hX.rdx (.tmp 25) (u:= .l 1 (out.map aw)) rfl rfl;generalize a2.eval (.tmp 25)=v at hr;generalize out.map aw=es at hr;cases hr<;>exact⟨_,_,_,rfl⟩
  refine Lm (f:=33) (args:= #[.tmp 25]) (d:=26) (u:= .x (.func (.func 49) #[] #[.pointer (some ⟨w2.heap.size,0,none⟩)])) (R:=fun e w'=>e= .returned (.func (.func 49) #[] #[.pointer (some ⟨w2.heap.size,0,none⟩)])∧w'=w2.alloc (.cells #[.slice ao ln cp] 54)) ⟨fun m w=>B.Kn.P m w∧Rd m w (.pointer (some ⟨w2.heap.size,0,none⟩)) (.ip [.l 1 (out.map aw)]),fun m w m' w' h he=>⟨B.Kn.mono _ _ _ _ h.1 he,h.2.mono he⟩⟩ rfl rfl rfl A0c rfl (fun a w=>call33 a w) hX ?_ ?_
  . intro m D O hn hk;rw[show Array.map a2.eval #[Operand.tmp 25]= #[.slice ao ln cp] from by simp[hv]];exact HE ao ln cp w2
  . rintro m D O hn hk e w' ⟨rfl,rfl⟩;have hrd:Rd m w2 (.slice ao ln cp) (.l 1 (out.map aw)):=by
     obtain⟨_,_,hr⟩:=hn.rel;have h9:Rd m w2 (a2.eval (.tmp 25)) (.l 1 (out.map aw)):=(hr.tmps 25:Rs m w2 _ (a2.eval (.tmp 25)) (.l 1 (out.map aw))).dat rfl
     rwa [hv] at h9
    obtain⟨h1,h2⟩:=YX (ty:=54) hrd;refine⟨_,_,rfl,h1,tB.keep [] _ _ (fun x hx=>by cases hx) hn.J (h1.bel (fun k _ h=>h.elim)),.x _,⟨B.Kn.mono _ _ _ _ hk h1.ext,h2⟩,fun hX3=>?_⟩;generalize w2.alloc (.cells #[.slice ao ln cp] 54)=w3 at hX3⊢;generalize a2.put (some 26) (.func (.func 49) #[] #[.pointer (some ⟨w2.heap.size,0,none⟩)])=a3 at hX3⊢;rw[dB] at hX3;refine wpIn_block ?_
    refine wpIn_mono (Ln (K:=fun o s'=>o= .normal∧∃hs,HeadsOK R C.length hs∧s'=⟨aq [(1,.ip [.l 3 (C.map aa),.l 1 (R.map rI),.l 1 (S.map rI)]),(3,.ip [.x (.s g C.length C.length)])] [],upd s.H g (some (rowO (hs.map iv) ty))⟩) (F:=EG) (Ok:=Za out) (Done:=Q6 out) tB rm ve (fun t s C e=>by cases e) (fun _=>rfl) hX3 (hX3.ev (.tmp 26) rfl) (fun a w=>call49 a w) (fun m0 hk0 m1 w1 hs1 hj1=>HF hol ⟨hk0.2.mono hs1.ext,trivial⟩) [(1,.ip [.l 3 (C.map aa),.l 1 (R.map rI),.l 1 (S.map rI)]),(3,.ip [.x (.s g C.length C.length)])] ⟨rfl,rfl,trivial⟩ A0a (by intro p hp;simp at hp;rcases hp with rfl|rfl<;>decide) (fun pre x ⟨k,hk,e⟩=>?_) A0a A0a
     (fun pre H=>∃k L,k<=out.length∧pre=vb out k∧HSt R C.length out (out.length-k) L∧H=upd s.H g (some (rowO (L.map iv) ty))) ⟨0,List.replicate C.length (-1),adN _,rfl,HSt.start (adp _),?_⟩ (hround hR hS hrev hF _ _ _ rfl) ?_) ?_
    . rw[ro] at e;have:=(List.append_inj' e rfl).2;simp only[adW,aeQ] at this;rw[this];rfl
    . funext y;by_cases e:y=g
      . subst e;rw[aj];exact hg
      . rw[ah _ _ e]
    . rintro xs H hd ⟨k,L,hk,rfl,hst,rfl⟩;have e:k=out.length:=by
       have:=ae6 List.length hd
       rwa [o8,o8] at this
      subst e;rw[agv] at hst;exact⟨rfl,L,hst.done hF,rfl⟩
    . rintro e a4 w4 ⟨o,s',ho,⟨rfl,hs,hh,rfl⟩,hX4⟩;have he:e= .normal:=by cases e<;>simp[eL] at ho<;>rfl
      subst he;exact⟨.normal,_,rfl,hK hs hh ⟨out,hF⟩,hX4.kn (fun m w h=>h.1)⟩
 have e:vd= .seq (.region 7 ⟨(mh.getD ([],.skip,.skip)).1⟩ false) (.block 2 (.rangeFunc (.tmp 26) #[27,28] (mh.getD ([],.skip,.skip)).2.1 (mh.getD ([],.skip,.skip)).2.2)):=A0a
 rw[e];exact key _ _ _ A0a
theorem HG{H:HH}{L:List Int}(hg:H g=some (rowO (L.map iv) ty))(hw:∀g ob,H g=some ob->w.heap[g]?=some ob)(hm:∀g,H g≠none->m g=none):Rd m w (.s g L.length L.length) (.l 1 (L.map aw)):=by
 have hh:=hw g _ hg;have hmg:=hm g A0M;have:=Rd.sl (m:=m) (w:=w) g 0 L.length 1 (L.map aw) none (fun k=>((L.map iv)[k]?).getD undef) (ag hh) (by rw[eq];exact adp _) (fun i e hi=>by
  rw[ac9,adn] at hi;obtain⟨n,_,rfl⟩:=hi;rfl) (fun k hk=>by
  rw[eq,adx] at hk;rw[adi,Box.cell hh,aew,io A0w];rfl) (fun fr hf=>by rw[hmg] at hf;cases hf) (fun i e hi j d hd=>by
  rw[ac9,adn] at hi;obtain⟨q,hn,rfl⟩:=hi;cases j with
  |zero=>cases hd;rw[adx,aeq,ac9,hn];exact .x _
  |succ j=>cases hd)
 rwa [eq] at this
def Mu(us:U)(H:HH)(T:V->HH->Prop):Prop:=∃C R S,us=[jf C R S]∧bU C.length R∧bU C.length S∧zx C.length R S∧∀hs,HeadsOK R C.length hs->(∃out,FinOK R C.length out)->T (.l 1 (hs.map aw)) H
def Zb:Fx:={F:=yK HZ,D:=fun d=>d==14,P:=fun id=>if id=7 then some (vd,vf) else none}
theorem HI:cR EX 16 Mu:=by
 refine yJ (F:=Zb) (n:=52) (k:=1) tB rm ve (fun t s C e=>by cases e) (fun id p e=>by
  replace e:(if id=7 then some (vd,vf) else none)=some p:=e;split at e
  . cases e;exact CU
  . cases e) func16 rfl (fun a w=>call16 a w) ntmps16 A0c A0c A0a ?_
 rintro us H T ⟨C,R,S,rfl,hR,hS,hrev,hT⟩ hdat;refine⟨rfl,?_⟩;have hC4:C.length<=400:=hR.2.1;simp only[jf];have m52:Pv prog 54=some (3,1,8,.int .i64 0):=A0a
 have z52:rO prog 54=some 1:=A0a
 have l1:((8:Nat):Int)*(C.length:Int)<=281474976710656:=A0b
 have l2:(C.length:Int)<=9223372036854775807:=A0b
 have l3:(0:Int)<=(C.length:Int):=A0b
 simp +decide (maxDischargeDepth:=200) only[go_sem,Nat.reduceBEq,Zb,m52,z52,eq,l1,l2,l3,tl,adx,adB,adw,Nat.reduceEqDiff];intro g hg;refine bz (X:={q:Nat×List Int//q.1<=C.length∧q.2.length=C.length∧∀j:Nat,j<q.1->q.2[j]?=some (-1)}) (fun q=>[(1,.ptr 1 0),(3,.ptr 3 0),(16,aw (C.length:Int)),(17,aw (q.1.1:Int))]) (fun _=>[(1,[.l 3 (C.map aa),.l 1 (R.map rI),.l 1 (S.map rI)]),(3,[.x (.s g C.length C.length)])]) (fun q H'=>H'=mer H (upd (fun _=>none) g (some (rowO (q.1.2.map iv) 3)))) (fun q=>C.length-q.1.1) ⟨(0,List.replicate C.length 0),adN _,aez,fun j h=>by omega⟩ A0f A0f (by show upd H g _=_;rw[<-cH hg,jo,List.map_replicate]) ?_;rintro⟨⟨i,L⟩,hi,hL,hc⟩ H1 rfl;simp only at hi hL hc⊢;have hm:mer H (upd (fun _=>none) g (some (rowO (L.map iv) 3))) g=some (rowO (L.map iv) 3):=by rw[iB hg,aj]
 have c1:=bf hm;by_cases hil:i<C.length
 case pos=>
  have d1:decide ((i:Int)<C.length)=true:=ac0 A0b;have d2:(0:Int)<=(i:Int):=A0b
  have d3:(i:Int)<C.length:=A0b
  have d4:=ax (i:=i) A0b;have d5:i+1<=L.length:=A0b
  have hsp:fU (L.map iv) i [.int .i64 (-1)]=(L.set i (-1)).map iv:=by rw[dh _ _ _ A0w,afH]
  have u1:∀o,upd (mer H (upd (fun _=>none) g (some (rowO (L.map iv) 3)))) g o=mer H (upd (fun _=>none) g o):=fun o=>by rw[cH hg,gp]
  simp +decide only[go_sem,Nat.reduceBEq,Zb,z52,adx,adi,eq,tl,c1,d1,d2,d3,d4,d5,hsp,u1,adB,adw,Nat.reduceEqDiff];refine⟨⟨(i+1,L.set i (-1)),hil,by simp only[adV];exact hL,fun j hj=>?_⟩,⟨?_,?_,rfl⟩,by simp only;omega⟩
  . simp only at hj⊢;rw[adX];by_cases e:i=j
    . subst e;rw[adl rfl,adl A0b]
    . rw[adq e];exact hc j A0b
  . simp +decide only[go_sem,Nat.reduceBEq]
  . simp +decide only[go_sem,Nat.reduceBEq]
 have d1:decide ((i:Int)<C.length)=false:=Io A0b;have hLr:L=List.replicate C.length (-1):=by rw[List.eq_replicate_iff];refine⟨hL,fun b hb=>?_⟩;obtain⟨j,hj⟩:=ad8.1 hb;have hjl:=(iO.1 hj).1;rw[hc j A0b] at hj;cases hj;rfl
 subst hLr;simp +decide only[go_sem,Nat.reduceBEq,Zb,d1,adB,adw,Nat.reduceEqDiff];refine⟨A0a,C,R,S,g,3,⟨?_,?_,hm⟩,hR,hS,hrev,fun hs hh hfo=>?_⟩
 . exact WJ
 . exact WJ
 have hhl:=hh.1;simp +decide only[go_sem,Nat.reduceBEq,adB,adw,Nat.reduceEqDiff];rw[cH hg,gp];refine nh (fun m w v h1 h2 h3=>?_) ((Dis.empty H).upd hg) (hT hs hh hfo);rw[Rd.x_iff.1 h3,<-hhl];exact HG (aj _ _ _) h1 h2
structure WInv (n:Nat) (R0:List (List Int)) (i k:Nat) (R S:List (List Int)):Prop where
 lR:R.length=n
 lS:S.length=n
 r:∀j:Nat,j<n->R[j]?=some (if j<i then rowZ R0 (j:Int) else if j=i then (rowZ R0 (j:Int)).take k else [])
 s:∀p:Nat,p<n->∃l,S[p]?=some l∧l.Pairwise (· < ·)∧∀z:Int,z∈l↔∃j:Nat,z=(j:Int)∧((j<i∧(p:Int)∈rowZ R0 (j:Int))∨(j=i∧(p:Int)∈(rowZ R0 (j:Int)).take k))
theorem WInv.zero(n:Nat)(R0:List (List Int)):WInv n R0 0 0 (List.replicate n []) (List.replicate n []):=by
 refine⟨aez,aez,fun j hj=>?_,fun p hp=>⟨[],by rw[ad4,adl hp],List.Pairwise.nil,fun z=>⟨fun h=>A09,?_⟩⟩⟩
 . rw[ad4,adl hj,adq A0b,ad5];split<;>rfl
 . rintro⟨j,_,⟨h,_⟩|⟨_,h⟩⟩
   . omega
   . rw[ad5] at h;cases h
variable{n:Nat}{R0 R S:List (List Int)}
theorem WInv.next{i:Nat}(h:WInv n R0 i (rowZ R0 (i:Int)).length R S):WInv n R0 (i+1) 0 R S:=by
 refine⟨h.lR,h.lS,fun j hj=>?_,fun p hp=>?_⟩
 . rw[h.r j hj];congr 1;by_cases e:j=i
   . subst e;rw[adq A0b,adl rfl,adl A0b,aei]
   . by_cases e2:j<i
     . rw[adl e2,adl A0b]
     . rw[adq e2,adq e,adq A0b,ad5];split<;>rfl
 . obtain⟨l,h1,h2,h3⟩:=h.s p hp;refine⟨l,h1,h2,fun z=>(h3 z).trans ⟨?_,?_⟩⟩
   . rintro⟨j,rfl,⟨a,b⟩|⟨rfl,b⟩⟩
     . exact⟨j,rfl,.inl ⟨A0b,b⟩⟩
     . rw[aei] at b;exact⟨j,rfl,.inl ⟨A0b,b⟩⟩
   . rintro⟨j,rfl,⟨a,b⟩|⟨_,b⟩⟩
     . by_cases e:j=i
       . subst e;exact⟨j,rfl,.inr ⟨rfl,by rw[aei];exact b⟩⟩
       . exact⟨j,rfl,.inl ⟨A0b,b⟩⟩
     . rw[ad5] at b;cases b
theorem WInv.step{n:Nat}{R0 R S:List (List Int)}{i k:Nat}{p:Int}{l:List Int}(h:WInv n R0 i k R S)(hi:i<n)(hp:(rowZ R0 (i:Int))[k]?=some p)(p0:0<=p)(hnd:(rowZ R0 (i:Int)).Nodup)(hl:S[p.toNat]?=some l):
 WInv n R0 i (k+1) (R.set i ((rowZ R0 (i:Int)).take k++[p])) (S.set p.toNat (l++[(i:Int)])):=by
 have ht:=aF hp;have hpt:p∉(rowZ R0 (i:Int)).take k:=fun hm=>by
  obtain⟨j,hj⟩:=ad8.1 hm;rw[ad6] at hj;split at hj
  . rename_i hjk;have h1:=(iO.1 hj);have h2:=(iO.1 hp);have:=(List.getElem_inj hnd).1 (h1.2.trans h2.2.symm);omega
  . cases hj
 refine⟨by rw[adV];exact h.lR,by rw[adV];exact h.lS,fun j hj=>?_,fun q hq=>?_⟩
 . rw[adX];by_cases e:i=j
   . subst e;rw[adl rfl,adl (by rw[h.lR];exact hj),adq A0b,adl rfl,ht]
   . rw[adq e,h.r j hj];simp only[show¬j=i from fun e'=>e e'.symm,adw]
 . obtain⟨l',h1,h2,h3⟩:=h.s q hq;rw[adX];by_cases e:p.toNat=q
   . subst e;rw[hl] at h1;cases h1;rw[aec p0] at h3⊢;refine⟨l++[(i:Int)],by rw[adl rfl,adl (by rw[h.lS];exact hq)],aeF.2 ⟨h2,aeY _ _,fun a ha b hb=>?_⟩,fun z=>?_⟩
     . rw[adj] at hb;subst hb;obtain⟨j,rfl,⟨a,_⟩|⟨rfl,b⟩⟩:=(h3 a).1 ha
       . omega
       . exact absurd b hpt
     . rw[adv,adj,h3 z];constructor
       . rintro(⟨j,rfl,⟨a,b⟩|⟨rfl,b⟩⟩|rfl)
         . exact WK
         . exact⟨j,rfl,.inr ⟨rfl,by rw[ht];exact ad2 _ b⟩⟩
         . exact⟨i,rfl,.inr ⟨rfl,by rw[ht];exact aeG _ (adj.2 rfl)⟩⟩
       . rintro⟨j,rfl,⟨a,b⟩|⟨rfl,b⟩⟩
         . exact .inl ⟨j,rfl,.inl ⟨a,b⟩⟩
         . exact .inr rfl
   . rw[adq e];refine⟨l',h1,h2,fun z=>(h3 z).trans ⟨?_,?_⟩⟩
     . rintro⟨j,rfl,⟨a,b⟩|⟨rfl,b⟩⟩
       . exact WK
       . exact⟨j,rfl,.inr ⟨rfl,by rw[ht];exact ad2 _ b⟩⟩
     . rintro⟨j,rfl,⟨a,b⟩|⟨rfl,b⟩⟩
       . exact WK
       . rw[ht,adv,adj] at b;exact⟨j,rfl,.inr ⟨rfl,b.resolve_right A0b ⟩⟩
def Mv(n:Nat)(R S:List (List Int)):Prop:=bU n R∧bU n S∧zx n R S∧(∀l∈R,l.Nodup)∧∀l∈S,l.Nodup
theorem WInv.done(h:WInv n R0 n 0 R S)(hR:bU n R0)(hnd:∀l∈R0,l.Nodup):R=R0∧Mv n R0 S:=by
 have hrow:∀{p:Nat} {l:List Int},p<n->S[p]?=some l->l.Pairwise (· < ·)∧∀z:Int,z∈l↔∃j:Nat,z=(j:Int)∧j<n∧(p:Int)∈rowZ R0 (j:Int):=fun {p l} hp hl=>by
  obtain⟨l',h1,h2,h3⟩:=h.s p hp;rw[hl] at h1;cases h1;refine⟨h2,fun z=>(h3 z).trans ⟨?_,?_⟩⟩
  . rintro⟨j,rfl,⟨a,b⟩|⟨_,b⟩⟩
    . exact⟨j,rfl,a,b⟩
    . rw[ad5] at b;cases b
  . rintro⟨j,rfl,a,b⟩;exact WK
 have hlt:∀l∈S,l.Nodup∧∀z∈l,0<=z∧z.toNat<n:=fun l hl=>by
  obtain⟨p,hp⟩:=ad8.1 hl;have hpn:p<n:=by rw[<-h.lS];exact(iO.1 hp).1
  obtain⟨h1,h2⟩:=hrow hpn hp;refine⟨h1.imp fun {a b} h=>by omega,fun z hz=>?_⟩;obtain⟨j,rfl,hj,_⟩:=(h2 z).1 hz;exact⟨aeP j,by rw[tl];exact hj⟩
 refine⟨?_,hR,⟨h.lS,hR.2.1,fun l hl=>⟨?_,(hlt l hl).2⟩⟩,fun x y x0 xn y0 yn=>?_,hnd,fun l hl=>(hlt l hl).1⟩
 . apply aeB;intro j;by_cases hj:j<n
   . rw[h.r j hj,adl hj];unfold rowZ;rw[tl,io (by rw[hR.1];exact hj)];rfl
   . rw[adM (by rw[h.lR];omega),adM (by rw[hR.1];omega)]
 . have:=dA (hlt l hl).1 (hlt l hl).2;have:=hR.2.1;omega
 . obtain⟨l,hl⟩:∃l,S[y.toNat]?=some l:=⟨_,io (by rw[h.lS];exact yn)⟩;obtain⟨_,h2⟩:=hrow yn hl;rw[aec y0] at h2;unfold rowS;rw[hl,aeI,h2 x];constructor
   . rintro⟨j,rfl,_,b⟩;exact b
   . intro b;exact⟨x.toNat,A0b,xn,by rw[aec x0];exact b⟩
structure WQ (n gR gS:Nat) (vR vS:List Value) (R S:List (List Int)) (H:HH):Prop where
 r:H gR=some (rowO vR 54)
 s:H gS=some (rowO vS 54)
 ne:gR≠gS
 rows:Piles H (vR++vS) (R++S) [gR,gS]
 lR:R.length=n
 lS:S.length=n
 lvR:vR.length=n
 lvS:vS.length=n
section
variable{n gR gS:Nat}{vR vS:List Value}{R S:List (List Int)}{H:HH}
theorem WQ.on(h:WQ n gR gS vR vS R S H):∀x∈[gR,gS],H x≠none:=by
 intro x hx;simp only[adA,ae5,ags] at hx;rcases hx with rfl|rfl
 . rw[h.r];exact fun h=>by cases h
 . rw[h.s];exact fun h=>by cases h
theorem WQ.far(h:WQ n gR gS vR vS R S H){j:Nat}{vi:Value}(hi:(vR++vS)[j]?=some vi){g:Nat}(hg:blkOf vi=some g∨H g=none):∀x∈[gR,gS],x≠g:=by
 intro x hx e;subst e;rcases hg with hg|hg
 . exact h.rows.out j vi x hi hg hx
 . exact h.on x hx hg
theorem WQ.inS(h:WQ n gR gS vR vS R S H)(i:Nat):(vR++vS)[n+i]?=vS[i]?:=by rw[adH (by rw[h.lvR];omega),h.lvR,aeX]
theorem WQ.inR(h:WQ n gR gS vR vS R S H){i:Nat}(hi:i<n):(vR++vS)[i]?=vR[i]?:=adu (by rw[h.lvR];exact hi)
theorem WQ.rowR(h:WQ n gR gS vR vS R S H){i:Nat}{v:Value}{es:List Int}(hi:vR[i]?=some v)(he:R[i]?=some es):RowI H v es:=by have hil:=(iO.1 hi).1;exact h.rows.row i v es (by rw[h.inR (by rw[<-h.lvR];exact hil)];exact hi) (by rw[adu (by rw[h.lR,<-h.lvR];exact hil)];exact he)
theorem WQ.rowS(h:WQ n gR gS vR vS R S H){i:Nat}{v:Value}{es:List Int}(hi:vS[i]?=some v)(he:S[i]?=some es):RowI H v es:=
 h.rows.row (n+i) v es (by rw[h.inS];exact hi) (by rw[adH (by rw[h.lR];omega),h.lR,aeX];exact he)
theorem WQ.setR(h:WQ n gR gS vR vS R S H){i g:Nat}{vi v':Value}{es:List Int}{ob:Obj}(hi:vR[i]?=some vi)(hb:blkOf v'=some g)(hg:blkOf vi=some g∨H g=none)(hr:RowI (upd H g (some ob)) v' es):WQ n gR gS (vR.set i v') vS (R.set i es) S (upd (upd H g (some ob)) gR (some (rowO (vR.set i v') 54))):=by
 have hil:=(iO.1 hi).1;have hi2:(vR++vS)[i]?=some vi:=by rw[adu hil];exact hi
 have hf:=h.far hi2 hg;refine⟨aj _ _ _,by rw[ah _ _ (aeM h.ne),ah _ _ (hf gS A0k)];exact h.s,h.ne,?_,by rw[adV];exact h.lR,h.lS,by rw[adV];exact h.lvR,h.lvS⟩;have:=(h.rows.set hi2 h.on hb hg hr).other (x:=gR) (o:=some (rowO (vR.set i v') 54)) A0k;rw[aga _ _ hil,aga _ _ (by rw[h.lR,<-h.lvR];exact hil)] at this;exact this
theorem WQ.setS(h:WQ n gR gS vR vS R S H){i g:Nat}{vi v':Value}{es:List Int}{ob:Obj}(hi:vS[i]?=some vi)(hb:blkOf v'=some g)(hg:blkOf vi=some g∨H g=none)(hr:RowI (upd H g (some ob)) v' es):WQ n gR gS vR (vS.set i v') R (S.set i es) (upd (upd H g (some ob)) gS (some (rowO (vS.set i v') 54))):=by
 have hi2:(vR++vS)[n+i]?=some vi:=by rw[h.inS];exact hi
 have hf:=h.far hi2 hg;refine⟨by rw[ah _ _ h.ne,ah _ _ (hf gR A0k)];exact h.r,aj _ _ _,h.ne,?_,h.lR,by rw[adV];exact h.lS,h.lvR,by rw[adV];exact h.lvS⟩;have:=(h.rows.set hi2 h.on hb hg hr).other (x:=gS) (o:=some (rowO (vS.set i v') 54)) A0k;rw[af4 _ _ (by rw[h.lvR];omega),af4 _ _ (by rw[h.lR];omega),h.lvR,h.lR,aeX] at this;exact this
theorem WQ.zero{gR gS:Nat}(hne:gR≠gS):WQ n gR gS (List.replicate n (.slice none 0 0)) (List.replicate n (.slice none 0 0)) (List.replicate n []) (List.replicate n []) (upd (upd (fun _=>none) gR (some (rowO (List.replicate n (.slice none 0 0)) 54))) gS (some (rowO (List.replicate n (.slice none 0 0)) 54))):=by
 have key:∀{i:Nat} {v:Value},(List.replicate n (Value.slice none 0 0)++List.replicate n (.slice none 0 0))[i]?=some v->v= .slice none 0 0:=fun {i v} hv=>by rw[afj,ad4] at hv;split at hv<;>cases hv;rfl
 refine⟨by rw[ah _ _ hne,aj],aj _ _ _,hne,⟨A0k,fun i v es hv he=>?_,fun i j v v' b _ hv _ hb=>?_,fun i v b hv hb=>?_⟩,aez,aez,aez,aez⟩
 . rw[afj,ad4] at he;split at he<;>cases he;exact .inl ⟨rfl,key hv⟩
 . rw[key hv] at hb;cases hb
 . rw[key hv] at hb;cases hb
end
noncomputable abbrev WE:Env:=bV [(30,FE cd YN),(31,FE oF Yr),(32,FE oG Yq)] [] [] (fun _=>false) (fun _=>false)
theorem YY:EnvOK WE:=bF _ _ _ _ _ ⟨Md,Cz,Cx,trivial⟩ trivial trivial
def iM(b f g0 n:Nat)(y x:Int)(v v':Value)(k:Nat):V:=if k<b then .undef else match k-b with
 |0=> .ptr 8 f|1=> .x (.s g0 n n)|2=>aw y|3=> .ptr 8 f|4=> .x (.s g0 n n)|5=>aw y|6=> .x (.pointer (some ⟨g0,y.toNat,none⟩))|7=> .x v|8=>aw x|9=> .sl false 1 [aw x] none|10=> .x v'|11=> .x (.pointer (some ⟨g0,y.toNat,none⟩))|_=> .undef
theorem HJ{b f g0:Nat}{y x:Int}(v' v'':Value){k:Nat}(h:k≠b+10):iM b f g0 n y x v v'' k=iM b f g0 n y x v v' k:=by
 unfold iM;by_cases hk:k<b
 . rw[adl hk,adl hk]
 . rw[adq hk,adq hk];generalize hj:k-b=j
   match j with
   |0=>rfl
   |1=>rfl
   |2=>rfl
   |3=>rfl
   |4=>rfl
   |5=>rfl
   |6=>rfl
   |7=>rfl
   |8=>rfl
   |9=>rfl
   |10=>exact absurd A0b h
   |11=>rfl
   |j+12=>rfl
def IAdd(H:HH)(b f g0 n:Nat)(y x:Int)(vs:List Value)(v:Value)(es:List Int)(L:Nat)(H':HH)(val:Nat->V):Prop:=∃v',val=iM b f g0 n y x v v'∧(L.testBit 10=false->H'=H)∧
 (L.testBit 10=true->∃g ob,blkOf v'=some g∧(blkOf v=some g∨H g=none)∧RowJ (upd H g (some ob)) v' (es++[x])∧H'=if L.testBit 12=true then upd (upd H g (some ob)) g0 (some (rowO (vs.set y.toNat v') 54)) else upd H g (some ob))
section
variable{H H':HH}{b f g0 n:Nat}{y x:Int}{vs:List Value}{v:Value}{es:List Int}{L:Nat}{val:Nat->V}
theorem IAdd.next(h:IAdd H b f g0 n y x vs v es L H' val){k:Nat}(h1:k≠10)(h2:k≠12):IAdd H b f g0 n y x vs v es (L|||2^k) H' val:=by unfold IAdd;rw[av L h1,av L h2];exact h
theorem IAdd.cell(h:IAdd H b f g0 n y x vs v es L H' val)(h0:H g0=some (rowO vs 54))(hf:blkOf v≠some g0)(hb:L.testBit 12=false):jG H' g0=some (vs,54):=by
 obtain⟨v',_,q0,q1⟩:=h;cases h8:L.testBit 10 with
 |false=>rw[q0 h8];exact bf h0
 | true=>
   obtain⟨g,ob,_,hg,_,rfl⟩:=q1 h8;rw[adq A1o];refine bf ?_;rw[ah _ _ ?_]
   . exact h0
   . rintro rfl;rcases hg with hg|hg
     . exact hf hg
     . rw[h0] at hg;cases hg
theorem IAdd.app(h:IAdd H b f g0 n y x vs v es L H' val){v' v'':Value}{g:Nat}{ob:Obj}(h12:L.testBit 12=false)(hb':blkOf v''=some g)(hg:blkOf v=some g∨H g=none)(hr:RowJ (upd H g (some ob)) v'' (es++[x]))(hv:val=iM b f g0 n y x v v'):
 (∀k,some (b+10)≠some k->iM b f g0 n y x v v'' k=val k)∧IAdd H b f g0 n y x vs v es (L|||2^10) (upd H g (some ob)) (iM b f g0 n y x v v''):=by
 have _:=h;refine⟨fun k hk=>by rw[hv];exact HJ _ _ (fun e=>hk A08),v'',rfl,fun h=>?_,fun _=>⟨g,ob,hb',hg,hr,?_⟩⟩
 . rw[cy L 10] at h;cases h
 . rw[av L (by decide :(10:Nat)≠12),h12,adq A0k]
theorem IAdd.put(h:IAdd H b f g0 n y x vs v es L H' val){v':Value}{g:Nat}{ob:Obj}(h10:L.testBit 10=true)(hb':blkOf v'=some g)(hg:blkOf v=some g∨H g=none)(hr:RowJ (upd H g (some ob)) v' (es++[x]))(hv:val=iM b f g0 n y x v v'):IAdd H b f g0 n y x vs v es (L|||2^12) (upd (upd H g (some ob)) g0 (some (rowO (vs.set y.toNat v') 54))) val:=by have _:=h;refine⟨v',hv,fun h=>?_,fun _=>⟨g,ob,hb',hg,hr,by rw[adl (cy L 12)]⟩⟩;rw[av L (by decide :(12:Nat)≠10),h10] at h;cases h
end
def oM(n:Nat)(CVV:V)(g1 g2:Nat)(b7 b8:Bool):Nat->V
 |30=>CVV|31=>CVV|34=>CVV|32=>aw (n:Int)|35=>aw (n:Int)|33=> .x (.s g1 n n)|36=> .x (.s g2 n n)|37=>bif b7 then .agg [CVV,.x (.s g1 n n),.x (.s g2 n n)] else .undef|8=>bif b8 then .ptr 8 0 else .undef|_=> .undef
abbrev FS:=([.sl true 0 [] none,.sl true 0 [] none,.sl true 0 [] none]:List V)
def IWeb(H:HH)(b0:Nat->Option U)(n:Nat)(CVV:V)(ob:Obj)(L:Nat)(H':HH)(val:Nat->V)(bx:Nat->Option U):Prop:=∃g1 g2,val=oM n CVV g1 g2 (L.testBit 7) (L.testBit 8)∧(L.testBit 3=true->H g1=none)∧(L.testBit 6=true->H g2=none)∧(L.testBit 3=true->L.testBit 6=true->g1≠g2)∧
 H'=(if L.testBit 6=true then upd (if L.testBit 3=true then upd H g1 (some ob) else H) g2 (some ob) else if L.testBit 3=true then upd H g1 (some ob) else H)∧
 bx=if L.testBit 9=true then upd b0 8 (some [CVV,.x (.s g1 n n),.x (.s g2 n n)]) else if L.testBit 8=true then upd b0 8 (some FS) else b0
section
variable{H H':HH}{b0 bx:Nat->Option U}{n:Nat}{CVV:V}{ob:Obj}{L:Nat}{val:Nat->V}
theorem IWeb.next(h:IWeb H b0 n CVV ob L H' val bx){k:Nat}(h1:k≠3)(h2:k≠6)(h5:k≠7)(h3:k≠8)(h4:k≠9):IWeb H b0 n CVV ob (L|||2^k) H' val bx:=by unfold IWeb;rw[av L h1,av L h2,av L h3,av L h4,av L h5];exact h
theorem jp{f:HH}{k:Nat}(h:upd f g (some ob) k=none):f k=none∧k≠g:=by
 by_cases e:k=g
 . subst e;rw[aj] at h;cases h
 . rw[ah _ _ e] at h;exact⟨h,e⟩
theorem EH(n:Nat)(CVV:V){g1 g2 g1' g2':Nat}{b7 b8:Bool}{k:Nat}(h1:g1=g1'∨(b7=false∧k≠33))(h2:g2=g2'∨(b7=false∧k≠36)):oM n CVV g1 g2 b7 b8 k=oM n CVV g1' g2' b7 b8 k:=by
 unfold oM;split<;>first|rfl|skip
 . rcases h1 with rfl|h1
   . rfl
   . exact absurd rfl h1.2
 . rcases h2 with rfl|h2
   . rfl
   . exact absurd rfl h2.2
 . rcases h1 with rfl|h1
   . rcases h2 with rfl|h2
     . rfl
     . rw[h2.1];rfl
   . rw[h1.1];rfl
theorem IWeb.row1(h:IWeb H b0 n CVV ob L H' val bx){g:Nat}(hg:H' g=none)(h3:L.testBit 3=false)(h7:L.testBit 7=false)(h9:L.testBit 9=false):∃val',(∀k,some 33≠some k->val' k=val k)∧val' 33= .x (.s g n n)∧IWeb H b0 n CVV ob (L|||2^3) (upd H' g (some ob)) val' bx:=by
 obtain⟨g1,g2,rfl,f1,f2,f3,hH',hbx⟩:=h;simp only[h3,adI,adw] at hH';refine⟨oM n CVV g g2 (L.testBit 7) (L.testBit 8),fun k hk=>EH _ _ (.inr ⟨h7,fun e=>hk A08 ⟩) (.inl rfl),rfl,g,g2,by rw[av L (by decide :(3:Nat)≠7),av L (by decide :(3:Nat)≠8)],fun _=>?_,?_,?_,?_,?_⟩
 . rw[hH'] at hg;split at hg
   . exact(jp hg).1
   . exact hg
 . rw[av L (by decide :(3:Nat)≠6)];exact f2
 . rw[av L (by decide :(3:Nat)≠6)];intro _ h6;rw[hH',adl h6] at hg;exact(jp hg).2
 . rw[cy,av L (by decide :(3:Nat)≠6),hH'];simp only[adB];by_cases h6:L.testBit 6=true
   . rw[adl h6,adl h6];refine iS _ _ _ (fun e=>?_);rw[hH',adl h6] at hg;exact(jp hg).2 e.symm
   . rw[adq h6,adq h6]
 . rw[av L (by decide :(3:Nat)≠9),av L (by decide :(3:Nat)≠8),hbx,h9];simp only[adI,adw]
theorem IWeb.row2(h:IWeb H b0 n CVV ob L H' val bx){g:Nat}(hg:H' g=none)(h6:L.testBit 6=false)(h7:L.testBit 7=false)(h9:L.testBit 9=false):∃val',(∀k,some 36≠some k->val' k=val k)∧val' 36= .x (.s g n n)∧IWeb H b0 n CVV ob (L|||2^6) (upd H' g (some ob)) val' bx:=by
 obtain⟨g1,g2,rfl,f1,f2,f3,hH',hbx⟩:=h;simp only[h6,adI,adw] at hH';refine⟨oM n CVV g1 g (L.testBit 7) (L.testBit 8),fun k hk=>EH _ _ (.inl rfl) (.inr ⟨h7,fun e=>hk A08 ⟩),rfl,g1,g,by rw[av L (by decide :(6:Nat)≠7),av L (by decide :(6:Nat)≠8)],?_,fun _=>?_,?_,?_,?_⟩
 . rw[av L (by decide :(6:Nat)≠3)];exact f1
 . rw[hH'] at hg;split at hg
   . exact(jp hg).1
   . exact hg
 . rw[av L (by decide :(6:Nat)≠3)];intro h3 _ e;rw[hH',adl h3] at hg;exact(jp hg).2 e.symm
 . rw[cy,av L (by decide :(6:Nat)≠3),hH'];simp only[adB]
 . rw[av L (by decide :(6:Nat)≠9),av L (by decide :(6:Nat)≠8),hbx,h9];simp only[adI,adw]
end
def YZ(us:U)(H:HH)(T:V->HH->Prop):Prop:=∃nl sz l,us=cd (nl,sz,l)∧Mc (nl,sz,l)∧G7 (bi l)∧(∀r∈(bi l).2.1,r.Nodup)∧∀S,Mv (bi l).1.length (bi l).2.1 S->T (jf (bi l).1 (bi l).2.1 S) H
abbrev FU(C):=((5,.mp 18 (ksI (plI 0 C)) (vsI (plI 0 C))):Nat×V)
theorem Qh:cR WE 15 YZ:=by
 refine mU (F:={F:=fun _=>none,D:=fun d=>d==33||d==36,any:=fun d=>d==9||d==17||d==18}) (n:=83) (k:=1) YY A0a (fun f C e=>by cases e) (fun t s C e=>by cases e) func15 rfl (fun a w=>call15 a w) ntmps15 A0c A0c A0a ?_;rintro us H T ⟨nl,sz,l,rfl,hok,hpd,hnd,hT⟩ hdat;refine⟨rfl,?_⟩;have e1:FE cd YN (cd (nl,sz,l))=some (za (bi l)):=(ca jd YN (nl,sz,l)).trans (adl hok);have e2:FE oF Yr (oF (bi l))=some (.sl false 3 ((bi l).1.map aa) none):=(ca G8 Yr (bi l)).trans (adl hpd);have e3:∀c,FE oG Yq (oG (bi l,c))=some (PS (bi l).1 (bi l).2.1 c):=fun c=>(ca G9 Yq (bi l,c)).trans (adl hpd)
 generalize bi l=pd at*;obtain⟨C,R0,S0⟩:=pd;obtain⟨hCn,hC4,hR0l,_,hR0,_⟩:=hpd;simp only[cd,oF,oG,za] at e1 e2 e3 hCn hC4 hR0l hR0 hnd hT⊢;have hR:bU C.length R0:=⟨hR0l,hC4,hR0⟩;generalize ksI (plI 0 C)=ks at e1 e2 e3;generalize vsI (plI 0 C)=vs at e1 e2 e3;have m49:Pv prog 50=some (54,1,24,.slice none 0 0):=A0a
 have z49:rO prog 50=some 1:=A0a
 have ha:KY prog 54=true:=A0a
 have l1:((24:Nat):Int)*(C.length:Int)<=281474976710656:=A0b
 have l2:(C.length:Int)<=9223372036854775807:=A0b
 have l3:(0:Int)<=(C.length:Int):=A0b
 simp +decide (maxDischargeDepth:=200) only[go_sem,e1,e2,eq];refine bz (X:={i:Nat//i<=C.length}) (fun i=>[(2,.ptr 2 0),(3,.ip [.l 3 (C.map aa),.fm ks vs,.l 1 (R0.map rI),.l 1 (S0.map rI)]),(4,.l 3 (C.map aa)),(5,.mp 18 (ksI (plI 0 (C.take i.1))) (vsI (plI 0 (C.take i.1)))),(19,.l 3 (C.map aa)),(20,aw (C.length:Int)),(21,aw (i.1:Int))]) (fun _=>[(2,FS)]) (fun _ H'=>H'=H) (fun i=>C.length-i.1) ⟨0,adN _⟩ A0f A0f rfl ?_;rintro⟨i,hi⟩ H1 rfl;simp only at hi⊢;by_cases hil:i<C.length
 case pos=>
  have d1:decide ((i:Int)<C.length)=true:=ac0 A0b;have d2:(0:Int)<=(i:Int):=A0b
  have d3:(i:Int)<C.length:=A0b
  have d4:=ax (i:=i) A0b;have q1:C[i]?=some C[i]:=io hil;have k1:=L3 hCn q1;generalize C[i]=c at q1 k1;obtain⟨cs,cc,cr⟩:=c;have q2:(C.map aa)[i]?=some (.agg [.x (.string cs),.i cc,.i cr]):=by rw[ac9,q1];rfl
  have hcx:aa (cs,cc,cr)= .agg [.x (.string cs),.i cc,.i cr]:=rfl;rw[hcx] at k1;simp +decide (maxDischargeDepth:=200) only[go_sem,eq,tl,d1,d2,d3,d4,q2,k1];refine⟨⟨i+1,hil⟩,⟨?_,?_,rfl⟩,by simp only;omega⟩
  . simp +decide (maxDischargeDepth:=200) only[go_sem]
  . exact WM
 obtain rfl:i=C.length:=A0b
 have d1:decide ((C.length:Int)<C.length)=false:=Io A0b;rw[aei];simp +decide only[go_sem,eq,d1]
 --the web is made
 refine Lb (fun k=>match k with|2=>[31]|3=>[32]|5=>[34]|6=>[35]|7=>[30,33,36]|9=>[8,37]|_=>[]) (IWeb H1 (vq [(2,[.sl true 0 [] none,.sl true 0 [] none,.sl true 0 [] none])]) C.length (.l 3 (C.map aa)) (rowO (List.replicate C.length (Value.slice none 0 0)) 54)) (oM C.length (.l 3 (C.map aa)) 0 0 false false) A0a A0a ⟨0,0,by rw[Nat.zero_testBit,Nat.zero_testBit],fun h=>by simp at h,fun h=>by simp at h,fun h=>by simp at h,A0k,by simp;rfl⟩ ?_ ?_
 . intro L k o H' val bx t ho hb hdd hcl hI hn hbase hno;have b4:t 4= .l 3 (C.map aa):=hbase 4 A0a;have hI0:=hI;obtain⟨g1,g2,hval,f1,f2,f3,hH',hbx⟩:=hI0;rcases k with _|_|_|_|_|_|_|_|_|_|k
   . cases ho;simp +decide only[go_sem,b4];exact WO
   . cases ho;simp +decide only[go_sem,b4];exact WO
   . cases ho;have h31:t 31= .l 3 (C.map aa):=(hn 31 A0c).trans A0q;simp +decide only[go_sem,h31,eq];exact WO
   . cases ho;have h32:t 32=aw (C.length:Int):=(hn 32 A0c).trans A0q;simp +decide only[go_sem,h32,m49,l1,l2,l3,tl,adx];intro g hg;obtain⟨val',r1,r2,r3⟩:=hI.row1 hg hb (dF (n:=7) hcl rfl A0a hb) (dF (n:=9) hcl rfl A0a hb);exact WI
   . cases ho;simp +decide only[go_sem,b4];exact WO
   . cases ho;have h34:t 34= .l 3 (C.map aa):=(hn 34 A0c).trans A0q;simp +decide only[go_sem,h34,eq];exact WO
   . cases ho;have h35:t 35=aw (C.length:Int):=(hn 35 A0c).trans A0q;simp +decide only[go_sem,h35,m49,l1,l2,l3,tl,adx];intro g hg;obtain⟨val',r1,r2,r3⟩:=hI.row2 hg hb (dF (n:=7) hcl rfl A0a hb) (dF (n:=9) hcl rfl A0a hb);exact WI
   . cases ho;have h30:t 30= .l 3 (C.map aa):=(hn 30 A0c).trans A0q;have h33:t 33= .x (.s g1 C.length C.length):=(hn 33 A0c).trans A0q;have h36:t 36= .x (.s g2 C.length C.length):=(hn 36 A0c).trans A0q;simp +decide only[go_sem,h30,h33,h36];refine⟨oM C.length (.l 3 (C.map aa)) g1 g2 true (L.testBit 8),fun k hk=>?_,bx,⟨g1,g2,by rw[cy,av L (by decide :(7:Nat)≠8)],by rw[av L (by decide :(7:Nat)≠3)];exact f1,by rw[av L (by decide :(7:Nat)≠6)];exact f2,by rw[av L (by decide :(7:Nat)≠3),av L (by decide :(7:Nat)≠6)];exact f3,by rw[av L (by decide :(7:Nat)≠3),av L (by decide :(7:Nat)≠6)];exact hH',by rw[av L (by decide :(7:Nat)≠8),av L (by decide :(7:Nat)≠9)];exact hbx⟩,Le.refl _⟩;rw[hval];unfold oM;split<;>first|rfl|exact absurd rfl hk
   . cases ho
     have hnp:noPtrTo 8 t:=hno 8 A0n (by rw[hval,hb];intro k;unfold oM;split<;>first|(intro h;cases h)|(cases L.testBit 7<;>(intro h;cases h)))
     have h9:L.testBit 9=false:=dF (n:=9) hcl rfl A0a hb;rw[h9,hb] at hbx;simp only[adI,adw] at hbx;simp +decide only[go_sem,hnp,adB];refine⟨oM C.length (.l 3 (C.map aa)) g1 g2 (L.testBit 7) true,fun k hk=>?_,upd bx 8 (some FS),⟨g1,g2,by rw[cy,av L (by decide :(8:Nat)≠7)],by rw[av L (by decide :(8:Nat)≠3)];exact f1,by rw[av L (by decide :(8:Nat)≠6)];exact f2,by rw[av L (by decide :(8:Nat)≠3),av L (by decide :(8:Nat)≠6)];exact f3,by rw[av L (by decide :(8:Nat)≠3),av L (by decide :(8:Nat)≠6)];exact hH',by rw[cy,av L (by decide :(8:Nat)≠9),h9,hbx];simp only[adI,adw,adB];rfl⟩,Le.refl _⟩;rw[hval];unfold oM;split<;>first|rfl|exact absurd rfl hk
   . cases ho;have hb8:L.testBit 8=true:=hdd 8 A0R;have hb7:L.testBit 7=true:=hdd 7 (by simpa using(show(directV _).contains 7=true by kernel_rfl));have h8:t 8= .ptr 8 0:=(hn 8 A0c).trans (by rw[hval,hb8];rfl);have h37:t 37= .agg [.l 3 (C.map aa),.x (.s g1 C.length C.length),.x (.s g2 C.length C.length)]:=(hn 37 A0c).trans (by rw[hval,hb7];rfl);rw[hb,hb8] at hbx;simp only[adI,adw,adB] at hbx;subst hbx;simp +decide only[go_sem,h8,h37];exact⟨val,fun _=>rfl,_,⟨g1,g2,by rw[av L (by decide :(9:Nat)≠7),av L (by decide :(9:Nat)≠8)];exact hval,by rw[av L (by decide :(9:Nat)≠3)];exact f1,by rw[av L (by decide :(9:Nat)≠6)];exact f2,by rw[av L (by decide :(9:Nat)≠3),av L (by decide :(9:Nat)≠6)];exact f3,by rw[av L (by decide :(9:Nat)≠3),av L (by decide :(9:Nat)≠6)];exact hH',by rw[cy,adl rfl,gp]⟩,Le.refl _⟩
   . cases ho
 rintro H2 val bx ⟨gR,gS,rfl,f1,f2,f3,rfl,rfl⟩;have hgR:=f1 A0c;have hgS:=f2 A0c;have hne:=f3 A0c A0c;simp only[show(2^10-1).testBit 6=true from by decide,show(2^10-1).testBit 3=true from by decide,show(2^10-1).testBit 9=true from by decide,adB];refine⟨[(2,.ptr 2 0),(3,.ip [.l 3 (C.map aa),.fm ks vs,.l 1 (R0.map rI),.l 1 (S0.map rI)]),(4,.l 3 (C.map aa)),(5,.mp 18 (ksI (plI 0 C)) (vsI (plI 0 C))),(8,.ptr 8 0)],[(2,[.sl true 0 [] none,.sl true 0 [] none,.sl true 0 [] none]),(8,[.l 3 (C.map aa),.x (.s gR C.length C.length),.x (.s gS C.length C.length)])],⟨mV A0a,mV A0a,mV A0a,mV A0a,La A0a,trivial⟩,⟨rfl,rfl,trivial⟩,?_⟩;have hnn:upd (upd H1 gR (some (rowO (List.replicate C.length (Value.slice none 0 0)) 54))) gS (some (rowO (List.replicate C.length (Value.slice none 0 0)) 54))=mer H1 (upd (upd (fun _=>none) gR (some (rowO (List.replicate C.length (Value.slice none 0 0)) 54))) gS (some (rowO (List.replicate C.length (Value.slice none 0 0)) 54))):=by rw[<-cH hgS,<-cH hgR,jo]
 simp +decide only[go_sem,eq];refine bz (X:={q:Nat×(List Value×List Value)×(List (List Int)×List (List Int))×HH//q.1<=C.length∧WInv C.length R0 q.1 0 q.2.2.1.1 q.2.2.1.2∧WQ C.length gR gS q.2.1.1 q.2.1.2 q.2.2.1.1 q.2.2.1.2 q.2.2.2∧Dis H1 q.2.2.2}) (fun q=>[(2,.ptr 2 0),(3,.ip [.l 3 (C.map aa),.fm ks vs,.l 1 (R0.map rI),.l 1 (S0.map rI)]),(4,.l 3 (C.map aa)),(5,.mp 18 (ksI (plI 0 C)) (vsI (plI 0 C))),(8,.ptr 8 0),(38,.l 3 (C.map aa)),(39,aw (C.length:Int)),(40,aw (q.1.1:Int))]) (fun _=>[(2,[.sl true 0 [] none,.sl true 0 [] none,.sl true 0 [] none]),(8,[.l 3 (C.map aa),.x (.s gR C.length C.length),.x (.s gS C.length C.length)])]) (fun q H'=>H'=mer H1 q.1.2.2.2) (fun q=>C.length-q.1.1) ⟨(0,((List.replicate C.length (Value.slice none 0 0)),(List.replicate C.length (Value.slice none 0 0))),(List.replicate C.length [],List.replicate C.length []),upd (upd (fun _=>none) gR (some (rowO (List.replicate C.length (Value.slice none 0 0)) 54))) gS (some (rowO (List.replicate C.length (Value.slice none 0 0)) 54))),adN _,WInv.zero _ _,WQ.zero hne,((Dis.empty H1).upd hgR).upd hgS⟩ A0f A0f hnn ?_;rintro⟨⟨i,⟨vR,vS⟩,⟨R,S⟩,Hn⟩,hi,hW,hQ,hd⟩ H2 rfl;simp only at hi hW hQ hd⊢;by_cases hil:i<C.length
 case neg=>
  obtain rfl:i=C.length:=A0b
  have d1:decide ((C.length:Int)<C.length)=false:=Io A0b;obtain⟨rfl,hok⟩:=hW.done hR hnd;simp +decide only[go_sem,d1];refine nh (fun m w v h1 h2 h3=>?_) hd (hT S hok);cases h3 with
  | agg cs Cs hl h=>
    refine .agg cs _ hl (fun k v u hi hu=>?_);rcases k with _|_|_|k
    . cases hu;exact h 0 v _ hi rfl
    . cases hu;rw[Rd.x_iff.1 (h 1 v _ hi rfl)];exact jk hQ.r (fun j v e a b=>hQ.rowR a b) hQ.lvR hQ.lR h1 h2
    . cases hu;rw[Rd.x_iff.1 (h 2 v _ hi rfl)];exact jk hQ.s (fun j v e a b=>hQ.rowS a b) hQ.lvS hQ.lS h1 h2
    . cases hu
 have d1:decide ((i:Int)<C.length)=true:=ac0 A0b;have d2:(0:Int)<=(i:Int):=A0b
 have d3:(i:Int)<C.length:=A0b
 have d4:=ax (i:=i) A0b;have q1:C[i]?=some C[i]:=io hil;generalize C[i]=c at q1;have hin:je c C=true:=iD.2 (adg q1);have hpc:=tg (k:=0) hCn q1;obtain⟨rs,hrs⟩:∃rs,R0[i]?=some rs:=⟨_,io A0b ⟩;have hrz:rowZ R0 (i:Int)=rs:=by unfold rowZ;rw[tl,hrs];rfl
 have hrm:=adg hrs;obtain⟨hr8,hrr⟩:=hR0 rs hrm;have hrn:=hnd rs hrm;have e3c:=e3 c;unfold PS at e3c;rw[adl hin,hpc,adi,tl,hrs,aeI] at e3c;obtain⟨cs,cc,cr⟩:=c;have q2:(C.map aa)[i]?=some (.agg [.x (.string cs),.i cc,.i cr]):=by rw[ac9,q1];rfl
 have hcx:aa (cs,cc,cr)= .agg [.x (.string cs),.i cc,.i cr]:=rfl;rw[hcx] at e3c;simp +decide (maxDischargeDepth:=200) only[go_sem,eq,tl,d1,d2,d3,d4,q2,e3c];refine bz (X:={q:Nat×(List Value×List Value)×(List (List Int)×List (List Int))×HH//q.1<=rs.length∧WInv C.length R0 i q.1 q.2.2.1.1 q.2.2.1.2∧WQ C.length gR gS q.2.1.1 q.2.1.2 q.2.2.1.1 q.2.2.1.2 q.2.2.2∧Dis H1 q.2.2.2}) (fun q=>[(2,.ptr 2 0),(3,.ip [.l 3 (C.map aa),.fm ks vs,.l 1 (R0.map rI),.l 1 (S0.map rI)]),(4,.l 3 (C.map aa)),(FU C),(8,.ptr 8 0),(9,aw (i:Int)),(38,.l 3 (C.map aa)),(39,aw (C.length:Int)),(40,aw (i:Int)),(47,.sl false 3 ((rs.map (di C)).map aa) none),(48,aw (rs.length:Int)),(49,aw (q.1.1:Int))]) (fun _=>[(2,FS),(8,[.l 3 (C.map aa),.x (.s gR C.length C.length),.x (.s gS C.length C.length)])]) (fun q H'=>H'=mer H1 q.1.2.2.2) (fun q=>rs.length-q.1.1) ⟨(0,(vR,vS),(R,S),Hn),adN _,hW,hQ,hd⟩ A0f A0f rfl ?_;rintro⟨⟨k,⟨vR,vS⟩,⟨R,S⟩,Hn⟩,hk,hW,hQ,hd⟩ H2 rfl;simp only at hk hW hQ hd⊢;by_cases hkl:k<rs.length
 case neg=>
  obtain rfl:k=rs.length:=A0b
  have e1:decide ((rs.length:Int)<rs.length)=false:=Io A0b;simp +decide only[go_sem,eq,e1,d4];refine⟨⟨(i+1,(vR,vS),(R,S),Hn),hil,WInv.next (by rw[hrz];exact hW),hQ,hd⟩,⟨?_,?_,rfl⟩,by simp only;omega⟩
  . exact WM
  . exact WM
 have e1:decide ((k:Int)<rs.length)=true:=ac0 A0b;have e2:(0:Int)<=(k:Int):=A0b
 have e3':(k:Int)<rs.length:=A0b
 have e4:=ax (i:=k) A0b;have p1:rs[k]?=some rs[k]:=io hkl;have pm:rs[k]∈rs:=adR hkl;generalize rs[k]=p at p1 pm;obtain⟨p0,pl⟩:=hrr p pm;obtain⟨y,hy⟩:∃y,C[p.toNat]?=some y:=⟨_,io pl⟩;have hyp:=tg (k:=0) hCn hy;rw[adi,aec p0] at hyp;have lk:=Ek (c:=y) (m:= .mp 18 (ksI (plI 0 C)) (vsI (plI 0 C))) (L:=plI 0 C) rfl (uV hCn 0);rw[hyp] at lk;have hat:di C p=y:=by unfold di;rw[hy];rfl
 obtain⟨ys,yc,yr⟩:=y;have p2:((rs.map (di C)).map aa)[k]?=some (.agg [.x (.string ys),.i yc,.i yr]):=by rw[ac9,ac9,p1,aea,hat];rfl
 have hyx:aa (ys,yc,yr)= .agg [.x (.string ys),.i yc,.i yr]:=rfl;rw[hyx] at lk;obtain⟨v1,hv1⟩:∃v,vR[i]?=some v:=⟨_,io (by rw[hQ.lvR];exact hil)⟩;have hRi:=hW.r i hil;rw[adq A0b,adl rfl,hrz] at hRi;have hr1:=hQ.rowR hv1 hRi;have hr1m:=hr1.j.mer hd;have h0R:=n7 hd hQ.r;have f1:blkOf v1≠some gR:=fun e=>hQ.rows.out i v1 gR (by rw[hQ.inR hil];exact hv1) e A0k
 have p5:(vR.map V.x)[i]?=some (.x v1):=by rw[ac9,hv1];rfl
 have y0:(0:Int)<=(i:Int):=A0b
 have y1:(i:Int)<C.length:=A0b
 have y2:i+1<=vR.length:=by rw[hQ.lvR];omega
 have y3:(i:Int).toNat=i:=tl i;simp +decide (maxDischargeDepth:=200) only[go_sem,eq,tl,e1,e2,e3',e4,p2,lk];refine kP (fun k=>match k with|1=>[56]|4=>[59]|6=>[60,61]|7=>[62]|9=>[64]|10=>[63,65]|11=>[57,58]|12=>[67,66]|_=>[]) (IAdd (mer H1 Hn) 56 1 gR C.length (i:Int) p vR v1 (rs.take k)) (iM 56 1 gR C.length (i:Int) p v1 v1) A0a A0a ⟨v1,rfl,fun _=>rfl,fun h=>by simp at h⟩ ?_ ?_
 . intro L k o H' val st ho hb hdd hcl hI hn hbase hbb;have b8:st.t 8= .ptr 8 0:=hbase 8 A0a;have b9:st.t 9=aw (i:Int):=hbase 9 A0a;have b13:st.t 13=aw p:=hbase 13 A0a;have x8:st.b 8=some [.l 3 (C.map aa),.x (.s gR C.length C.length),.x (.s gS C.length C.length)]:=by rw[hbb];rfl
   have hI0:=hI;obtain⟨v',hval,hI1,hI2⟩:=hI0;rcases k with _|_|_|_|_|_|_|_|_|_|_|_|_|k
   . cases ho;simp +decide only[go_sem,b8,b9,b13,x8];exact WR
   . cases ho;have h56:st.t 56= .ptr 8 1:=(hn 56 A0c).trans A0q;simp +decide only[go_sem,h56,b8,b9,b13,x8];exact WR
   . cases ho;simp +decide only[go_sem,b8,b9,b13,x8];exact WR
   . cases ho;simp +decide only[go_sem,b8,b9,b13,x8];exact WR
   . cases ho;have h59:st.t 59= .ptr 8 1:=(hn 59 A0c).trans A0q;simp +decide only[go_sem,h59,b8,b9,b13,x8];exact WR
   . cases ho;simp +decide only[go_sem,b8,b9,b13,x8];exact WR
   . cases ho;have h60:st.t 60= .x (.s gR C.length C.length):=(hn 60 A0c).trans A0q;have h61:st.t 61=aw (i:Int):=(hn 61 A0c).trans A0q;simp +decide only[go_sem,h60,h61,b8,b9,b13,x8,z49,y0,y1,y3,adi,adx,tl];exact WR
   . cases ho;have h62:st.t 62= .x (.pointer (some ⟨gR,i,none⟩)):=(hn 62 A0c).trans A0q;have c2:=hI.cell h0R f1 (dF (n:=12) hcl rfl A0a hb);simp +decide only[go_sem,h62,b8,b9,b13,x8,c2,p5,adi];exact WR
   . cases ho;simp +decide only[go_sem,b8,b9,b13,x8];exact WR
   . cases ho;have h64:st.t 64=aw p:=(hn 64 A0c).trans A0q;simp +decide only[go_sem,h64,b8,b9,b13,x8];exact WR
   . cases ho;have h63:st.t 63= .x v1:=(hn 63 A0c).trans A0q;have h65:st.t 65= .sl false 1 [aw p] none:=(hn 65 A0c).trans A0q;obtain rfl:=hI1 hb;simp +decide only[go_sem,h63,h65,ha];refine⟨(rs.take k),hr1m,A0K,fun v'' g ob hb' hg hr'=>?_⟩;exact WN
   . cases ho;have h57:st.t 57= .x (.s gR C.length C.length):=(hn 57 A0c).trans A0q;have h58:st.t 58=aw (i:Int):=(hn 58 A0c).trans A0q;simp +decide only[go_sem,h57,h58,b8,b9,b13,x8,z49,y0,y1,y3,adi,adx,tl];exact WR
   . cases ho;have h67:st.t 67= .x (.pointer (some ⟨gR,i,none⟩)):=(hn 67 A0c).trans A0q;have h66:st.t 66= .x v':=(hn 66 A0c).trans A0q;have h10:L.testBit 10=true:=hdd 10 A1k;have c2:=hI.cell h0R f1 hb;obtain⟨g,ob,hb',hg,hr',rfl⟩:=hI2 h10;have x1:=mZ hr'.one;have hsp:fU vR i [v']=vR.set i v':=dh _ _ _ A0b;simp +decide only[go_sem,h67,h66,c2,x1,hsp,y2];exact WL
   . cases ho
 . rintro H' val ⟨v',rfl,_,hI⟩;obtain⟨g,ob,hb',hg,hr',rfl⟩:=hI A0c;rw[adl A0c];refine⟨[(2,.ptr 2 0),(3,.ip [.l 3 (C.map aa),.fm ks vs,.l 1 (R0.map rI),.l 1 (S0.map rI)]),(4,.l 3 (C.map aa)),(FU C),(8,.ptr 8 0),(9,aw (i:Int)),(13,aw p),(38,.l 3 (C.map aa)),(39,aw (C.length:Int)),(40,aw (i:Int)),(47,.sl false 3 ((rs.map (di C)).map aa) none),(48,aw (rs.length:Int)),(49,aw (k:Int))],[(2,FS),(8,[.l 3 (C.map aa),.x (.s gR C.length C.length),.x (.s gS C.length C.length)])],⟨au A0a,au A0a,au A0a,au A0a,au A0a,au A0a,au A0a,au A0a,au A0a,au A0a,au A0a,au A0a,au A0a,trivial⟩,⟨rfl,rfl,trivial⟩,?_⟩;have hgH:H1 g=none:=by
    rcases hg with h|h
    . exact hd g (hr1.blk h)
    . exact(jm h).1
   have hgn:blkOf v1=some g∨Hn g=none:=hg.imp id fun h=>(jm h).2
   rw[cH hgH] at hr';rw[cH hgH,cH hgR,y3];have hr2:RowI (upd Hn g (some ob)) v' (rs.take k++[p]):=(hr'.of_mer (fun y hy=>by rw[hb'] at hy;cases hy;exact hgH)).i A0k;have hQ2:=hQ.setR hv1 hb' hgn hr2;have hd2:=(hd.upd (o:=some ob) hgH).upd (o:=some (rowO (vR.set i v') 54)) hgR;generalize upd (upd Hn g (some ob)) gR (some (rowO (vR.set i v') 54))=Hn2 at hQ2 hd2⊢;obtain⟨s,hs,hs2,hs3⟩:=hW.s p.toNat pl;have hsl:s.length<=C.length:=dA (hs2.imp fun {a b} h=>by omega) (fun z hz=>by
    obtain⟨j,rfl,⟨h,_⟩|⟨rfl,_⟩⟩:=(hs3 z).1 hz
    . exact⟨aeP j,by rw[tl];omega⟩
    . exact⟨aeP j,by rw[tl];exact hil⟩)
   obtain⟨v2,hv2⟩:∃v,vS[p.toNat]?=some v:=⟨_,io (by rw[hQ2.lvS];exact pl)⟩;have hr2s:=hQ2.rowS hv2 hs;have hr2m:=hr2s.j.mer hd2;have h0S:=n7 hd2 hQ2.s;have f2:blkOf v2≠some gS:=fun e=>hQ2.rows.out (C.length+p.toNat) v2 gS (by rw[hQ2.inS];exact hv2) e A0k
   have p6:(vS.map V.x)[p.toNat]?=some (.x v2):=by rw[ac9,hv2];rfl
   have py1:p<(C.length:Int):=A0b
   have py2:p.toNat+1<=vS.length:=by rw[hQ2.lvS];omega
   simp +decide only[go_sem];refine kP (fun k=>match k with|1=>[68]|4=>[71]|6=>[72,73]|7=>[74]|9=>[76]|10=>[75,77]|11=>[69,70]|12=>[79,78]|_=>[]) (IAdd (mer H1 Hn2) 68 2 gS C.length p (i:Int) vS v2 s) (iM 68 2 gS C.length p (i:Int) v2 v2) A0a A0a ⟨v2,rfl,fun _=>rfl,fun h=>by simp at h⟩ ?_ ?_
   . intro L k o H' val st ho hb hdd hcl hI hn hbase hbb;have b8:st.t 8= .ptr 8 0:=hbase 8 A0a;have b9:st.t 13=aw p:=hbase 13 A0a;have b13:st.t 9=aw (i:Int):=hbase 9 A0a;have x8:st.b 8=some [.l 3 (C.map aa),.x (.s gR C.length C.length),.x (.s gS C.length C.length)]:=by rw[hbb];rfl
     have hI0:=hI;obtain⟨v',hval,hI1,hI2⟩:=hI0;rcases k with _|_|_|_|_|_|_|_|_|_|_|_|_|k
     . cases ho;simp +decide only[go_sem,b8,b9,b13,x8];exact WR
     . cases ho;have h68:st.t 68= .ptr 8 2:=(hn 68 A0c).trans A0q;simp +decide only[go_sem,h68,b8,b9,b13,x8];exact WR
     . cases ho;simp +decide only[go_sem,b8,b9,b13,x8];exact WR
     . cases ho;simp +decide only[go_sem,b8,b9,b13,x8];exact WR
     . cases ho;have h71:st.t 71= .ptr 8 2:=(hn 71 A0c).trans A0q;simp +decide only[go_sem,h71,b8,b9,b13,x8];exact WR
     . cases ho;simp +decide only[go_sem,b8,b9,b13,x8];exact WR
     . cases ho;have h72:st.t 72= .x (.s gS C.length C.length):=(hn 72 A0c).trans A0q;have h73:st.t 73=aw p:=(hn 73 A0c).trans A0q;simp +decide only[go_sem,h72,h73,b8,b9,b13,x8,z49,p0,py1,adi,adx,tl];exact WR
     . cases ho;have h74:st.t 74= .x (.pointer (some ⟨gS,p.toNat,none⟩)):=(hn 74 A0c).trans A0q;have c2:=hI.cell h0S f2 (dF (n:=12) hcl rfl A0a hb);simp +decide only[go_sem,h74,b8,b9,b13,x8,c2,p6,adi];exact WR
     . cases ho;simp +decide only[go_sem,b8,b9,b13,x8];exact WR
     . cases ho;have h76:st.t 76=aw (i:Int):=(hn 76 A0c).trans A0q;simp +decide only[go_sem,h76,b8,b9,b13,x8];exact WR
     . cases ho;have h75:st.t 75= .x v2:=(hn 75 A0c).trans A0q;have h77:st.t 77= .sl false 1 [aw (i:Int)] none:=(hn 77 A0c).trans A0q;obtain rfl:=hI1 hb;simp +decide only[go_sem,h75,h77,ha];refine⟨s,hr2m,A0b,fun v'' g ob hb' hg hr'=>?_⟩;exact WN
     . cases ho;have h69:st.t 69= .x (.s gS C.length C.length):=(hn 69 A0c).trans A0q;have h70:st.t 70=aw p:=(hn 70 A0c).trans A0q;simp +decide only[go_sem,h69,h70,b8,b9,b13,x8,z49,p0,py1,adi,adx,tl];exact WR
     . cases ho;have h79:st.t 79= .x (.pointer (some ⟨gS,p.toNat,none⟩)):=(hn 79 A0c).trans A0q;have h78:st.t 78= .x v':=(hn 78 A0c).trans A0q;have h10:L.testBit 10=true:=hdd 10 A1k;have c2:=hI.cell h0S f2 hb;obtain⟨g,ob,hb',hg,hr',rfl⟩:=hI2 h10;have x1:=mZ hr'.one;have hsp:fU vS p.toNat [v']=vS.set p.toNat v':=dh _ _ _ A0b;simp +decide only[go_sem,h79,h78,c2,x1,hsp,py2];exact WL
     . cases ho
   . rintro H' val ⟨v'',rfl,_,hI⟩;obtain⟨g2,ob2,hb2,hg2,hr3,rfl⟩:=hI A0c;rw[adl A0c];refine⟨[(2,.ptr 2 0),(3,.ip [.l 3 (C.map aa),.fm ks vs,.l 1 (R0.map rI),.l 1 (S0.map rI)]),(4,.l 3 (C.map aa)),(FU C),(8,.ptr 8 0),(9,aw (i:Int)),(38,.l 3 (C.map aa)),(39,aw (C.length:Int)),(40,aw (i:Int)),(47,.sl false 3 ((rs.map (di C)).map aa) none),(48,aw (rs.length:Int)),(49,aw (k:Int))],[(2,FS),(8,[.l 3 (C.map aa),.x (.s gR C.length C.length),.x (.s gS C.length C.length)])],⟨au A0a,au A0a,au A0a,au A0a,au A0a,au A0a,au A0a,au A0a,au A0a,au A0a,au A0a,au A0a,trivial⟩,⟨rfl,rfl,trivial⟩,?_⟩;have hgH:H1 g2=none:=by
      rcases hg2 with h|h
      . exact hd2 g2 (hr2s.blk h)
      . exact(jm h).1
     have hgn:blkOf v2=some g2∨Hn2 g2=none:=hg2.imp id fun h=>(jm h).2
     rw[cH hgH] at hr3;rw[cH hgH,cH hgS];have hr4:RowI (upd Hn2 g2 (some ob2)) v'' (s++[(i:Int)]):=(hr3.of_mer (fun y hy=>by rw[hb2] at hy;cases hy;exact hgH)).i A0k;have hQ3:=hQ2.setS hv2 hb2 hgn hr4;have hd3:=(hd2.upd (o:=some ob2) hgH).upd (o:=some (rowO (vS.set p.toNat v'') 54)) hgS;simp +decide only[go_sem,e4];refine⟨⟨(k+1,(vR.set i v',vS.set p.toNat v''),(R.set i (rs.take k++[p]),S.set p.toNat (s++[(i:Int)])),_),hkl,?_,hQ3,hd3⟩,⟨?_,?_,rfl⟩,by simp only;omega⟩
     . have:=hW.step hil (p:=p) (k:=k) (by rw[hrz];exact p1) p0 (by rw[hrz];exact hrn) hs;rw[hrz] at this;exact this
     . exact WM
     . exact WM

/- Chapter 13: the heads of all places. -/
import Derived.Test.YtmfojhkjbkombaaGreatMHx
import Derived.Test.YtmfojhkjbkombaaGreatMKb
import Derived.Test.YtmfojhkjbkombaaGreatMKc
import Derived.Test.YtmfojhkjbkombaaGreatMZ
namespace Go.Proofs.YtmfojhkjbkombaaGreat
set_option linter.unusedSimpArgs false
set_option maxHeartbeats 64000000
set_option maxRecDepth 100000
open Go Go.RowKit
attribute [go_sem] Tryz.results17 Tryz.results18
noncomputable abbrev EX:Env:=(aV [] (fun _=>false) [] (fun _=>false) (fun _=>false))
theorem qq:EnvOK EX:=fQ _ _ _ _ _ trivial trivial
theorem oJ:EX.P.follows .mixedOrders=true:=A0a
def rX (out:List Int) (k:Nat):List (List V):=(List.range k).map fun j=>[aq ((out.length-1-j:Nat):Int),aq (out[out.length-1-j]?.getD 0)]
theorem oK (out:List Int) (k:Nat):rX out (k+1)=rX out k++[[aq ((out.length-1-k:Nat):Int),aq (out[out.length-1-k]?.getD 0)]]:=by unfold rX;rw[aaC,Y4];rfl
theorem mH (out:List Int) (k:Nat):(rX out k).length=k:=by simp[rX]
def TD (out:List Int) (pre:List (List V)):Prop:=∃k,k<out.length∧pre=rX out (k+1)
def Ml (out:List Int) (pre:List (List V)):Prop:=pre=rX out out.length
theorem DT (ao:Option Addr) (ln cp:Nat) (w:World):Calls Tryz.prog 35 #[.slice ao ln cp] w fun e w'=>e= .returned (.func (.func 52) #[] #[.pointer (some ⟨w.heap.size,0,none⟩)])∧w'=w.alloc (.cells #[.slice ao ln cp] 41):=by
 go_enter Tryz.func35,Tryz.ntmps35
 go_wp2
 go_ret
 exact⟨rfl,rfl⟩
theorem DU {out:List Int} (hlen:out.length<=400) {m:Lim} {w:World} {lb:Array Value} (hr:RdL m w lb.toList [.ip [.sl false 1 (out.map aq) none]]):rb EX (fun _=>False) 52 lb (TD out) (Ml out) m w:=by
 refine Ks (E:=EX) (n:=19) (us:=[.ip [.sl false 1 (out.map aq) none]]) Tryz.func52 rfl Tryz.ntmps52 Tryz.results52 A0j A0c hr rfl (fun g=> .undef _) ?_;intro l0 A Ax a0 O hA hX hy h0 _;have hE:=qq;have hm:=oJ;have e0:aw .i64 ((out.length:Int)-1)=(out.length:Int)-1:=ak A0h;refine wpIn_seq (pI hE hm (hA []) [(0,.x (.func (.yield l0) #[] #[])),(1,.ip [.sl false 1 (out.map aq) none]),(3,aq ((out.length:Int)-1))] [] A0a h0 (by simp +decide (maxDischargeDepth:=200) only[go_sem,Nat.reduceBEq,eq,e0]<;>(repeat' first|rfl|constructor)) ?_);clear h0;intro a w1 h1;refine wpIn_block ?_;refine dE (X:=Nat) (fun k a' w'=>k<=out.length∧Two EX 19 O m w (A (rX out k)) (au [(0,.x (.func (.yield l0) #[] #[])),(1,.ip [.sl false 1 (out.map aq) none]),(3,aq ((out.length:Int)-1-(k:Int)))] []) a' w') (fun k=>out.length-k) 0 ⟨Zf _,by simpa[rX] using h1⟩ ?_;clear h1 a w1 a0;rintro k a w1 ⟨hk0,h1⟩;by_cases hk:k<out.length
 . have c1:decide ((out.length:Int)-1-(k:Int)≥0)=true:=Yz A0b;have c1':decide (0<=(out.length:Int)-1-(k:Int))=true:=Yz A0b;have hi:(out.length:Int)-1-(k:Int)=((out.length-1-k:Nat):Int):=A0b
   have c2:(0:Int)<=((out.length-1-k:Nat):Int):=A0b
   have c3:((out.length-1-k:Nat):Int)<(out.length:Int):=A0b
   have c4:aw .i64 (((out.length-1-k:Nat):Int)-1)=(out.length:Int)-1-((k+1:Nat):Int):=by rw[ak A0h];omega
   have c5:decide (((out.length-1-k:Nat):Int)≥0)=true:=Yz A0b;have q:out[out.length-1-k]?=some (out[out.length-1-k]?.getD 0):=by rw[io A0b];rfl
   have q2:(out.map aq)[((out.length-1-k:Nat):Int).toNat]?=some (aq (out[out.length-1-k]?.getD 0)):=by rw[tl,Io,q];rfl
   have hs:=oK out k;generalize hx:out[out.length-1-k]?.getD 0=x at q q2 hs;rw[hi] at h1;refine wpIn_seq (wpIn_seq (pI hE hm (hA (rX out k)) [(0,.x (.func (.yield l0) #[] #[])),(1,.ip [.sl false 1 (out.map aq) none]),(3,aq ((out.length-1-k:Nat):Int)),(8,.x (.bool true))] [] A0a h1 (by simp +decide (maxDischargeDepth:=200) only[go_sem,Nat.reduceBEq,c5,c2]<;>(repeat' first|rfl|constructor)) ?_));clear h1 a w1;intro a w1 h1;refine pI hE hm (hA (rX out k)) [(0,.x (.func (.yield l0) #[] #[])),(1,.ip [.sl false 1 (out.map aq) none]),(3,aq ((out.length-1-k:Nat):Int))] [] A0a h1 A0f ?_;clear h1 a w1;intro a w1 h1;refine wpIn_seq (wpIn_block ?_);refine wpIn_seq (wpIn_region ?_);refine F6 hE (hA _) 0 6 [(0,.x (.func (.yield l0) #[] #[])),(1,.ip [.sl false 1 (out.map aq) none]),(3,aq ((out.length-1-k:Nat):Int)),(11,.x (.func (.yield l0) #[] #[])),(12,aq ((out.length-1-k:Nat):Int)),(16,aq x)] [] [6,7] A0c A0a h1 (by simp +decide (maxDischargeDepth:=200) only[go_sem,Nat.reduceBEq,eq,c2,c3,q2]<;>(repeat' first|rfl|constructor)) ?_;clear h1 a w1;intro a w1 h1;rw[wpOpsIn_cons];have hokp:TD out (rX out k++[[aq ((out.length-1-k:Nat):Int),aq x]]):=⟨k,hk,hs.symm⟩;refine yV (n:=19) (A1:=A (rX out k++[[aq ((out.length-1-k:Nat):Int),aq x]])) (Ax:=Ax (rX out k++[[aq ((out.length-1-k:Nat):Int),aq x]])) (l:=l0) rfl (d:=17) rfl A0c rfl rfl rfl h1 (us:=[aq ((out.length-1-k:Nat):Int),aq x]) (by simp +decide (maxDischargeDepth:=200) only[go_sem,Nat.reduceBEq,Y0,aah]<;>rfl) rfl (fun O1 m1 w2 vs ha hv=>hy _ _ O1 m1 w2 vs hokp ha hv rfl) ?_ ?_
   . clear h1 a w1;intro a w1 h1;refine F6 hE (hA _) 7 1 [(0,.x (.func (.yield l0) #[] #[])),(1,.ip [.sl false 1 (out.map aq) none]),(3,aq ((out.length-1-k:Nat):Int)),(18,.x (.bool false))] [] [] A0c A0a h1 A0f ?_;clear h1 a w1;intro a w1 h1;refine pI hE hm (hA _) [(0,.x (.func (.yield l0) #[] #[])),(1,.ip [.sl false 1 (out.map aq) none]),(3,aq ((out.length-1-k:Nat):Int))] [] A0a h1 A0f ?_;clear h1 a w1;intro a w1 h1;refine pI hE hm (hA _) [(0,.x (.func (.yield l0) #[] #[])),(1,.ip [.sl false 1 (out.map aq) none]),(3,aq ((out.length:Int)-1-((k+1:Nat):Int)))] [] A0a h1 A0O ?_;clear h1 a w1;intro a w1 h1;refine⟨k+1,⟨hk,?_⟩,A0b⟩;rw[hs];exact h1
   . clear h1 a w1;intro a w1 h1;refine F6 hE (hX _) 7 1 [(18,.x (.bool true))] [] [] A0c A0a h1 A0f ?_;clear h1 a w1;intro a w1 h1;refine Sh hE hm (hX _) [] [] A0a h1 A0f ?_;clear h1 a w1;intro a w1 h1;exact⟨.inr rfl,.inr ⟨_,_,h1⟩⟩
 . have hke:k=out.length:=A0b
   subst hke;have c1:decide ((out.length:Int)-1-(out.length:Int)≥0)=false:=YA A0b;have c2:decide (0<=(out.length:Int)-1-(out.length:Int))=false:=YA A0b;refine wpIn_seq (wpIn_seq (pI hE hm (hA (rX out out.length)) [(8,.x (.bool false))] [] A0a h1 (by simp +decide (maxDischargeDepth:=200) only[go_sem,Nat.reduceBEq,c1,c2]<;>(repeat' first|rfl|constructor)) ?_));clear h1 a w1;intro a w1 h1;refine Sg hE hm (hA (rX out out.length)) 0 [] [] A0a h1 A0f ?_;clear h1 a w1;intro a w1 h1;exact⟨.inl rfl,.inl ⟨_,_,rfl,h1⟩⟩
noncomputable def jY:Option (List Oper×Code×Code):=match Tryz.f18.body with
 |some (.seq _ (.seq _ (.seq _ (.seq (.seq (.region _ ops _) (.block _ (.rangeFunc _ _ ac bd))) _))))=>some (ops.toList,ac,bd)
 |_=>none
noncomputable def rY:Code:=match Tryz.f18.body with
 |some (.seq _ (.seq _ (.seq _ (.seq c _))))=>c
 |_=> .skip
noncomputable def Eb:List (FuncId×(List V->HH->Tr)):=[(36,Tj),(37,Md),(38,Tm)]
noncomputable def A7:Fx:={F:=uX Eb,D:=fun d=>d==14}
theorem rZ:∀f C,A7.F f=some C->cn EX f C:=fA (l:=Eb) ⟨Lu,Hz,Lx,trivial⟩
def r9 (s:XS) (K:Out->XS->Prop):Prop:=∃(C:List C3) (R S:List (List Int)) (g:Nat) (ty:TypeId),(fu s.st [(1,.ptr 1 0),(3,.ptr 3 0)]∧fR s.st [(1,[.sl false 3 (C.map aa) none,.sl false 1 (R.map rI) none,.sl false 1 (S.map rI) none]),(3,[.x (.slice (some ⟨g,0,none⟩) C.length C.length)])]∧s.H g=some (rowO ((List.replicate C.length (-1)).map iv) ty))∧bK C.length R∧bK C.length S∧vF C.length R S∧
 ∀hs,HeadsOK R C.length hs->(∃out,FinOK R C.length out)->K .normal ⟨au [(1,.ip [.sl false 3 (C.map aa) none,.sl false 1 (R.map rI) none,.sl false 1 (S.map rI) none]),(3,.ip [.x (.slice (some ⟨g,0,none⟩) C.length C.length)])] [],upd s.H g (some (rowO (hs.map iv) ty))⟩
variable {m:Lim} {w:World} {v:Value} {ty:TypeId}
theorem Tp {u:V} (h:Rd m w v u):Step (fun _=>False) m w (upd m w.heap.size none) (w.alloc (.cells #[v] ty))∧Rd (upd m w.heap.size none) (w.alloc (.cells #[v] ty)) (.pointer (some ⟨w.heap.size,0,none⟩)) (.ip [u]):=by
 have hs:Step (fun _=>False) m w (upd m w.heap.size none) (w.alloc (.cells #[v] ty)):=Step.of_below ((Below.refl _ w).alloc (YJ _) _) (fun k hk=>ag _ _ (ZK hk));refine⟨hs,.ip _ 0 _ (fun _=>v) A0j (fun k hk=>?_) (fun fr hf=>by rw[aj] at hf;cases hf) (fun k d hd=>?_)⟩
 . have hh:(w.alloc (.cells #[v] ty)).heap[w.heap.size]?=some (.cells #[v] ty (0,0)):=World.heap_new w _;rw[Box.cell hh];have:k=0:=A1f
   subst this;rfl
 . cases k with
   |zero=>simp at hd;subst hd;exact h.mono hs.ext
   |succ k=>simp at hd
theorem vU {P:List Oper->Code->Code->Prop} {ops:List Oper} {ac bd:Code} (h:jY=some (ops,ac,bd)) (hp:P ops ac bd):∀ops1 ac1 bd1,jY=some (ops1,ac1,bd1)->P ops1 ac1 bd1:=by intro ops1 ac1 bd1 h';rw[h] at h';cases h';exact hp
variable {g:Nat} {ob:Obj}
theorem Oj {H0 H1:HH} {ob':Obj} (h1:∀y,y≠g->H1 y=upd H0 g (some ob) y) (h2:H1 g=some ob'):H1=upd H0 g (some ob'):=by
 funext y;by_cases e:y=g
 . subst e;rw[h2,aj]
 . rw[h1 y e,ag _ _ e,ag _ _ e]
theorem vV {C:List C3} {R S:List (List Int)} {g:Nat} {ty:TypeId} {H0:HH} {out:List Int} (hR:bK C.length R) (hS:bK C.length S) (hrev:vF C.length R S) (hF:FinOK R C.length out):∀ops ac bd,jY=some (ops,ac,bd)->∀pre x H,TD out (pre++[x])->(∃k L,k<=out.length∧pre=rX out k∧HSt R C.length out (out.length-k) L∧H=upd H0 g (some (rowO (L.map iv) ty)))->
 run EX ac (xI [27,28] x (au [(1,.ip [.sl false 3 (C.map aa) none,.sl false 1 (R.map rI) none,.sl false 1 (S.map rI) none]),(3,.ip [.x (.slice (some ⟨g,0,none⟩) C.length C.length)])] [])) (NX fun st1=>cw EX A7 bd ⟨st1,H⟩ (Di fun s2=>∃k L,k<=out.length∧pre++[x]=rX out k∧HSt R C.length out (out.length-k) L∧s2.H=upd H0 g (some (rowO (L.map iv) ty)))):=by
 refine vU (by rfl) ?_;rintro pre x H ⟨k,hk,hpre⟩ ⟨k',L,hle,rfl,hst,rfl⟩;have e:k'=k:=by have:=aap List.length hpre;rw[YD,mH,mH,Zv] at this;omega
 subst e;have hx:x=[aq ((out.length-1-k':Nat):Int),aq (out[out.length-1-k']?.getD 0)]:=by rw[oK] at hpre;have:=List.append_cancel_left hpre;simpa using this
 have q:out[out.length-1-k']?=some (out[out.length-1-k']?.getD 0):=by rw[io A0b];rfl
 generalize hr:out[out.length-1-k']?.getD 0=r at q hx;subst hx;have hk1:out.length-k'=(out.length-1-k')+1:=A0b
 rw[hk1] at hst;obtain⟨r0,rl⟩:=(hF.mem r).1 (YB q);have hLn:=hst.1;have rL:r<(L.length:Int):=A0b
 have rC:r<(C.length:Int):=A0b
 have hC4:C.length<=400:=hR.2.1;have z52:o5 Tryz.prog 41=some 1:=A0a
 have c1:=aU (aj H0 g (some (rowO (L.map iv) ty)));obtain⟨y,hy⟩:∃y,L[r.toNat]?=some y:=⟨_,io A0b ⟩;have p4:((L.map iv).map V.x)[r.toNat]?=some (aq y):=by rw[ZT,Io,hy];rfl
 have hkk:out.length-(k'+1)=out.length-1-k':=A0b
 by_cases hyn:y= -1
 case neg=>have e5:decide (y= -1)=false:=YA hyn;simp +decide (maxDischargeDepth:=200) only[go_sem,Nat.reduceBEq,A7,Eb,z52,YP,YC,c1,p4,r0,rC,e5];exact⟨k'+1,L,hk,hpre,by rw[hkk];exact hst.skip q ⟨r0,rl⟩ (by rw[hy];exact fun h=>hyn (by cases h;rfl)),rfl⟩
 subst hyn;simp +decide (maxDischargeDepth:=200) only[go_sem,Nat.reduceBEq,A7,Eb,z52,YP,YC,c1,p4,r0,rC,A7,Eb];refine⟨C,R,S,r,g,L,ty,by rw[hLn];rfl,by rw[hLn];exact hS,aj _ _ _,r0,hy,fun f L1 H1 hI hc hH1 hH1g=>?_⟩;obtain rfl:=Oj hH1 hH1g;have hfn:f≠[]:=List.ne_nil_of_mem hI.start;have hfl:f.length<=L.length:=cO hI.nd (fun x hx=>(hI.mem x hx).1);have hL1:=hI.len;simp +decide (maxDischargeDepth:=200) only[go_sem,Nat.reduceBEq,A7,Eb];refine⟨f,rfl,hfn,A0b,fun d hd hdle=>?_⟩;simp +decide (maxDischargeDepth:=200) only[go_sem,Nat.reduceBEq,A7,Eb,eq];refine bp (X:={q:Nat×List Int//q.1<=f.length∧q.2.length=C.length∧∀j:Nat,q.2[j]?=if ((j:Nat):Int)∈f.take q.1 then some d else L1[j]?}) (fun q=>[(1,.ip [.sl false 3 (C.map aa) none,.sl false 1 (R.map rI) none,.sl false 1 (S.map rI) none]),(3,.ip [.x (.slice (some ⟨g,0,none⟩) C.length C.length)]),(8,aq d),(40,.sl false 1 (f.map aq) none),(41,aq (f.length:Int)),(42,aq ((q.1.1:Nat):Int))]) (fun _=>[]) (fun q H'=>H'=upd H0 g (some (rowO (q.1.2.map iv) ty))) (fun q=>f.length-q.1.1) ⟨(0,L1),Zf _,by simp only;omega,fun j=>by simp⟩ A0d A0d rfl ?_;rintro⟨⟨i,L2⟩,hi,hL2,h2⟩ H1 rfl;simp only at hi hL2 h2⊢;by_cases hil:i<f.length
 case neg=>have d1:decide ((i:Int)<(f.length:Int))=false:=YA A0b;simp +decide (maxDischargeDepth:=200) only[go_sem,Nat.reduceBEq,A7,Eb,d1];refine⟨k'+1,L2,hk,hpre,?_,rfl⟩;rw[hkk];refine HSt.tell hF hR hS hrev hst q hy hI hc hd hdle (fun j=>?_);rw[h2 j,YS A0b,hI.val j];split<;>rfl
 have d1:decide ((i:Int)<(f.length:Int))=true:=Yz A0b;have d2:(0:Int)<=(i:Int):=A0b
 have d3:(i:Int)<(f.length:Int):=A0b
 have d4:=aD (i:=i) A0b;have p1:f[i]?=some f[i]:=io hil;have p2:(f.map aq)[((i:Nat):Int).toNat]?=some (aq f[i]):=by rw[tl,Io,p1];rfl
 have pm:f[i]∈f:=Y5 hil;generalize f[i]=x at p1 p2 pm;obtain⟨⟨x0,xl⟩,_,_⟩:=hI.mem x pm;have x2:x<(C.length:Int):=A0b
 have x3:x.toNat+1<=L2.length:=A0b
 have c2:=aU (aj H0 g (some (rowO (L2.map iv) ty)));have hsp:eR (L2.map iv) x.toNat [.int .i64 d]=(L2.set x.toNat d).map iv:=by rw[cE _ _ _ A0v,aaR]
 rw[tl] at p2;simp +decide (maxDischargeDepth:=200) only[go_sem,Nat.reduceBEq,A7,Eb,z52,YP,YC,eq,tl,c2,d1,d2,d3,d4,p2,x0,x2,x3,hsp,fa];refine⟨⟨(i+1,L2.set x.toNat d),hil,by simp only[Za];exact hL2,fun j=>?_⟩,⟨?_,?_,rfl⟩,by simp only;omega⟩
 . simp only;simp only[Zg,h2 j,aF p1,YM,YF];by_cases e:x.toNat=j
   . subst e;rw[YG rfl,YG A0b,YG (.inr A0b)]
   . rw[YL e];have:((j:Nat):Int)≠x:=A0b
     simp only[this,or_false]
 . simp +decide (maxDischargeDepth:=200) only[go_sem,Nat.reduceBEq]
 . simp +decide (maxDischargeDepth:=200) only[go_sem,Nat.reduceBEq]
theorem zu:od EX 52 none (rY,r9):=by
 have key:∀ops ac bd,jY=some (ops,ac,bd)->od EX 52 none (.seq (.region 7 ⟨ops⟩ false) (.block 2 (.rangeFunc (.tmp 26) #[27,28] ac bd)),r9):=by
  have hround:= @vV;refine vU (by rfl) ?_;rintro B s K a w hX ⟨C,R,S,g,ty,⟨ht,hb,hg⟩,hR,hS,hrev,hK⟩;have hC4:C.length<=400:=hR.2.1;have hX:=hX.le (aJ ht hb);have hX:=(HoldX.toIp (i:=1) (v:=1) (cs:=[.sl false 3 (C.map aa) none,.sl false 1 (R.map rI) none,.sl false 1 (S.map rI) none]) (st':=au [(3,.ptr 3 0)] [(3,[.x (.slice (some ⟨g,0,none⟩) C.length C.length)])]) (fun _=>rfl) hX rfl A0c rfl (aJ ⟨rfl,trivial⟩ ⟨rfl,trivial⟩) rfl).le (aJ (ts:=[(1,.ip [.sl false 3 (C.map aa) none,.sl false 1 (R.map rI) none,.sl false 1 (S.map rI) none]),(3,.ptr 3 0)]) (bs:=[(3,[.x (.slice (some ⟨g,0,none⟩) C.length C.length)])]) ⟨rfl,rfl,trivial⟩ ⟨rfl,trivial⟩);have hX:=(HoldX.toIp (i:=3) (v:=3) (cs:=[.x (.slice (some ⟨g,0,none⟩) C.length C.length)]) (st':=au [(1,.ip [.sl false 3 (C.map aa) none,.sl false 1 (R.map rI) none,.sl false 1 (S.map rI) none])] []) (fun _=>rfl) hX rfl A0c rfl (aJ ⟨rfl,trivial⟩ trivial) rfl).le (aJ (ts:=[(1,.ip [.sl false 3 (C.map aa) none,.sl false 1 (R.map rI) none,.sl false 1 (S.map rI) none]),(3,.ip [.x (.slice (some ⟨g,0,none⟩) C.length C.length)])]) (bs:=[]) ⟨rfl,rfl,trivial⟩ trivial);clear ht hb;simp only at hX;refine wpIn_seq (wpIn_region ?_);refine(wpOpsIn_cons ..).mpr ?_;refine oe (F:=A7) (K':=fun s'=>fu s'.st [(1,.ip [.sl false 3 (C.map aa) none,.sl false 1 (R.map rI) none,.sl false 1 (S.map rI) none]),(3,.ip [.x (.slice (some ⟨g,0,none⟩) C.length C.length)]),(24,gD C R S)]∧s'.H=s.H) qq rZ (fun t s C e=>by cases e) rfl (by intro k hk;cases hk;decide) hX ?_ ?_
  . simp +decide (maxDischargeDepth:=200) only[go_sem,Nat.reduceBEq,gD,A7,Eb]<;>(repeat' first|rfl|constructor)
  rintro⟨st1,H1⟩ a1 w1 ⟨ht,rfl⟩ hX1;have hX:=hX1.le (aJ (bs:=[]) ht trivial);clear hX1 ht;refine(wpOpsIn_cons ..).mpr ?_;refine oe (F:=A7) (K':=fun s'=>∃out,FinOK R C.length out∧fu s'.st [(1,.ip [.sl false 3 (C.map aa) none,.sl false 1 (R.map rI) none,.sl false 1 (S.map rI) none]),(3,.ip [.x (.slice (some ⟨g,0,none⟩) C.length C.length)]),(25,.sl false 1 (out.map aq) none)]∧s'.H=s.H) qq rZ (fun t s C e=>by cases e) rfl (by intro k hk;cases hk;decide) hX ?_ ?_
  . simp +decide (maxDischargeDepth:=200) only[go_sem,Nat.reduceBEq,gD,A7,Eb];refine⟨C,R,S,rfl,hR,fun out hF=>⟨out,hF,?_⟩⟩;simp +decide (maxDischargeDepth:=200) only[go_sem,Nat.reduceBEq]<;>(repeat' first|rfl|constructor)
  rintro⟨st2,H1⟩ a2 w2 ⟨out,hF,ht2,rfl⟩ hX2;have hX:=hX2.le (aJ (bs:=[]) ht2 trivial);clear hX2 ht2;have hol:out.length<=400:=by have:=cO hF.nd (n:=C.length) (fun x hx=>(hF.mem x).1 hx);omega
  obtain⟨ao,ln,cp,hv⟩:∃ao ln cp,a2.eval (.tmp 25)= .slice ao ln cp:=by obtain⟨m,hr⟩:=hX.rdx (.tmp 25) (u:= .sl false 1 (out.map aq) none) rfl rfl;generalize a2.eval (.tmp 25)=v at hr;generalize out.map aq=es at hr;cases hr<;>exact⟨_,_,_,rfl⟩
  refine Hj (f:=35) (args:= #[.tmp 25]) (d:=26) (u:= .x (.func (.func 52) #[] #[.pointer (some ⟨w2.heap.size,0,none⟩)])) (R:=fun e w'=>e= .returned (.func (.func 52) #[] #[.pointer (some ⟨w2.heap.size,0,none⟩)])∧w'=w2.alloc (.cells #[.slice ao ln cp] 41)) ⟨fun m w=>B.Kn.P m w∧Rd m w (.pointer (some ⟨w2.heap.size,0,none⟩)) (.ip [.sl false 1 (out.map aq) none]),fun m w m' w' h he=>⟨B.Kn.mono _ _ _ _ h.1 he,h.2.mono he⟩⟩ rfl rfl rfl A0c rfl (fun a w=>Tryz.call35 a w) hX ?_ ?_
  . intro m D O hn hk;rw[show Array.map a2.eval #[Operand.tmp 25]= #[.slice ao ln cp] from by simp[hv]];exact DT ao ln cp w2
  . rintro m D O hn hk e w' ⟨rfl,rfl⟩;have hrd:Rd m w2 (.slice ao ln cp) (.sl false 1 (out.map aq) none):=by
     obtain⟨_,_,hr⟩:=hn.rel;have h9:Rd m w2 (a2.eval (.tmp 25)) (.sl false 1 (out.map aq) none):=(hr.tmps 25:Rs m w2 _ (a2.eval (.tmp 25)) (.sl false 1 (out.map aq) none)).dat rfl
     rwa [hv] at h9
    obtain⟨h1,h2⟩:=Tp (ty:=41) hrd;refine⟨_,_,rfl,h1,qq.keep [] _ _ (fun x hx=>by cases hx) hn.J (h1.bel (fun k _ h=>h.elim)),.x _,⟨B.Kn.mono _ _ _ _ hk h1.ext,h2⟩,fun hX3=>?_⟩;generalize w2.alloc (.cells #[.slice ao ln cp] 41)=w3 at hX3⊢;generalize a2.put (some 26) (.func (.func 52) #[] #[.pointer (some ⟨w2.heap.size,0,none⟩)])=a3 at hX3⊢;rw[de] at hX3;refine wpIn_block ?_
    refine wpIn_mono (Hk (K:=fun o s'=>o= .normal∧∃hs,HeadsOK R C.length hs∧s'=⟨au [(1,.ip [.sl false 3 (C.map aa) none,.sl false 1 (R.map rI) none,.sl false 1 (S.map rI) none]),(3,.ip [.x (.slice (some ⟨g,0,none⟩) C.length C.length)])] [],upd s.H g (some (rowO (hs.map iv) ty))⟩) (F:=A7) (Ok:=TD out) (Done:=Ml out) qq oJ rZ (fun t s C e=>by cases e) (fun _=>rfl) hX3 (hX3.ev (.tmp 26) rfl) (fun a w=>Tryz.call52 a w) (fun m0 hk0 m1 w1 hs1 hj1=>DU hol ⟨hk0.2.mono hs1.ext,trivial⟩) [(1,.ip [.sl false 3 (C.map aa) none,.sl false 1 (R.map rI) none,.sl false 1 (S.map rI) none]),(3,.ip [.x (.slice (some ⟨g,0,none⟩) C.length C.length)])] ⟨rfl,rfl,trivial⟩ A0a (by intro p hp;simp at hp;rcases hp with rfl|rfl<;>decide) (fun pre x ⟨k,hk,e⟩=>?_) A0a A0a
     (fun pre H=>∃k L,k<=out.length∧pre=rX out k∧HSt R C.length out (out.length-k) L∧H=upd s.H g (some (rowO (L.map iv) ty))) ⟨0,List.replicate C.length (-1),Zf _,rfl,HSt.start (YJ _),?_⟩ (hround hR hS hrev hF _ _ _ rfl) ?_) ?_
    . rw[oK] at e;have:=(List.append_inj' e rfl).2;simp only[Zb,Z7] at this;rw[this];rfl
    . funext y;by_cases e:y=g
      . subst e;rw[aj];exact hg
      . rw[ag _ _ e]
    . rintro xs H hd ⟨k,L,hk,rfl,hst,rfl⟩;have e:k=out.length:=by
       have:=aap List.length hd
       rwa [mH,mH] at this
      subst e;rw[abC] at hst;exact⟨rfl,L,hst.done hF,rfl⟩
    . rintro e a4 w4 ⟨o,s',ho,⟨rfl,hs,hh,rfl⟩,hX4⟩;have he:e= .normal:=by cases e<;>simp[ea] at ho<;>rfl
      subst he;exact⟨.normal,_,rfl,hK hs hh ⟨out,hF⟩,hX4.kn (fun m w h=>h.1)⟩
 have e:rY= .seq (.region 7 ⟨(jY.getD ([],.skip,.skip)).1⟩ false) (.block 2 (.rangeFunc (.tmp 26) #[27,28] (jY.getD ([],.skip,.skip)).2.1 (jY.getD ([],.skip,.skip)).2.2)):=A0a
 rw[e];exact key _ _ _ A0a
theorem DV {H:HH} {L:List Int} (hg:H g=some (rowO (L.map iv) ty)) (hw:∀g ob,H g=some ob->w.heap[g]?=some ob) (hm:∀g,H g≠none->m g=none):Rd m w (.slice (some ⟨g,0,none⟩) L.length L.length) (.sl false 1 (L.map aq) none):=by
 have hh:=hw g _ hg;have hmg:=hm g A0z;have:=Rd.sl (m:=m) (w:=w) g 0 L.length 1 (L.map aq) none (fun k=>((L.map iv)[k]?).getD Go.undef) (ai hh) (by rw[eq];exact YJ _) (fun i e hi=>by
  rw[Io,YE] at hi;obtain⟨n,_,rfl⟩:=hi;rfl) (fun k hk=>by
  rw[eq,YP] at hk;rw[YC,Box.cell hh,ZL,io A0v];rfl) (fun fr hf=>by rw[hmg] at hf;cases hf) (fun i e hi j d hd=>by
  rw[Io,YE] at hi;obtain⟨q,hn,rfl⟩:=hi;cases j with
  |zero=>cases hd;rw[YP,ZE,Io,hn];exact .x _
  |succ j=>cases hd)
 rwa [eq] at this
def Iq (us:List V) (H:HH) (T:V->HH->Prop):Prop:=∃C R S,us=[gD C R S]∧bK C.length R∧bK C.length S∧vF C.length R S∧∀hs,HeadsOK R C.length hs->(∃out,FinOK R C.length out)->T (.sl false 1 (hs.map aq) none) H
noncomputable def TE:Fx:={F:=uX Eb,D:=fun d=>d==14,P:=fun id=>if id=7 then some (rY,r9) else none}
theorem DW:cn EX 18 Iq:=by
 refine uW (F:=TE) (n:=52) (k:=1) qq oJ rZ (fun t s C e=>by cases e) (fun id p e=>by
  replace e:(if id=7 then some (rY,r9) else none)=some p:=e;split at e
  . cases e;exact zu
  . cases e) Tryz.func18 rfl (fun a w=>Tryz.call18 a w) Tryz.ntmps18 A0c A0c A0a ?_
 rintro us H T ⟨C,R,S,rfl,hR,hS,hrev,hT⟩ hdat;clear hdat;refine⟨rfl,?_⟩;have hC4:C.length<=400:=hR.2.1;simp only[gD];have m52:KW Tryz.prog 41=some (3,1,8,.int .i64 0):=A0a
 have z52:o5 Tryz.prog 41=some 1:=A0a
 have l1:((8:Nat):Int)*(C.length:Int)<=281474976710656:=A0b
 have l2:(C.length:Int)<=9223372036854775807:=A0b
 have l3:(0:Int)<=(C.length:Int):=A0b
 simp +decide (maxDischargeDepth:=200) only[go_sem,Nat.reduceBEq,TE,m52,z52,eq,l1,l2,l3,tl,YP,YX,YU,Nat.reduceEqDiff];intro g hg;refine bp (X:={q:Nat×List Int//q.1<=C.length∧q.2.length=C.length∧∀j:Nat,j<q.1->q.2[j]?=some (-1)}) (fun q=>[(1,.ptr 1 0),(3,.ptr 3 0),(16,aq (C.length:Int)),(17,aq ((q.1.1:Nat):Int))]) (fun _=>[(1,[.sl false 3 (C.map aa) none,.sl false 1 (R.map rI) none,.sl false 1 (S.map rI) none]),(3,[.x (.slice (some ⟨g,0,none⟩) C.length C.length)])]) (fun q H'=>H'=mer H (upd (fun _=>none) g (some (rowO (q.1.2.map iv) 3)))) (fun q=>C.length-q.1.1) ⟨(0,List.replicate C.length 0),Zf _,ZM,fun j h=>by omega⟩ A0d A0d (by show upd H g _=_;rw[<-bZ hg,gI,List.map_replicate]) ?_;rintro⟨⟨i,L⟩,hi,hL,hc⟩ H1 rfl;simp only at hi hL hc⊢;have hm:mer H (upd (fun _=>none) g (some (rowO (L.map iv) 3))) g=some (rowO (L.map iv) 3):=by rw[fV hg,aj]
 have c1:=aU hm;by_cases hil:i<C.length
 case pos=>
  have d1:decide ((i:Int)<(C.length:Int))=true:=Yz A0b;have d2:(0:Int)<=(i:Int):=A0b
  have d3:(i:Int)<(C.length:Int):=A0b
  have d4:=aD (i:=i) A0b;have d5:i+1<=L.length:=A0b
  have hsp:eR (L.map iv) i [.int .i64 (-1)]=(L.set i (-1)).map iv:=by rw[cE _ _ _ A0v,aaR]
  have u1:∀o,upd (mer H (upd (fun _=>none) g (some (rowO (L.map iv) 3)))) g o=mer H (upd (fun _=>none) g o):=fun o=>by rw[bZ hg,fa]
  simp +decide (maxDischargeDepth:=200) only[go_sem,Nat.reduceBEq,TE,z52,YP,YC,eq,tl,c1,d1,d2,d3,d4,d5,hsp,u1,YX,YU,Nat.reduceEqDiff];refine⟨⟨(i+1,L.set i (-1)),hil,by simp only[Za];exact hL,fun j hj=>?_⟩,⟨?_,?_,rfl⟩,by simp only;omega⟩
  . simp only at hj⊢;rw[Zg];by_cases e:i=j
    . subst e;rw[YG rfl,YG A0b]
    . rw[YL e];exact hc j A0b
  . simp +decide (maxDischargeDepth:=200) only[go_sem,Nat.reduceBEq]
  . simp +decide (maxDischargeDepth:=200) only[go_sem,Nat.reduceBEq]
 have d1:decide ((i:Int)<(C.length:Int))=false:=YA A0b;have hLr:L=List.replicate C.length (-1):=by rw[List.eq_replicate_iff];refine⟨hL,fun b hb=>?_⟩;obtain⟨j,hj⟩:=Zo.1 hb;have hjl:=(iO.1 hj).1;rw[hc j A0b] at hj;cases hj;rfl
 subst hLr;simp +decide (maxDischargeDepth:=200) only[go_sem,Nat.reduceBEq,TE,d1,YX,YU,Nat.reduceEqDiff];refine⟨A0a,C,R,S,g,3,⟨?_,?_,hm⟩,hR,hS,hrev,fun hs hh hfo=>?_⟩
 . simp +decide (maxDischargeDepth:=200) only[go_sem,Nat.reduceBEq]<;>(repeat' first|rfl|constructor)
 . simp +decide (maxDischargeDepth:=200) only[go_sem,Nat.reduceBEq]<;>(repeat' first|rfl|constructor)
 have hhl:=hh.1;simp +decide (maxDischargeDepth:=200) only[go_sem,Nat.reduceBEq,YX,YU,Nat.reduceEqDiff];rw[bZ hg,fa];refine kG (fun m w v h1 h2 h3=>?_) ((Dis.empty H).upd hg) (hT hs hh hfo);rw[Rd.x_iff.1 h3,<-hhl];exact DV (aj _ _ _) h1 h2
structure WInv (n:Nat) (R0:List (List Int)) (i k:Nat) (R S:List (List Int)):Prop where
 lR:R.length=n
 lS:S.length=n
 r:∀j:Nat,j<n->R[j]?=some (if j<i then rowZ R0 (j:Int) else if j=i then (rowZ R0 (j:Int)).take k else [])
 s:∀p:Nat,p<n->∃l,S[p]?=some l∧l.Pairwise (· < ·)∧∀z:Int,z∈l↔∃j:Nat,z=(j:Int)∧((j<i∧(p:Int)∈rowZ R0 (j:Int))∨(j=i∧(p:Int)∈(rowZ R0 (j:Int)).take k))
theorem WInv.zero (n:Nat) (R0:List (List Int)):WInv n R0 0 0 (List.replicate n []) (List.replicate n []):=by
 refine⟨ZM,ZM,fun j hj=>?_,fun p hp=>⟨[],by rw[Zl,YG hp],List.Pairwise.nil,fun z=>⟨fun h=>A0S,?_⟩⟩⟩
 . rw[Zl,YG hj,YL A0b,ZA];split<;>rfl
 . rintro⟨j,_,⟨h,_⟩|⟨_,h⟩⟩
   . omega
   . rw[ZA] at h;cases h
variable {n:Nat} {R0 R S:List (List Int)}
theorem WInv.next {i:Nat} (h:WInv n R0 i (rowZ R0 (i:Int)).length R S):WInv n R0 (i+1) 0 R S:=by
 refine⟨h.lR,h.lS,fun j hj=>?_,fun p hp=>?_⟩
 . rw[h.r j hj];congr 1;by_cases e:j=i
   . subst e;rw[YL A0b,YG rfl,YG A0b,Zy]
   . by_cases e2:j<i
     . rw[YG e2,YG A0b]
     . rw[YL e2,YL e,YL A0b,ZA];split<;>rfl
 . obtain⟨l,h1,h2,h3⟩:=h.s p hp;refine⟨l,h1,h2,fun z=>(h3 z).trans ⟨?_,?_⟩⟩
   . rintro⟨j,rfl,⟨a,b⟩|⟨rfl,b⟩⟩
     . exact⟨j,rfl,.inl ⟨A0b,b⟩⟩
     . rw[Zy] at b;exact⟨j,rfl,.inl ⟨A0b,b⟩⟩
   . rintro⟨j,rfl,⟨a,b⟩|⟨_,b⟩⟩
     . by_cases e:j=i
       . subst e;exact⟨j,rfl,.inr ⟨rfl,by rw[Zy];exact b⟩⟩
       . exact⟨j,rfl,.inl ⟨A0b,b⟩⟩
     . rw[ZA] at b;cases b
theorem WInv.step {n:Nat} {R0 R S:List (List Int)} {i k:Nat} {p:Int} {l:List Int} (h:WInv n R0 i k R S) (hi:i<n) (hp:(rowZ R0 (i:Int))[k]?=some p) (p0:0<=p) (hnd:(rowZ R0 (i:Int)).Nodup) (hl:S[p.toNat]?=some l):
 WInv n R0 i (k+1) (R.set i ((rowZ R0 (i:Int)).take k++[p])) (S.set p.toNat (l++[(i:Int)])):=by
 have ht:=aF hp;have hpt:p∉(rowZ R0 (i:Int)).take k:=fun hm=>by
  obtain⟨j,hj⟩:=Zo.1 hm;rw[Zm] at hj;split at hj
  . rename_i hjk;have h1:=(iO.1 hj);have h2:=(iO.1 hp);have:=(List.getElem_inj hnd).1 (h1.2.trans h2.2.symm);omega
  . cases hj
 refine⟨by rw[Za];exact h.lR,by rw[Za];exact h.lS,fun j hj=>?_,fun q hq=>?_⟩
 . rw[Zg];by_cases e:i=j
   . subst e;rw[YG rfl,YG (by rw[h.lR];exact hj),YL A0b,YG rfl,ht]
   . rw[YL e,h.r j hj];simp only[show¬j=i from fun e'=>e e'.symm,YU]
 . obtain⟨l',h1,h2,h3⟩:=h.s q hq;rw[Zg];by_cases e:p.toNat=q
   . subst e;rw[hl] at h1;cases h1;rw[ZI p0] at h3⊢;refine⟨l++[(i:Int)],by rw[YG rfl,YG (by rw[h.lS];exact hq)],ZS.2 ⟨h2,Z8 _ _,fun a ha b hb=>?_⟩,fun z=>?_⟩
     . rw[YF] at hb;subst hb;obtain⟨j,rfl,⟨a,_⟩|⟨rfl,b⟩⟩:=(h3 a).1 ha
       . omega
       . exact absurd b hpt
     . rw[YM,YF,h3 z];constructor
       . rintro(⟨j,rfl,⟨a,b⟩|⟨rfl,b⟩⟩|rfl)
         . exact⟨j,rfl,.inl ⟨a,b⟩⟩
         . exact⟨j,rfl,.inr ⟨rfl,by rw[ht];exact Zi _ b⟩⟩
         . exact⟨i,rfl,.inr ⟨rfl,by rw[ht];exact ZU _ (YF.2 rfl)⟩⟩
       . rintro⟨j,rfl,⟨a,b⟩|⟨rfl,b⟩⟩
         . exact .inl ⟨j,rfl,.inl ⟨a,b⟩⟩
         . exact .inr rfl
   . rw[YL e];refine⟨l',h1,h2,fun z=>(h3 z).trans ⟨?_,?_⟩⟩
     . rintro⟨j,rfl,⟨a,b⟩|⟨rfl,b⟩⟩
       . exact⟨j,rfl,.inl ⟨a,b⟩⟩
       . exact⟨j,rfl,.inr ⟨rfl,by rw[ht];exact Zi _ b⟩⟩
     . rintro⟨j,rfl,⟨a,b⟩|⟨rfl,b⟩⟩
       . exact⟨j,rfl,.inl ⟨a,b⟩⟩
       . rw[ht,YM,YF] at b;exact⟨j,rfl,.inr ⟨rfl,b.resolve_right A0b ⟩⟩
def Ir (n:Nat) (R S:List (List Int)):Prop:=bK n R∧bK n S∧vF n R S∧(∀l∈R,l.Nodup)∧∀l∈S,l.Nodup
theorem WInv.done (h:WInv n R0 n 0 R S) (hR:bK n R0) (hnd:∀l∈R0,l.Nodup):R=R0∧Ir n R0 S:=by
 have hrow:∀{p:Nat} {l:List Int},p<n->S[p]?=some l->l.Pairwise (· < ·)∧∀z:Int,z∈l↔∃j:Nat,z=(j:Int)∧j<n∧(p:Int)∈rowZ R0 (j:Int):=fun {p l} hp hl=>by
  obtain⟨l',h1,h2,h3⟩:=h.s p hp;rw[hl] at h1;cases h1;refine⟨h2,fun z=>(h3 z).trans ⟨?_,?_⟩⟩
  . rintro⟨j,rfl,⟨a,b⟩|⟨_,b⟩⟩
    . exact⟨j,rfl,a,b⟩
    . rw[ZA] at b;cases b
  . rintro⟨j,rfl,a,b⟩;exact⟨j,rfl,.inl ⟨a,b⟩⟩
 have hlt:∀l∈S,l.Nodup∧∀z∈l,0<=z∧z.toNat<n:=fun l hl=>by
  obtain⟨p,hp⟩:=Zo.1 hl;have hpn:p<n:=by rw[<-h.lS];exact(iO.1 hp).1
  obtain⟨h1,h2⟩:=hrow hpn hp;refine⟨h1.imp fun {a b} h=>by omega,fun z hz=>?_⟩;obtain⟨j,rfl,hj,_⟩:=(h2 z).1 hz;exact⟨aar j,by rw[tl];exact hj⟩
 refine⟨?_,hR,⟨h.lS,hR.2.1,fun l hl=>⟨?_,(hlt l hl).2⟩⟩,fun x y x0 xn y0 yn=>?_,hnd,fun l hl=>(hlt l hl).1⟩
 . apply ZO;intro j;by_cases hj:j<n
   . rw[h.r j hj,YG hj];unfold rowZ;rw[tl,io (by rw[hR.1];exact hj)];rfl
   . rw[Y1 (by rw[h.lR];omega),Y1 (by rw[hR.1];omega)]
 . have:=cO (hlt l hl).1 (hlt l hl).2;have:=hR.2.1;omega
 . obtain⟨l,hl⟩:∃l,S[y.toNat]?=some l:=⟨_,io (by rw[h.lS];exact yn)⟩;obtain⟨_,h2⟩:=hrow yn hl;rw[ZI y0] at h2;unfold rowS;rw[hl,Z1,h2 x];constructor
   . rintro⟨j,rfl,_,b⟩;exact b
   . intro b;exact⟨x.toNat,A0b,xn,by rw[ZI x0];exact b⟩
structure WQ (n gR gS:Nat) (vR vS:List Value) (R S:List (List Int)) (H:HH):Prop where
 r:H gR=some (rowO vR 41)
 s:H gS=some (rowO vS 41)
 ne:gR≠gS
 rows:Piles H (vR++vS) (R++S) [gR,gS]
 lR:R.length=n
 lS:S.length=n
 lvR:vR.length=n
 lvS:vS.length=n
section
variable {n gR gS:Nat} {vR vS:List Value} {R S:List (List Int)} {H:HH}
theorem WQ.on (h:WQ n gR gS vR vS R S H):∀x∈[gR,gS],H x≠none:=by
 intro x hx;simp only[YT,aa0,or_false] at hx;rcases hx with rfl|rfl
 . rw[h.r];exact fun h=>by cases h
 . rw[h.s];exact fun h=>by cases h
theorem WQ.far (h:WQ n gR gS vR vS R S H) {j:Nat} {vi:Value} (hi:(vR++vS)[j]?=some vi) {g:Nat} (hg:blkOf vi=some g∨H g=none):∀x∈[gR,gS],x≠g:=by
 intro x hx e;subst e;rcases hg with hg|hg
 . exact h.rows.out j vi x hi hg hx
 . exact h.on x hx hg
theorem WQ.inS (h:WQ n gR gS vR vS R S H) (i:Nat):(vR++vS)[n+i]?=vS[i]?:=by rw[Y7 (by rw[h.lvR];omega),h.lvR,aas]
theorem WQ.inR (h:WQ n gR gS vR vS R S H) {i:Nat} (hi:i<n):(vR++vS)[i]?=vR[i]?:=YN (by rw[h.lvR];exact hi)
theorem WQ.rowR (h:WQ n gR gS vR vS R S H) {i:Nat} {v:Value} {es:List Int} (hi:vR[i]?=some v) (he:R[i]?=some es):RowI H v es:=by have hil:=(iO.1 hi).1;exact h.rows.row i v es (by rw[h.inR (by rw[<-h.lvR];exact hil)];exact hi) (by rw[YN (by rw[h.lR,<-h.lvR];exact hil)];exact he)
theorem WQ.rowS (h:WQ n gR gS vR vS R S H) {i:Nat} {v:Value} {es:List Int} (hi:vS[i]?=some v) (he:S[i]?=some es):RowI H v es:=
 h.rows.row (n+i) v es (by rw[h.inS];exact hi) (by rw[Y7 (by rw[h.lR];omega),h.lR,aas];exact he)
theorem WQ.setR (h:WQ n gR gS vR vS R S H) {i g:Nat} {vi v':Value} {es:List Int} {ob:Obj} (hi:vR[i]?=some vi) (hb:blkOf v'=some g) (hg:blkOf vi=some g∨H g=none) (hr:RowI (upd H g (some ob)) v' es):WQ n gR gS (vR.set i v') vS (R.set i es) S (upd (upd H g (some ob)) gR (some (rowO (vR.set i v') 41))):=by
 have hil:=(iO.1 hi).1;have hi2:(vR++vS)[i]?=some vi:=by rw[YN hil];exact hi
 have hf:=h.far hi2 hg;refine⟨aj _ _ _,by rw[ag _ _ (ZY h.ne),ag _ _ (hf gS A0j)];exact h.s,h.ne,?_,by rw[Za];exact h.lR,h.lS,by rw[Za];exact h.lvR,h.lvS⟩;have:=(h.rows.set hi2 h.on hb hg hr).other (x:=gR) (o:=some (rowO (vR.set i v') 41)) A0j;rw[abi _ _ hil,abi _ _ (by rw[h.lR,<-h.lvR];exact hil)] at this;exact this
theorem WQ.setS (h:WQ n gR gS vR vS R S H) {i g:Nat} {vi v':Value} {es:List Int} {ob:Obj} (hi:vS[i]?=some vi) (hb:blkOf v'=some g) (hg:blkOf vi=some g∨H g=none) (hr:RowI (upd H g (some ob)) v' es):WQ n gR gS vR (vS.set i v') R (S.set i es) (upd (upd H g (some ob)) gS (some (rowO (vS.set i v') 41))):=by
 have hi2:(vR++vS)[n+i]?=some vi:=by rw[h.inS];exact hi
 have hf:=h.far hi2 hg;refine⟨by rw[ag _ _ h.ne,ag _ _ (hf gR A0j)];exact h.r,aj _ _ _,h.ne,?_,h.lR,by rw[Za];exact h.lS,h.lvR,by rw[Za];exact h.lvS⟩;have:=(h.rows.set hi2 h.on hb hg hr).other (x:=gS) (o:=some (rowO (vS.set i v') 41)) A0j;rw[aa8 _ _ (by rw[h.lvR];omega),aa8 _ _ (by rw[h.lR];omega),h.lvR,h.lR,aas] at this;exact this
theorem WQ.zero {gR gS:Nat} (hne:gR≠gS):WQ n gR gS (List.replicate n (.slice none 0 0)) (List.replicate n (.slice none 0 0)) (List.replicate n []) (List.replicate n []) (upd (upd (fun _=>none) gR (some (rowO (List.replicate n (.slice none 0 0)) 41))) gS (some (rowO (List.replicate n (.slice none 0 0)) 41))):=by
 have key:∀{i:Nat} {v:Value},(List.replicate n (Value.slice none 0 0)++List.replicate n (.slice none 0 0))[i]?=some v->v= .slice none 0 0:=fun {i v} hv=>by rw[aav,Zl] at hv;split at hv<;>cases hv;rfl
 refine⟨by rw[ag _ _ hne,aj],aj _ _ _,hne,⟨A0j,fun i v es hv he=>?_,fun i j v v' b _ hv _ hb=>?_,fun i v b hv hb=>?_⟩,ZM,ZM,ZM,ZM⟩
 . rw[aav,Zl] at he;split at he<;>cases he;exact .inl ⟨rfl,key hv⟩
 . rw[key hv] at hb;cases hb
 . rw[key hv] at hb;cases hb
end
noncomputable abbrev WE:Env:=bP [(32,FE ct Te),(33,FE ma SQ),(34,FE mb SP)] [] [] (fun _=>false) (fun _=>false)
theorem Tq:EnvOK WE:=bw _ _ _ _ _ ⟨H7,za,y8,trivial⟩ trivial trivial
def f7 (b f g0 n:Nat) (y x:Int) (v v':Value) (k:Nat):V:=if k<b then .undef else match k-b with
 |0=> .ptr 8 f|1=> .x (.slice (some ⟨g0,0,none⟩) n n)|2=>aq y|3=> .ptr 8 f|4=> .x (.slice (some ⟨g0,0,none⟩) n n)|5=>aq y|6=> .x (.pointer (some ⟨g0,y.toNat,none⟩))|7=> .x v|8=>aq x|9=> .sl false 1 [aq x] none|10=> .x v'|11=> .x (.pointer (some ⟨g0,y.toNat,none⟩))|_=> .undef
theorem DX {b f g0:Nat} {y x:Int} (v' v'':Value) {k:Nat} (h:k≠b+10):f7 b f g0 n y x v v'' k=f7 b f g0 n y x v v' k:=by
 unfold f7;by_cases hk:k<b
 . rw[YG hk,YG hk]
 . rw[YL hk,YL hk];generalize hj:k-b=j
   match j with
   |0=>rfl
   |1=>rfl
   |2=>rfl
   |3=>rfl
   |4=>rfl
   |5=>rfl
   |6=>rfl
   |7=>rfl
   |8=>rfl
   |9=>rfl
   |10=>exact absurd A0b h
   |11=>rfl
   |j+12=>rfl
def IAdd (H:HH) (b f g0 n:Nat) (y x:Int) (vs:List Value) (v:Value) (es:List Int) (L:Nat) (H':HH) (val:Nat->V):Prop:=∃v',val=f7 b f g0 n y x v v'∧(L.testBit 10=false->H'=H)∧
 (L.testBit 10=true->∃g ob,blkOf v'=some g∧(blkOf v=some g∨H g=none)∧RowJ (upd H g (some ob)) v' (es++[x])∧H'=if L.testBit 12=true then upd (upd H g (some ob)) g0 (some (rowO (vs.set y.toNat v') 41)) else upd H g (some ob))
section
variable {H H':HH} {b f g0 n:Nat} {y x:Int} {vs:List Value} {v:Value} {es:List Int} {L:Nat} {val:Nat->V}
theorem IAdd.next (h:IAdd H b f g0 n y x vs v es L H' val) {k:Nat} (h1:k≠10) (h2:k≠12):IAdd H b f g0 n y x vs v es (L|||2^k) H' val:=by unfold IAdd;rw[av L h1,av L h2];exact h
theorem IAdd.cell (h:IAdd H b f g0 n y x vs v es L H' val) (h0:H g0=some (rowO vs 41)) (hf:blkOf v≠some g0) (hb:L.testBit 12=false):ii H' g0=some (vs,41):=by
 obtain⟨v',_,q0,q1⟩:=h;cases h8:L.testBit 10 with
 |false=>rw[q0 h8];exact aU h0
 | true=>
   obtain⟨g,ob,_,hg,_,rfl⟩:=q1 h8;rw[YL A09];refine aU ?_;rw[ag _ _ ?_]
   . exact h0
   . rintro rfl;rcases hg with hg|hg
     . exact hf hg
     . rw[h0] at hg;cases hg
theorem IAdd.app (h:IAdd H b f g0 n y x vs v es L H' val) {v' v'':Value} {g:Nat} {ob:Obj} (h12:L.testBit 12=false) (hb':blkOf v''=some g) (hg:blkOf v=some g∨H g=none) (hr:RowJ (upd H g (some ob)) v'' (es++[x])) (hv:val=f7 b f g0 n y x v v'):
 (∀k,some (b+10)≠some k->f7 b f g0 n y x v v'' k=val k)∧IAdd H b f g0 n y x vs v es (L|||2^10) (upd H g (some ob)) (f7 b f g0 n y x v v''):=by
 have _:=h;refine⟨fun k hk=>by rw[hv];exact DX _ _ (fun e=>hk A0U),v'',rfl,fun h=>?_,fun _=>⟨g,ob,hb',hg,hr,?_⟩⟩
 . rw[cD L 10] at h;cases h
 . rw[av L (by decide :(10:Nat)≠12),h12,YL A0j]
theorem IAdd.put (h:IAdd H b f g0 n y x vs v es L H' val) {v':Value} {g:Nat} {ob:Obj} (h10:L.testBit 10=true) (hb':blkOf v'=some g) (hg:blkOf v=some g∨H g=none) (hr:RowJ (upd H g (some ob)) v' (es++[x])) (hv:val=f7 b f g0 n y x v v'):IAdd H b f g0 n y x vs v es (L|||2^12) (upd (upd H g (some ob)) g0 (some (rowO (vs.set y.toNat v') 41))) val:=by have _:=h;refine⟨v',hv,fun h=>?_,fun _=>⟨g,ob,hb',hg,hr,by rw[YG (cD L 12)]⟩⟩;rw[av L (by decide :(12:Nat)≠10),h10] at h;cases h
end
def mj (n:Nat) (CVV:V) (g1 g2:Nat) (b7 b8:Bool):Nat->V
 |30=>CVV|31=>CVV|34=>CVV|32=>aq (n:Int)|35=>aq (n:Int)|33=> .x (.slice (some ⟨g1,0,none⟩) n n)|36=> .x (.slice (some ⟨g2,0,none⟩) n n)|37=>bif b7 then .agg [CVV,.x (.slice (some ⟨g1,0,none⟩) n n),.x (.slice (some ⟨g2,0,none⟩) n n)] else .undef|8=>bif b8 then .ptr 8 0 else .undef|_=> .undef
def IWeb (H:HH) (b0:Nat->Option (List V)) (n:Nat) (CVV:V) (ob:Obj) (L:Nat) (H':HH) (val:Nat->V) (bx:Nat->Option (List V)):Prop:=∃g1 g2,val=mj n CVV g1 g2 (L.testBit 7) (L.testBit 8)∧(L.testBit 3=true->H g1=none)∧(L.testBit 6=true->H g2=none)∧(L.testBit 3=true->L.testBit 6=true->g1≠g2)∧
 H'=(if L.testBit 6=true then upd (if L.testBit 3=true then upd H g1 (some ob) else H) g2 (some ob) else if L.testBit 3=true then upd H g1 (some ob) else H)∧
 bx=if L.testBit 9=true then upd b0 8 (some [CVV,.x (.slice (some ⟨g1,0,none⟩) n n),.x (.slice (some ⟨g2,0,none⟩) n n)]) else if L.testBit 8=true then upd b0 8 (some [.sl true 0 [] none,.sl true 0 [] none,.sl true 0 [] none]) else b0
section
variable {H H':HH} {b0 bx:Nat->Option (List V)} {n:Nat} {CVV:V} {ob:Obj} {L:Nat} {val:Nat->V}
theorem IWeb.next (h:IWeb H b0 n CVV ob L H' val bx) {k:Nat} (h1:k≠3) (h2:k≠6) (h5:k≠7) (h3:k≠8) (h4:k≠9):IWeb H b0 n CVV ob (L|||2^k) H' val bx:=by unfold IWeb;rw[av L h1,av L h2,av L h3,av L h4,av L h5];exact h
theorem gJ {f:HH} {k:Nat} (h:upd f g (some ob) k=none):f k=none∧k≠g:=by
 by_cases e:k=g
 . subst e;rw[aj] at h;cases h
 . rw[ag _ _ e] at h;exact⟨h,e⟩
theorem A8 (n:Nat) (CVV:V) {g1 g2 g1' g2':Nat} {b7 b8:Bool} {k:Nat} (h1:g1=g1'∨(b7=false∧k≠33)) (h2:g2=g2'∨(b7=false∧k≠36)):mj n CVV g1 g2 b7 b8 k=mj n CVV g1' g2' b7 b8 k:=by
 unfold mj;split<;>first|rfl|skip
 . rcases h1 with rfl|h1
   . rfl
   . exact absurd rfl h1.2
 . rcases h2 with rfl|h2
   . rfl
   . exact absurd rfl h2.2
 . rcases h1 with rfl|h1
   . rcases h2 with rfl|h2
     . rfl
     . rw[h2.1];rfl
   . rw[h1.1];rfl
theorem IWeb.row1 (h:IWeb H b0 n CVV ob L H' val bx) {g:Nat} (hg:H' g=none) (h3:L.testBit 3=false) (h7:L.testBit 7=false) (h9:L.testBit 9=false):∃val',(∀k,some 33≠some k->val' k=val k)∧val' 33= .x (.slice (some ⟨g,0,none⟩) n n)∧IWeb H b0 n CVV ob (L|||2^3) (upd H' g (some ob)) val' bx:=by
 obtain⟨g1,g2,rfl,f1,f2,f3,hH',hbx⟩:=h;simp only[h3,Y2,YU] at hH';refine⟨mj n CVV g g2 (L.testBit 7) (L.testBit 8),fun k hk=>A8 _ _ (.inr ⟨h7,fun e=>hk A0U ⟩) (.inl rfl),rfl,g,g2,by rw[av L (by decide :(3:Nat)≠7),av L (by decide :(3:Nat)≠8)],fun _=>?_,?_,?_,?_,?_⟩
 . rw[hH'] at hg;split at hg
   . exact(gJ hg).1
   . exact hg
 . rw[av L (by decide :(3:Nat)≠6)];exact f2
 . rw[av L (by decide :(3:Nat)≠6)];intro _ h6;rw[hH',YG h6] at hg;exact(gJ hg).2
 . rw[cD,av L (by decide :(3:Nat)≠6),hH'];simp only[YX];by_cases h6:L.testBit 6=true
   . rw[YG h6,YG h6];refine ge _ _ _ (fun e=>?_);rw[hH',YG h6] at hg;exact(gJ hg).2 e.symm
   . rw[YL h6,YL h6]
 . rw[av L (by decide :(3:Nat)≠9),av L (by decide :(3:Nat)≠8),hbx,h9];simp only[Y2,YU]
theorem IWeb.row2 (h:IWeb H b0 n CVV ob L H' val bx) {g:Nat} (hg:H' g=none) (h6:L.testBit 6=false) (h7:L.testBit 7=false) (h9:L.testBit 9=false):∃val',(∀k,some 36≠some k->val' k=val k)∧val' 36= .x (.slice (some ⟨g,0,none⟩) n n)∧IWeb H b0 n CVV ob (L|||2^6) (upd H' g (some ob)) val' bx:=by
 obtain⟨g1,g2,rfl,f1,f2,f3,hH',hbx⟩:=h;simp only[h6,Y2,YU] at hH';refine⟨mj n CVV g1 g (L.testBit 7) (L.testBit 8),fun k hk=>A8 _ _ (.inl rfl) (.inr ⟨h7,fun e=>hk A0U ⟩),rfl,g1,g,by rw[av L (by decide :(6:Nat)≠7),av L (by decide :(6:Nat)≠8)],?_,fun _=>?_,?_,?_,?_⟩
 . rw[av L (by decide :(6:Nat)≠3)];exact f1
 . rw[hH'] at hg;split at hg
   . exact(gJ hg).1
   . exact hg
 . rw[av L (by decide :(6:Nat)≠3)];intro h3 _ e;rw[hH',YG h3] at hg;exact(gJ hg).2 e.symm
 . rw[cD,av L (by decide :(6:Nat)≠3),hH'];simp only[YX]
 . rw[av L (by decide :(6:Nat)≠9),av L (by decide :(6:Nat)≠8),hbx,h9];simp only[Y2,YU]
end
def Ts (us:List V) (H:HH) (T:V->HH->Prop):Prop:=∃nl sz l,us=ct (nl,sz,l)∧DM (nl,sz,l)∧Dp (dO l)∧(∀r∈(dO l).2.1,r.Nodup)∧∀S,Ir (dO l).1.length (dO l).2.1 S->T (gD (dO l).1 (dO l).2.1 S) H
theorem LG:cn WE 17 Ts:=by
 refine kA (F:={F:=fun _=>none,D:=fun d=>d==33||d==36,any:=fun d=>d==9||d==17||d==18}) (n:=83) (k:=1) Tq A0a (fun f C e=>by cases e) (fun t s C e=>by cases e) Tryz.func17 rfl (fun a w=>Tryz.call17 a w) Tryz.ntmps17 A0c A0c A0a ?_;rintro us H T ⟨nl,sz,l,rfl,hok,hpd,hnd,hT⟩ hdat;clear hdat;refine⟨rfl,?_⟩;have e1:FE ct Te (ct (nl,sz,l))=some (vr (dO l)):=(cq lq Te (nl,sz,l)).trans (YG hok);have e2:FE ma SQ (ma (dO l))=some (.sl false 3 ((dO l).1.map aa) none):=(cq Dq SQ (dO l)).trans (YG hpd);have e3:∀c,FE mb SP (mb (dO l,c))=some (Lg (dO l).1 (dO l).2.1 c):=fun c=>(cq Dr SP (dO l,c)).trans (YG hpd)
 generalize dO l=pd at*;obtain⟨C,R0,S0⟩:=pd;obtain⟨hCn,hC4,hR0l,_,hR0,_⟩:=hpd;simp only[ct,ma,mb,vr] at e1 e2 e3 hCn hC4 hR0l hR0 hnd hT⊢;have hR:bK C.length R0:=⟨hR0l,hC4,hR0⟩;generalize ksI (plI 0 C)=ks at e1 e2 e3;generalize vsI (plI 0 C)=vs at e1 e2 e3;have m49:KW Tryz.prog 52=some (41,1,24,.slice none 0 0):=A0a
 have z49:o5 Tryz.prog 52=some 1:=A0a
 have ha:GV Tryz.prog 41=true:=A0a
 have l1:((24:Nat):Int)*(C.length:Int)<=281474976710656:=A0b
 have l2:(C.length:Int)<=9223372036854775807:=A0b
 have l3:(0:Int)<=(C.length:Int):=A0b
 simp +decide (maxDischargeDepth:=200) only[go_sem,Nat.reduceBEq,e1,e2,eq];refine bp (X:={i:Nat//i<=C.length}) (fun i=>[(2,.ptr 2 0),(3,.ip [.sl false 3 (C.map aa) none,.fm ks vs,.sl false 1 (R0.map rI) none,.sl false 1 (S0.map rI) none]),(4,.sl false 3 (C.map aa) none),(5,.mp 18 (ksI (plI 0 (C.take i.1))) (vsI (plI 0 (C.take i.1)))),(19,.sl false 3 (C.map aa) none),(20,aq (C.length:Int)),(21,aq ((i.1:Nat):Int))]) (fun _=>[(2,[.sl true 0 [] none,.sl true 0 [] none,.sl true 0 [] none])]) (fun _ H'=>H'=H) (fun i=>C.length-i.1) ⟨0,Zf _⟩ A0d A0d rfl ?_;rintro⟨i,hi⟩ H1 rfl;simp only at hi⊢;by_cases hil:i<C.length
 case pos=>
  have d1:decide ((i:Int)<(C.length:Int))=true:=Yz A0b;have d2:(0:Int)<=(i:Int):=A0b
  have d3:(i:Int)<(C.length:Int):=A0b
  have d4:=aD (i:=i) A0b;have q1:C[i]?=some C[i]:=io hil;have k1:=HV hCn q1;generalize C[i]=c at q1 k1;obtain⟨cs,cc,cr⟩:=c;have q2:(C.map aa)[i]?=some (.agg [.x (.string cs),.x (.int .i64 cc),.x (.int .i64 cr)]):=by rw[Io,q1];rfl
  have hcx:aa (cs,cc,cr)= .agg [.x (.string cs),.x (.int .i64 cc),.x (.int .i64 cr)]:=rfl;rw[hcx] at k1;simp +decide (maxDischargeDepth:=200) only[go_sem,Nat.reduceBEq,eq,tl,d1,d2,d3,d4,q2,k1];refine⟨⟨i+1,hil⟩,⟨?_,?_,rfl⟩,by simp only;omega⟩
  . simp +decide (maxDischargeDepth:=200) only[go_sem,Nat.reduceBEq]
  . simp +decide (maxDischargeDepth:=200) only[go_sem,Nat.reduceBEq]
 obtain rfl:i=C.length:=A0b
 have d1:decide ((C.length:Int)<(C.length:Int))=false:=YA A0b;rw[Zy];simp +decide (maxDischargeDepth:=200) only[go_sem,Nat.reduceBEq,eq,d1]
 --the web is made
 refine G7 (fun k=>match k with|2=>[31]|3=>[32]|5=>[34]|6=>[35]|7=>[30,33,36]|9=>[8,37]|_=>[]) (IWeb H1 (wa [(2,[.sl true 0 [] none,.sl true 0 [] none,.sl true 0 [] none])]) C.length (.sl false 3 (C.map aa) none) (rowO (List.replicate C.length (Value.slice none 0 0)) 41)) (mj C.length (.sl false 3 (C.map aa) none) 0 0 false false) A0a A0a ⟨0,0,by rw[Nat.zero_testBit,Nat.zero_testBit],fun h=>by simp at h,fun h=>by simp at h,fun h=>by simp at h,A0j,by simp;rfl⟩ ?_ ?_
 . intro L k o H' val bx t ho hb hdd hcl hI hn hbase hno;have b4:t 4= .sl false 3 (C.map aa) none:=hbase 4 A0a;have hI0:=hI;obtain⟨g1,g2,hval,f1,f2,f3,hH',hbx⟩:=hI0;rcases k with _|_|_|_|_|_|_|_|_|_|k
   . cases ho;simp +decide (maxDischargeDepth:=200) only[go_sem,Nat.reduceBEq,b4];exact⟨val,fun _ _=>rfl,bx,hI.next A0c A0c A0c A0c A0c,by rw[hval];exact Le.refl _⟩
   . cases ho;simp +decide (maxDischargeDepth:=200) only[go_sem,Nat.reduceBEq,b4];exact⟨val,fun _ _=>rfl,bx,hI.next A0c A0c A0c A0c A0c,by rw[hval];exact Le.refl _⟩
   . cases ho;have h31:t 31= .sl false 3 (C.map aa) none:=(hn 31 A0c).trans A0p;simp +decide (maxDischargeDepth:=200) only[go_sem,Nat.reduceBEq,h31,eq];exact⟨val,fun _ _=>rfl,bx,hI.next A0c A0c A0c A0c A0c,by rw[hval];exact Le.refl _⟩
   . cases ho;have h32:t 32=aq (C.length:Int):=(hn 32 A0c).trans A0p;simp +decide (maxDischargeDepth:=200) only[go_sem,Nat.reduceBEq,h32,m49,l1,l2,l3,tl,YP];intro g hg;obtain⟨val',r1,r2,r3⟩:=hI.row1 hg hb (cR (n:=7) hcl rfl A0a hb) (cR (n:=9) hcl rfl A0a hb);exact⟨val',r1,bx,r3,by unfold yD;simp only[r2];exact Le.refl _⟩
   . cases ho;simp +decide (maxDischargeDepth:=200) only[go_sem,Nat.reduceBEq,b4];exact⟨val,fun _ _=>rfl,bx,hI.next A0c A0c A0c A0c A0c,by rw[hval];exact Le.refl _⟩
   . cases ho;have h34:t 34= .sl false 3 (C.map aa) none:=(hn 34 A0c).trans A0p;simp +decide (maxDischargeDepth:=200) only[go_sem,Nat.reduceBEq,h34,eq];exact⟨val,fun _ _=>rfl,bx,hI.next A0c A0c A0c A0c A0c,by rw[hval];exact Le.refl _⟩
   . cases ho;have h35:t 35=aq (C.length:Int):=(hn 35 A0c).trans A0p;simp +decide (maxDischargeDepth:=200) only[go_sem,Nat.reduceBEq,h35,m49,l1,l2,l3,tl,YP];intro g hg;obtain⟨val',r1,r2,r3⟩:=hI.row2 hg hb (cR (n:=7) hcl rfl A0a hb) (cR (n:=9) hcl rfl A0a hb);exact⟨val',r1,bx,r3,by unfold yD;simp only[r2];exact Le.refl _⟩
   . cases ho;have h30:t 30= .sl false 3 (C.map aa) none:=(hn 30 A0c).trans A0p;have h33:t 33= .x (.slice (some ⟨g1,0,none⟩) C.length C.length):=(hn 33 A0c).trans A0p;have h36:t 36= .x (.slice (some ⟨g2,0,none⟩) C.length C.length):=(hn 36 A0c).trans A0p;simp +decide (maxDischargeDepth:=200) only[go_sem,Nat.reduceBEq,h30,h33,h36];refine⟨mj C.length (.sl false 3 (C.map aa) none) g1 g2 true (L.testBit 8),fun k hk=>?_,bx,⟨g1,g2,by rw[cD,av L (by decide :(7:Nat)≠8)],by rw[av L (by decide :(7:Nat)≠3)];exact f1,by rw[av L (by decide :(7:Nat)≠6)];exact f2,by rw[av L (by decide :(7:Nat)≠3),av L (by decide :(7:Nat)≠6)];exact f3,by rw[av L (by decide :(7:Nat)≠3),av L (by decide :(7:Nat)≠6)];exact hH',by rw[av L (by decide :(7:Nat)≠8),av L (by decide :(7:Nat)≠9)];exact hbx⟩,Le.refl _⟩;rw[hval];unfold mj;split<;>first|rfl|exact absurd rfl hk
   . cases ho
     have hnp:noPtrTo 8 t:=hno 8 A0l (by rw[hval,hb];intro k;unfold mj;split<;>first|(intro h;cases h)|(cases L.testBit 7<;>(intro h;cases h)))
     have h9:L.testBit 9=false:=cR (n:=9) hcl rfl A0a hb;rw[h9,hb] at hbx;simp only[Y2,YU] at hbx;simp +decide (maxDischargeDepth:=200) only[go_sem,Nat.reduceBEq,hnp,YX];refine⟨mj C.length (.sl false 3 (C.map aa) none) g1 g2 (L.testBit 7) true,fun k hk=>?_,upd bx 8 (some [.sl true 0 [] none,.sl true 0 [] none,.sl true 0 [] none]),⟨g1,g2,by rw[cD,av L (by decide :(8:Nat)≠7)],by rw[av L (by decide :(8:Nat)≠3)];exact f1,by rw[av L (by decide :(8:Nat)≠6)];exact f2,by rw[av L (by decide :(8:Nat)≠3),av L (by decide :(8:Nat)≠6)];exact f3,by rw[av L (by decide :(8:Nat)≠3),av L (by decide :(8:Nat)≠6)];exact hH',by rw[cD,av L (by decide :(8:Nat)≠9),h9,hbx];simp only[Y2,YU,YX];rfl⟩,Le.refl _⟩;rw[hval];unfold mj;split<;>first|rfl|exact absurd rfl hk
   . cases ho;have hb8:L.testBit 8=true:=hdd 8 A0D;have hb7:L.testBit 7=true:=hdd 7 (by simpa using(show(directV _).contains 7=true by kernel_rfl));have h8:t 8= .ptr 8 0:=(hn 8 A0c).trans (by rw[hval,hb8];rfl);have h37:t 37= .agg [.sl false 3 (C.map aa) none,.x (.slice (some ⟨g1,0,none⟩) C.length C.length),.x (.slice (some ⟨g2,0,none⟩) C.length C.length)]:=(hn 37 A0c).trans (by rw[hval,hb7];rfl);rw[hb,hb8] at hbx;simp only[Y2,YU,YX] at hbx;subst hbx;simp +decide (maxDischargeDepth:=200) only[go_sem,Nat.reduceBEq,h8,h37];exact⟨val,fun _=>rfl,_,⟨g1,g2,by rw[av L (by decide :(9:Nat)≠7),av L (by decide :(9:Nat)≠8)];exact hval,by rw[av L (by decide :(9:Nat)≠3)];exact f1,by rw[av L (by decide :(9:Nat)≠6)];exact f2,by rw[av L (by decide :(9:Nat)≠3),av L (by decide :(9:Nat)≠6)];exact f3,by rw[av L (by decide :(9:Nat)≠3),av L (by decide :(9:Nat)≠6)];exact hH',by rw[cD,YG rfl,fa]⟩,Le.refl _⟩
   . cases ho
 rintro H2 val bx ⟨gR,gS,rfl,f1,f2,f3,rfl,rfl⟩;have hgR:=f1 A0c;have hgS:=f2 A0c;have hne:=f3 A0c A0c;clear f1 f2 f3;simp only[show(2^10-1).testBit 6=true from by decide,show(2^10-1).testBit 3=true from by decide,show(2^10-1).testBit 9=true from by decide,YX];refine⟨[(2,.ptr 2 0),(3,.ip [.sl false 3 (C.map aa) none,.fm ks vs,.sl false 1 (R0.map rI) none,.sl false 1 (S0.map rI) none]),(4,.sl false 3 (C.map aa) none),(5,.mp 18 (ksI (plI 0 C)) (vsI (plI 0 C))),(8,.ptr 8 0)],[(2,[.sl true 0 [] none,.sl true 0 [] none,.sl true 0 [] none]),(8,[.sl false 3 (C.map aa) none,.x (.slice (some ⟨gR,0,none⟩) C.length C.length),.x (.slice (some ⟨gS,0,none⟩) C.length C.length)])],⟨kB A0a,kB A0a,kB A0a,kB A0a,G6 A0a,trivial⟩,⟨rfl,rfl,trivial⟩,?_⟩;have hnn:upd (upd H1 gR (some (rowO (List.replicate C.length (Value.slice none 0 0)) 41))) gS (some (rowO (List.replicate C.length (Value.slice none 0 0)) 41))=mer H1 (upd (upd (fun _=>none) gR (some (rowO (List.replicate C.length (Value.slice none 0 0)) 41))) gS (some (rowO (List.replicate C.length (Value.slice none 0 0)) 41))):=by rw[<-bZ hgS,<-bZ hgR,gI]
 simp +decide (maxDischargeDepth:=200) only[go_sem,Nat.reduceBEq,eq];refine bp (X:={q:Nat×(List Value×List Value)×(List (List Int)×List (List Int))×HH//q.1<=C.length∧WInv C.length R0 q.1 0 q.2.2.1.1 q.2.2.1.2∧WQ C.length gR gS q.2.1.1 q.2.1.2 q.2.2.1.1 q.2.2.1.2 q.2.2.2∧Dis H1 q.2.2.2}) (fun q=>[(2,.ptr 2 0),(3,.ip [.sl false 3 (C.map aa) none,.fm ks vs,.sl false 1 (R0.map rI) none,.sl false 1 (S0.map rI) none]),(4,.sl false 3 (C.map aa) none),(5,.mp 18 (ksI (plI 0 C)) (vsI (plI 0 C))),(8,.ptr 8 0),(38,.sl false 3 (C.map aa) none),(39,aq (C.length:Int)),(40,aq ((q.1.1:Nat):Int))]) (fun _=>[(2,[.sl true 0 [] none,.sl true 0 [] none,.sl true 0 [] none]),(8,[.sl false 3 (C.map aa) none,.x (.slice (some ⟨gR,0,none⟩) C.length C.length),.x (.slice (some ⟨gS,0,none⟩) C.length C.length)])]) (fun q H'=>H'=mer H1 q.1.2.2.2) (fun q=>C.length-q.1.1) ⟨(0,((List.replicate C.length (Value.slice none 0 0)),(List.replicate C.length (Value.slice none 0 0))),(List.replicate C.length [],List.replicate C.length []),upd (upd (fun _=>none) gR (some (rowO (List.replicate C.length (Value.slice none 0 0)) 41))) gS (some (rowO (List.replicate C.length (Value.slice none 0 0)) 41))),Zf _,WInv.zero _ _,WQ.zero hne,((Dis.empty H1).upd hgR).upd hgS⟩ A0d A0d hnn ?_;clear hnn;rintro⟨⟨i,⟨vR,vS⟩,⟨R,S⟩,Hn⟩,hi,hW,hQ,hd⟩ H2 rfl;simp only at hi hW hQ hd⊢;by_cases hil:i<C.length
 case neg=>
  obtain rfl:i=C.length:=A0b
  have d1:decide ((C.length:Int)<(C.length:Int))=false:=YA A0b;obtain⟨rfl,hok⟩:=hW.done hR hnd;simp +decide (maxDischargeDepth:=200) only[go_sem,Nat.reduceBEq,d1];refine kG (fun m w v h1 h2 h3=>?_) hd (hT S hok);cases h3 with
  | agg cs Cs hl h=>
    refine .agg cs _ hl (fun k v u hi hu=>?_);rcases k with _|_|_|k
    . cases hu;exact h 0 v _ hi rfl
    . cases hu;rw[Rd.x_iff.1 (h 1 v _ hi rfl)];exact gG hQ.r (fun j v e a b=>hQ.rowR a b) hQ.lvR hQ.lR h1 h2
    . cases hu;rw[Rd.x_iff.1 (h 2 v _ hi rfl)];exact gG hQ.s (fun j v e a b=>hQ.rowS a b) hQ.lvS hQ.lS h1 h2
    . cases hu
 have d1:decide ((i:Int)<(C.length:Int))=true:=Yz A0b;have d2:(0:Int)<=(i:Int):=A0b
 have d3:(i:Int)<(C.length:Int):=A0b
 have d4:=aD (i:=i) A0b;have q1:C[i]?=some C[i]:=io hil;generalize C[i]=c at q1;have hin:jW c C=true:=jo.2 (YB q1);have hpc:=qh (k:=0) hCn q1;obtain⟨rs,hrs⟩:∃rs,R0[i]?=some rs:=⟨_,io A0b ⟩;have hrz:rowZ R0 (i:Int)=rs:=by unfold rowZ;rw[tl,hrs];rfl
 have hrm:=YB hrs;obtain⟨hr8,hrr⟩:=hR0 rs hrm;have hrn:=hnd rs hrm;have e3c:=e3 c;unfold Lg at e3c;rw[YG hin,hpc,YC,tl,hrs,Z1] at e3c;obtain⟨cs,cc,cr⟩:=c;have q2:(C.map aa)[i]?=some (.agg [.x (.string cs),.x (.int .i64 cc),.x (.int .i64 cr)]):=by rw[Io,q1];rfl
 have hcx:aa (cs,cc,cr)= .agg [.x (.string cs),.x (.int .i64 cc),.x (.int .i64 cr)]:=rfl;rw[hcx] at e3c;simp +decide (maxDischargeDepth:=200) only[go_sem,Nat.reduceBEq,eq,tl,d1,d2,d3,d4,q2,e3c];refine bp (X:={q:Nat×(List Value×List Value)×(List (List Int)×List (List Int))×HH//q.1<=rs.length∧WInv C.length R0 i q.1 q.2.2.1.1 q.2.2.1.2∧WQ C.length gR gS q.2.1.1 q.2.1.2 q.2.2.1.1 q.2.2.1.2 q.2.2.2∧Dis H1 q.2.2.2}) (fun q=>[(2,.ptr 2 0),(3,.ip [.sl false 3 (C.map aa) none,.fm ks vs,.sl false 1 (R0.map rI) none,.sl false 1 (S0.map rI) none]),(4,.sl false 3 (C.map aa) none),(5,.mp 18 (ksI (plI 0 C)) (vsI (plI 0 C))),(8,.ptr 8 0),(9,aq (i:Int)),(38,.sl false 3 (C.map aa) none),(39,aq (C.length:Int)),(40,aq (i:Int)),(47,.sl false 3 ((rs.map (ji C)).map aa) none),(48,aq (rs.length:Int)),(49,aq ((q.1.1:Nat):Int))]) (fun _=>[(2,[.sl true 0 [] none,.sl true 0 [] none,.sl true 0 [] none]),(8,[.sl false 3 (C.map aa) none,.x (.slice (some ⟨gR,0,none⟩) C.length C.length),.x (.slice (some ⟨gS,0,none⟩) C.length C.length)])]) (fun q H'=>H'=mer H1 q.1.2.2.2) (fun q=>rs.length-q.1.1) ⟨(0,(vR,vS),(R,S),Hn),Zf _,hW,hQ,hd⟩ A0d A0d rfl ?_;clear hW hQ hd e3c hpc;rintro⟨⟨k,⟨vR,vS⟩,⟨R,S⟩,Hn⟩,hk,hW,hQ,hd⟩ H2 rfl;simp only at hk hW hQ hd⊢;by_cases hkl:k<rs.length
 case neg=>
  obtain rfl:k=rs.length:=A0b
  have e1:decide ((rs.length:Int)<(rs.length:Int))=false:=YA A0b;simp +decide (maxDischargeDepth:=200) only[go_sem,Nat.reduceBEq,eq,e1,d4];refine⟨⟨(i+1,(vR,vS),(R,S),Hn),hil,WInv.next (by rw[hrz];exact hW),hQ,hd⟩,⟨?_,?_,rfl⟩,by simp only;omega⟩
  . simp +decide (maxDischargeDepth:=200) only[go_sem,Nat.reduceBEq]
  . simp +decide (maxDischargeDepth:=200) only[go_sem,Nat.reduceBEq]
 have e1:decide ((k:Int)<(rs.length:Int))=true:=Yz A0b;have e2:(0:Int)<=(k:Int):=A0b
 have e3':(k:Int)<(rs.length:Int):=A0b
 have e4:=aD (i:=k) A0b;have p1:rs[k]?=some rs[k]:=io hkl;have pm:rs[k]∈rs:=Y5 hkl;generalize rs[k]=p at p1 pm;obtain⟨p0,pl⟩:=hrr p pm;obtain⟨y,hy⟩:∃y,C[p.toNat]?=some y:=⟨_,io pl⟩;have hyp:=qh (k:=0) hCn hy;rw[YC,ZI p0] at hyp;have lk:=AQ (c:=y) (m:= .mp 18 (ksI (plI 0 C)) (vsI (plI 0 C))) (L:=plI 0 C) rfl (y7 hCn 0);rw[hyp] at lk;have hat:ji C p=y:=by unfold ji;rw[hy];rfl
 obtain⟨ys,yc,yr⟩:=y;have p2:((rs.map (ji C)).map aa)[k]?=some (.agg [.x (.string ys),.x (.int .i64 yc),.x (.int .i64 yr)]):=by rw[Io,Io,p1,Zk,hat];rfl
 have hyx:aa (ys,yc,yr)= .agg [.x (.string ys),.x (.int .i64 yc),.x (.int .i64 yr)]:=rfl;rw[hyx] at lk;obtain⟨v1,hv1⟩:∃v,vR[i]?=some v:=⟨_,io (by rw[hQ.lvR];exact hil)⟩;have hRi:=hW.r i hil;rw[YL A0b,YG rfl,hrz] at hRi;have hr1:=hQ.rowR hv1 hRi;have hr1m:=hr1.j.mer hd;have h0R:=lx hd hQ.r;have f1:blkOf v1≠some gR:=fun e=>hQ.rows.out i v1 gR (by rw[hQ.inR hil];exact hv1) e A0j
 have p5:(vR.map V.x)[i]?=some (.x v1):=by rw[Io,hv1];rfl
 have y0:(0:Int)<=(i:Int):=A0b
 have y1:(i:Int)<(C.length:Int):=A0b
 have y2:i+1<=vR.length:=by rw[hQ.lvR];omega
 have y3:(i:Int).toNat=i:=tl i;simp +decide (maxDischargeDepth:=200) only[go_sem,Nat.reduceBEq,eq,tl,e1,e2,e3',e4,p2,lk];refine jg (fun k=>match k with|1=>[56]|4=>[59]|6=>[60,61]|7=>[62]|9=>[64]|10=>[63,65]|11=>[57,58]|12=>[67,66]|_=>[]) (IAdd (mer H1 Hn) 56 1 gR C.length (i:Int) p vR v1 (rs.take k)) (f7 56 1 gR C.length (i:Int) p v1 v1) A0a A0a ⟨v1,rfl,fun _=>rfl,fun h=>by simp at h⟩ ?_ ?_
 . intro L k o H' val st ho hb hdd hcl hI hn hbase hbb;have b8:st.t 8= .ptr 8 0:=hbase 8 A0a;have b9:st.t 9=aq (i:Int):=hbase 9 A0a;have b13:st.t 13=aq p:=hbase 13 A0a;have x8:st.b 8=some [.sl false 3 (C.map aa) none,.x (.slice (some ⟨gR,0,none⟩) C.length C.length),.x (.slice (some ⟨gS,0,none⟩) C.length C.length)]:=by rw[hbb];rfl
   have hI0:=hI;obtain⟨v',hval,hI1,hI2⟩:=hI0;clear hbase hbb;rcases k with _|_|_|_|_|_|_|_|_|_|_|_|_|k
   . cases ho;simp +decide (maxDischargeDepth:=200) only[go_sem,Nat.reduceBEq,b8,b9,b13,x8];exact⟨val,fun _ _=>rfl,hI.next A0c A0c,by rw[hval];exact Le.refl _⟩
   . cases ho;have h56:st.t 56= .ptr 8 1:=(hn 56 A0c).trans A0p;simp +decide (maxDischargeDepth:=200) only[go_sem,Nat.reduceBEq,h56,b8,b9,b13,x8];exact⟨val,fun _ _=>rfl,hI.next A0c A0c,by rw[hval];exact Le.refl _⟩
   . cases ho;simp +decide (maxDischargeDepth:=200) only[go_sem,Nat.reduceBEq,b8,b9,b13,x8];exact⟨val,fun _ _=>rfl,hI.next A0c A0c,by rw[hval];exact Le.refl _⟩
   . cases ho;simp +decide (maxDischargeDepth:=200) only[go_sem,Nat.reduceBEq,b8,b9,b13,x8];exact⟨val,fun _ _=>rfl,hI.next A0c A0c,by rw[hval];exact Le.refl _⟩
   . cases ho;have h59:st.t 59= .ptr 8 1:=(hn 59 A0c).trans A0p;simp +decide (maxDischargeDepth:=200) only[go_sem,Nat.reduceBEq,h59,b8,b9,b13,x8];exact⟨val,fun _ _=>rfl,hI.next A0c A0c,by rw[hval];exact Le.refl _⟩
   . cases ho;simp +decide (maxDischargeDepth:=200) only[go_sem,Nat.reduceBEq,b8,b9,b13,x8];exact⟨val,fun _ _=>rfl,hI.next A0c A0c,by rw[hval];exact Le.refl _⟩
   . cases ho;have h60:st.t 60= .x (.slice (some ⟨gR,0,none⟩) C.length C.length):=(hn 60 A0c).trans A0p;have h61:st.t 61=aq (i:Int):=(hn 61 A0c).trans A0p;simp +decide (maxDischargeDepth:=200) only[go_sem,Nat.reduceBEq,h60,h61,b8,b9,b13,x8,z49,y0,y1,y3,YC,YP,tl];exact⟨val,fun _ _=>rfl,hI.next A0c A0c,by rw[hval];exact Le.refl _⟩
   . cases ho;have h62:st.t 62= .x (.pointer (some ⟨gR,i,none⟩)):=(hn 62 A0c).trans A0p;have c2:=hI.cell h0R f1 (cR (n:=12) hcl rfl A0a hb);simp +decide (maxDischargeDepth:=200) only[go_sem,Nat.reduceBEq,h62,b8,b9,b13,x8,c2,p5,YC];exact⟨val,fun _ _=>rfl,hI.next A0c A0c,by rw[hval];exact Le.refl _⟩
   . cases ho;simp +decide (maxDischargeDepth:=200) only[go_sem,Nat.reduceBEq,b8,b9,b13,x8];exact⟨val,fun _ _=>rfl,hI.next A0c A0c,by rw[hval];exact Le.refl _⟩
   . cases ho;have h64:st.t 64=aq p:=(hn 64 A0c).trans A0p;simp +decide (maxDischargeDepth:=200) only[go_sem,Nat.reduceBEq,h64,b8,b9,b13,x8];exact⟨val,fun _ _=>rfl,hI.next A0c A0c,by rw[hval];exact Le.refl _⟩
   . cases ho;have h63:st.t 63= .x v1:=(hn 63 A0c).trans A0p;have h65:st.t 65= .sl false 1 [aq p] none:=(hn 65 A0c).trans A0p;obtain rfl:=hI1 hb;simp +decide (maxDischargeDepth:=200) only[go_sem,Nat.reduceBEq,h63,h65,ha];refine⟨(rs.take k),hr1m,A0A,fun v'' g ob hb' hg hr'=>?_⟩;obtain⟨r1,r2⟩:=hI.app (cR (n:=12) hcl rfl A0a hb) hb' hg hr' hval;exact⟨_,r1,r2,by rw[de];exact Le.refl _⟩
   . cases ho;have h57:st.t 57= .x (.slice (some ⟨gR,0,none⟩) C.length C.length):=(hn 57 A0c).trans A0p;have h58:st.t 58=aq (i:Int):=(hn 58 A0c).trans A0p;simp +decide (maxDischargeDepth:=200) only[go_sem,Nat.reduceBEq,h57,h58,b8,b9,b13,x8,z49,y0,y1,y3,YC,YP,tl];exact⟨val,fun _ _=>rfl,hI.next A0c A0c,by rw[hval];exact Le.refl _⟩
   . cases ho;have h67:st.t 67= .x (.pointer (some ⟨gR,i,none⟩)):=(hn 67 A0c).trans A0p;have h66:st.t 66= .x v':=(hn 66 A0c).trans A0p;have h10:L.testBit 10=true:=hdd 10 A04;have c2:=hI.cell h0R f1 hb;obtain⟨g,ob,hb',hg,hr',rfl⟩:=hI2 h10;have x1:=kD hr'.one;have hsp:eR vR i [v']=vR.set i v':=cE _ _ _ A0b;simp +decide (maxDischargeDepth:=200) only[go_sem,Nat.reduceBEq,h67,h66,c2,x1,hsp,y2];exact⟨_,fun _=>rfl,by rw[YL A09];exact hI.put h10 hb' hg hr' hval,Le.refl _⟩
   . cases ho
 . rintro H' val ⟨v',rfl,_,hI⟩;obtain⟨g,ob,hb',hg,hr',rfl⟩:=hI A0c;rw[YG A0c];refine⟨[(2,.ptr 2 0),(3,.ip [.sl false 3 (C.map aa) none,.fm ks vs,.sl false 1 (R0.map rI) none,.sl false 1 (S0.map rI) none]),(4,.sl false 3 (C.map aa) none),(5,.mp 18 (ksI (plI 0 C)) (vsI (plI 0 C))),(8,.ptr 8 0),(9,aq (i:Int)),(13,aq p),(38,.sl false 3 (C.map aa) none),(39,aq (C.length:Int)),(40,aq (i:Int)),(47,.sl false 3 ((rs.map (ji C)).map aa) none),(48,aq (rs.length:Int)),(49,aq (k:Int))],[(2,[.sl true 0 [] none,.sl true 0 [] none,.sl true 0 [] none]),(8,[.sl false 3 (C.map aa) none,.x (.slice (some ⟨gR,0,none⟩) C.length C.length),.x (.slice (some ⟨gS,0,none⟩) C.length C.length)])],⟨ar A0a,ar A0a,ar A0a,ar A0a,ar A0a,ar A0a,ar A0a,ar A0a,ar A0a,ar A0a,ar A0a,ar A0a,ar A0a,trivial⟩,⟨rfl,rfl,trivial⟩,?_⟩;have hgH:H1 g=none:=by
    rcases hg with h|h
    . exact hd g (hr1.blk h)
    . exact(gH h).1
   have hgn:blkOf v1=some g∨Hn g=none:=hg.imp id fun h=>(gH h).2
   rw[bZ hgH] at hr';rw[bZ hgH,bZ hgR,y3];have hr2:RowI (upd Hn g (some ob)) v' (rs.take k++[p]):=(hr'.of_mer (fun y hy=>by rw[hb'] at hy;cases hy;exact hgH)).i A0j;have hQ2:=hQ.setR hv1 hb' hgn hr2;have hd2:=(hd.upd (o:=some ob) hgH).upd (o:=some (rowO (vR.set i v') 41)) hgR;generalize upd (upd Hn g (some ob)) gR (some (rowO (vR.set i v') 41))=Hn2 at hQ2 hd2⊢;clear hr' hr2 hb' hg hgn hQ hd hr1 hr1m h0R f1 p5;obtain⟨s,hs,hs2,hs3⟩:=hW.s p.toNat pl;have hsl:s.length<=C.length:=cO (hs2.imp fun {a b} h=>by omega) (fun z hz=>by
    obtain⟨j,rfl,⟨h,_⟩|⟨rfl,_⟩⟩:=(hs3 z).1 hz
    . exact⟨aar j,by rw[tl];omega⟩
    . exact⟨aar j,by rw[tl];exact hil⟩)
   obtain⟨v2,hv2⟩:∃v,vS[p.toNat]?=some v:=⟨_,io (by rw[hQ2.lvS];exact pl)⟩;have hr2s:=hQ2.rowS hv2 hs;have hr2m:=hr2s.j.mer hd2;have h0S:=lx hd2 hQ2.s;have f2:blkOf v2≠some gS:=fun e=>hQ2.rows.out (C.length+p.toNat) v2 gS (by rw[hQ2.inS];exact hv2) e A0j
   have p6:(vS.map V.x)[p.toNat]?=some (.x v2):=by rw[Io,hv2];rfl
   have py1:p<(C.length:Int):=A0b
   have py2:p.toNat+1<=vS.length:=by rw[hQ2.lvS];omega
   simp +decide (maxDischargeDepth:=200) only[go_sem,Nat.reduceBEq];refine jg (fun k=>match k with|1=>[68]|4=>[71]|6=>[72,73]|7=>[74]|9=>[76]|10=>[75,77]|11=>[69,70]|12=>[79,78]|_=>[]) (IAdd (mer H1 Hn2) 68 2 gS C.length p (i:Int) vS v2 s) (f7 68 2 gS C.length p (i:Int) v2 v2) A0a A0a ⟨v2,rfl,fun _=>rfl,fun h=>by simp at h⟩ ?_ ?_
   . intro L k o H' val st ho hb hdd hcl hI hn hbase hbb;have b8:st.t 8= .ptr 8 0:=hbase 8 A0a;have b9:st.t 13=aq p:=hbase 13 A0a;have b13:st.t 9=aq (i:Int):=hbase 9 A0a;have x8:st.b 8=some [.sl false 3 (C.map aa) none,.x (.slice (some ⟨gR,0,none⟩) C.length C.length),.x (.slice (some ⟨gS,0,none⟩) C.length C.length)]:=by rw[hbb];rfl
     have hI0:=hI;obtain⟨v',hval,hI1,hI2⟩:=hI0;clear hbase hbb;rcases k with _|_|_|_|_|_|_|_|_|_|_|_|_|k
     . cases ho;simp +decide (maxDischargeDepth:=200) only[go_sem,Nat.reduceBEq,b8,b9,b13,x8];exact⟨val,fun _ _=>rfl,hI.next A0c A0c,by rw[hval];exact Le.refl _⟩
     . cases ho;have h68:st.t 68= .ptr 8 2:=(hn 68 A0c).trans A0p;simp +decide (maxDischargeDepth:=200) only[go_sem,Nat.reduceBEq,h68,b8,b9,b13,x8];exact⟨val,fun _ _=>rfl,hI.next A0c A0c,by rw[hval];exact Le.refl _⟩
     . cases ho;simp +decide (maxDischargeDepth:=200) only[go_sem,Nat.reduceBEq,b8,b9,b13,x8];exact⟨val,fun _ _=>rfl,hI.next A0c A0c,by rw[hval];exact Le.refl _⟩
     . cases ho;simp +decide (maxDischargeDepth:=200) only[go_sem,Nat.reduceBEq,b8,b9,b13,x8];exact⟨val,fun _ _=>rfl,hI.next A0c A0c,by rw[hval];exact Le.refl _⟩
     . cases ho;have h71:st.t 71= .ptr 8 2:=(hn 71 A0c).trans A0p;simp +decide (maxDischargeDepth:=200) only[go_sem,Nat.reduceBEq,h71,b8,b9,b13,x8];exact⟨val,fun _ _=>rfl,hI.next A0c A0c,by rw[hval];exact Le.refl _⟩
     . cases ho;simp +decide (maxDischargeDepth:=200) only[go_sem,Nat.reduceBEq,b8,b9,b13,x8];exact⟨val,fun _ _=>rfl,hI.next A0c A0c,by rw[hval];exact Le.refl _⟩
     . cases ho;have h72:st.t 72= .x (.slice (some ⟨gS,0,none⟩) C.length C.length):=(hn 72 A0c).trans A0p;have h73:st.t 73=aq p:=(hn 73 A0c).trans A0p;simp +decide (maxDischargeDepth:=200) only[go_sem,Nat.reduceBEq,h72,h73,b8,b9,b13,x8,z49,p0,py1,YC,YP,tl];exact⟨val,fun _ _=>rfl,hI.next A0c A0c,by rw[hval];exact Le.refl _⟩
     . cases ho;have h74:st.t 74= .x (.pointer (some ⟨gS,p.toNat,none⟩)):=(hn 74 A0c).trans A0p;have c2:=hI.cell h0S f2 (cR (n:=12) hcl rfl A0a hb);simp +decide (maxDischargeDepth:=200) only[go_sem,Nat.reduceBEq,h74,b8,b9,b13,x8,c2,p6,YC];exact⟨val,fun _ _=>rfl,hI.next A0c A0c,by rw[hval];exact Le.refl _⟩
     . cases ho;simp +decide (maxDischargeDepth:=200) only[go_sem,Nat.reduceBEq,b8,b9,b13,x8];exact⟨val,fun _ _=>rfl,hI.next A0c A0c,by rw[hval];exact Le.refl _⟩
     . cases ho;have h76:st.t 76=aq (i:Int):=(hn 76 A0c).trans A0p;simp +decide (maxDischargeDepth:=200) only[go_sem,Nat.reduceBEq,h76,b8,b9,b13,x8];exact⟨val,fun _ _=>rfl,hI.next A0c A0c,by rw[hval];exact Le.refl _⟩
     . cases ho;have h75:st.t 75= .x v2:=(hn 75 A0c).trans A0p;have h77:st.t 77= .sl false 1 [aq (i:Int)] none:=(hn 77 A0c).trans A0p;obtain rfl:=hI1 hb;simp +decide (maxDischargeDepth:=200) only[go_sem,Nat.reduceBEq,h75,h77,ha];refine⟨s,hr2m,A0b,fun v'' g ob hb' hg hr'=>?_⟩;obtain⟨r1,r2⟩:=hI.app (cR (n:=12) hcl rfl A0a hb) hb' hg hr' hval;exact⟨_,r1,r2,by rw[de];exact Le.refl _⟩
     . cases ho;have h69:st.t 69= .x (.slice (some ⟨gS,0,none⟩) C.length C.length):=(hn 69 A0c).trans A0p;have h70:st.t 70=aq p:=(hn 70 A0c).trans A0p;simp +decide (maxDischargeDepth:=200) only[go_sem,Nat.reduceBEq,h69,h70,b8,b9,b13,x8,z49,p0,py1,YC,YP,tl];exact⟨val,fun _ _=>rfl,hI.next A0c A0c,by rw[hval];exact Le.refl _⟩
     . cases ho;have h79:st.t 79= .x (.pointer (some ⟨gS,p.toNat,none⟩)):=(hn 79 A0c).trans A0p;have h78:st.t 78= .x v':=(hn 78 A0c).trans A0p;have h10:L.testBit 10=true:=hdd 10 A04;have c2:=hI.cell h0S f2 hb;obtain⟨g,ob,hb',hg,hr',rfl⟩:=hI2 h10;have x1:=kD hr'.one;have hsp:eR vS p.toNat [v']=vS.set p.toNat v':=cE _ _ _ A0b;simp +decide (maxDischargeDepth:=200) only[go_sem,Nat.reduceBEq,h79,h78,c2,x1,hsp,py2];exact⟨_,fun _=>rfl,by rw[YL A09];exact hI.put h10 hb' hg hr' hval,Le.refl _⟩
     . cases ho
   . rintro H' val ⟨v'',rfl,_,hI⟩;obtain⟨g2,ob2,hb2,hg2,hr3,rfl⟩:=hI A0c;rw[YG A0c];refine⟨[(2,.ptr 2 0),(3,.ip [.sl false 3 (C.map aa) none,.fm ks vs,.sl false 1 (R0.map rI) none,.sl false 1 (S0.map rI) none]),(4,.sl false 3 (C.map aa) none),(5,.mp 18 (ksI (plI 0 C)) (vsI (plI 0 C))),(8,.ptr 8 0),(9,aq (i:Int)),(38,.sl false 3 (C.map aa) none),(39,aq (C.length:Int)),(40,aq (i:Int)),(47,.sl false 3 ((rs.map (ji C)).map aa) none),(48,aq (rs.length:Int)),(49,aq (k:Int))],[(2,[.sl true 0 [] none,.sl true 0 [] none,.sl true 0 [] none]),(8,[.sl false 3 (C.map aa) none,.x (.slice (some ⟨gR,0,none⟩) C.length C.length),.x (.slice (some ⟨gS,0,none⟩) C.length C.length)])],⟨ar A0a,ar A0a,ar A0a,ar A0a,ar A0a,ar A0a,ar A0a,ar A0a,ar A0a,ar A0a,ar A0a,ar A0a,trivial⟩,⟨rfl,rfl,trivial⟩,?_⟩;have hgH:H1 g2=none:=by
      rcases hg2 with h|h
      . exact hd2 g2 (hr2s.blk h)
      . exact(gH h).1
     have hgn:blkOf v2=some g2∨Hn2 g2=none:=hg2.imp id fun h=>(gH h).2
     rw[bZ hgH] at hr3;rw[bZ hgH,bZ hgS];have hr4:RowI (upd Hn2 g2 (some ob2)) v'' (s++[(i:Int)]):=(hr3.of_mer (fun y hy=>by rw[hb2] at hy;cases hy;exact hgH)).i A0j;have hQ3:=hQ2.setS hv2 hb2 hgn hr4;have hd3:=(hd2.upd (o:=some ob2) hgH).upd (o:=some (rowO (vS.set p.toNat v'') 41)) hgS;simp +decide (maxDischargeDepth:=200) only[go_sem,Nat.reduceBEq,e4];refine⟨⟨(k+1,(vR.set i v',vS.set p.toNat v''),(R.set i (rs.take k++[p]),S.set p.toNat (s++[(i:Int)])),_),hkl,?_,hQ3,hd3⟩,⟨?_,?_,rfl⟩,by simp only;omega⟩
     . have:=hW.step hil (p:=p) (k:=k) (by rw[hrz];exact p1) p0 (by rw[hrz];exact hrn) hs;rw[hrz] at this;exact this
     . simp +decide (maxDischargeDepth:=200) only[go_sem,Nat.reduceBEq]
     . simp +decide (maxDischargeDepth:=200) only[go_sem,Nat.reduceBEq]
end Go.Proofs.YtmfojhkjbkombaaGreat

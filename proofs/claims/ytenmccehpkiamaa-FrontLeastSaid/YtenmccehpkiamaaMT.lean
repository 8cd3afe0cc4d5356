/- Formulas as plain data: what a node is, how deep, how many, which two are one. Nothing of the program. -/
import Derived.Test.YtenmccehpkiamaaMPO
import Derived.Test.YtenmccehpkiamaaMAd
namespace Go.Proofs.Ytenmccehpkiamaa
set_option linter.unusedSimpArgs false
open Go Go.RowKit
structure Hd where
 k:Int
 op:ByteArray
 nm:ByteArray
 vk:Int
 vn:Int
 vs:ByteArray
 cs:ByteArray
 cc:Int
 cr:Int
 ts:ByteArray
 tc:Int
 tr:Int
inductive Nd where
 |leaf (h:Hd)
 |mk (h:Hd) (l:List Nd)
namespace Nd
def hd:Nd->Hd
 | .leaf h=>h
 | .mk h _=>h
def ks:Nd->List Nd
 | .leaf _=>[]
 | .mk _ l=>l
end Nd
def rk (h:Hd) (K:V):List V:=[.x (.int .i64 h.k),.x (.string h.op),.x (.string h.nm),.x (.int .i64 h.vk),.x (.int .i64 h.vn),.x (.string h.vs),.x (.string h.cs),.x (.int .i64 h.cc),.x (.int .i64 h.cr),.x (.string h.ts),.x (.int .i64 h.tc),.x (.int .i64 h.tr),K]
mutual
def bw:Nd->V
 | .leaf h=> .agg (rk h (.sl true 0 [] none))
 | .mk h l=> .agg (rk h (.sl false 13 (mN l) none))
def mN:List Nd->List V
 |[]=>[]
 |n::l=>bw n::mN l
end
theorem kb:∀l,mN l=l.map bw
 |[]=>rfl
 |n::l=>by rw[mN,M5,kb l]
def yC:Nd->V
 | .leaf _=> .sl true 0 [] none
 | .mk _ l=> .sl false 13 (l.map bw) none
theorem bf (n:Nd):bw n= .agg (rk n.hd (yC n)):=by
 cases n with
 |leaf h=>rw[bw];rfl
 |mk h l=>rw[bw,kb];rfl
theorem lO (n:Nd):(bw n).cells.length=13:=by rw[bf];rfl
theorem rl (n:Nd):(bw n).cells.take 13=(bw n).cells:=by rw[<-lO n,MR]
theorem u6 (n:Nd):V.agg (bw n).cells=bw n:=by rw[bf];rfl
theorem u7 (n:Nd):(bw n).cells.all V.cell=true:=by rw[bf];cases n<;>rfl
theorem rm (n:Nd):(bw n).cells.drop 12=[yC n]:=by rw[bf];rfl
theorem yD (n:Nd):(bw n).cells[12]?=some (yC n):=by rw[bf];rfl
theorem yE (n:Nd):(bw n).dat=true:=by rw[bf];rfl
theorem u9 (n:Nd):(bw n).bare=bw n:=by rw[bf];exact fi _
theorem BW (n:Nd):(bw n).notPtr=true:=by rw[bf];rfl
theorem va (op:Op) (n:Nd):bY op (bw n)=bw n:=by rw[bf];exact ll _ _
mutual
def cnt:Nd->Nat
 | .leaf _=>1
 | .mk _ l=>1+cntL l
def cntL:List Nd->Nat
 |[]=>0
 |n::l=>cnt n+cntL l
end
theorem Ed (n:Nd):cnt n=1+cntL n.ks:=by cases n<;>simp[cnt,cntL,Nd.ks]
theorem bQ {α:Type} {l:List α} {i:Nat} {x:α} (h:l[i]?=some x):l.take (i+1)=l.take i++[x]:=by rw[List.take_add_one,h];rfl
theorem vb (b:Nat->Option (List V)) (n:Nd):dU b (bw n)=bw n:=by rw[bf];exact ou b _
theorem oF (n:Nd) (l:List V):a6 (bw n::l)=a6 l:=by rw[bf];rfl
theorem oG (n:Nd) (l:List V):aT (bw n::l)=aT l:=by rw[bf];rfl
theorem vc (n:Nd):(bw n).datP=true:=by rw[bf];rfl
theorem rn (k:Nat) (n:Nd):g3 k (bw n)=bw n:=by rw[bf];rfl
theorem vd (E:Env) (st:St) (d:Nat) (n:Nd):ge E st (some d) (bw n)=st.put (some d) (bw n):=by rw[bf];exact ov st E d _
theorem mO (k:Nat) (n:Nd) (us:List V):cv k (bw n::us)=cv (k+1) us:=gB (by rw[bf];rfl)
theorem oH (k:Nat) (n:Nd) (us:List V) (b:Nat->Option (List V)):cS k (bw n::us) b=cS (k+1) us b:=dQ (by rw[bf];rfl)
theorem oI (k:Nat) (n:Nd) (us:List V) (t:Nat->V):cT k (bw n::us) t=cT (k+1) us t:=dP (by rw[bf];rfl)
theorem ro (n:Nd) (l:List V):cb (bw n::l)=cb l:=by rw[bf];rfl
attribute [go_sem] oI ro oH mO vb oF oG vc rn vd
attribute [go_sem] lO rl u6 u7 rm yD yE u9 BW va
end Go.Proofs.Ytenmccehpkiamaa

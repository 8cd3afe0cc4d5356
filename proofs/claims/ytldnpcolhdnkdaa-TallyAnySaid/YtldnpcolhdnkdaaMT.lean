/- Formulas as plain data: what a node is, how deep, how many, which two are one. Nothing of the program. -/
import Derived.Test.YtldnpcolhdnkdaaMPO
import Derived.Test.YtldnpcolhdnkdaaMAd
namespace Go.Proofs.Ytldnpcolhdnkdaa
set_option linter.unusedSimpArgs false
open Go Go.RowKit
structure Hd where
 k:Int
 op:ByteArray
 nm:ByteArray
 vk:Int
 vn:Int
 vs:ByteArray
 cs:ByteArray
 cc:Int
 cr:Int
 ts:ByteArray
 tc:Int
 tr:Int
inductive Nd where
 |leaf (h:Hd)
 |mk (h:Hd) (l:List Nd)
namespace Nd
def hd:Nd->Hd
 | .leaf h=>h
 | .mk h _=>h
def ks:Nd->List Nd
 | .leaf _=>[]
 | .mk _ l=>l
end Nd
def tW (h:Hd) (K:V):List V:=[.x (.int .i64 h.k),.x (.string h.op),.x (.string h.nm),.x (.int .i64 h.vk),.x (.int .i64 h.vn),.x (.string h.vs),.x (.string h.cs),.x (.int .i64 h.cc),.x (.int .i64 h.cr),.x (.string h.ts),.x (.int .i64 h.tc),.x (.int .i64 h.tr),K]
mutual
def bO:Nd->V
 | .leaf h=> .agg (tW h (.sl true 0 [] none))
 | .mk h l=> .agg (tW h (.sl false 13 (oV l) none))
def oV:List Nd->List V
 |[]=>[]
 |n::l=>bO n::oV l
end
theorem lV:∀l,oV l=l.map bO
 |[]=>rfl
 |n::l=>by rw[oV,QU,lV l]
def Bp:Nd->V
 | .leaf _=> .sl true 0 [] none
 | .mk _ l=> .sl false 13 (l.map bO) none
theorem bp (n:Nd):bO n= .agg (tW n.hd (Bp n)):=by
 cases n with
 |leaf h=>rw[bO];rfl
 |mk h l=>rw[bO,lV];rfl
theorem nO (n:Nd):(bO n).cells.length=13:=by rw[bp];rfl
theorem tX (n:Nd):(bO n).cells.take 13=(bO n).cells:=by rw[<-nO n,QL]
theorem xY (n:Nd):V.agg (bO n).cells=bO n:=by rw[bp];rfl
theorem xZ (n:Nd):(bO n).cells.all V.cell=true:=by rw[bp];cases n<;>rfl
theorem tY (n:Nd):(bO n).cells.drop 12=[Bp n]:=by rw[bp];rfl
theorem Bq (n:Nd):(bO n).cells[12]?=some (Bp n):=by rw[bp];rfl
theorem Br (n:Nd):(bO n).dat=true:=by rw[bp];rfl
theorem x5 (n:Nd):(bO n).bare=bO n:=by rw[bp];exact gj _
theorem E7 (n:Nd):(bO n).notPtr=true:=by rw[bp];rfl
theorem x6 (op:Op) (n:Nd):cK op (bO n)=bO n:=by rw[bp];exact nq _ _
mutual
def cnt:Nd->Nat
 | .leaf _=>1
 | .mk _ l=>1+cntL l
def cntL:List Nd->Nat
 |[]=>0
 |n::l=>cnt n+cntL l
end
theorem HK (n:Nd):cnt n=1+cntL n.ks:=by cases n<;>simp[cnt,cntL,Nd.ks]
theorem br {α:Type} {l:List α} {i:Nat} {x:α} (h:l[i]?=some x):l.take (i+1)=l.take i++[x]:=by rw[List.take_add_one,h];rfl
theorem x7 (b:Nat->Option (List V)) (n:Nd):eM b (bO n)=bO n:=by rw[bp];exact qB b _
theorem qM (n:Nd) (l:List V):a8 (bO n::l)=a8 l:=by rw[bp];rfl
theorem qN (n:Nd) (l:List V):aY (bO n::l)=aY l:=by rw[bp];rfl
theorem x8 (n:Nd):(bO n).datP=true:=by rw[bp];rfl
theorem tZ (k:Nat) (n:Nd):jj k (bO n)=bO n:=by rw[bp];rfl
theorem x9 (E:Env) (st:St) (d:Nat) (n:Nd):ig E st (some d) (bO n)=st.put (some d) (bO n):=by rw[bp];exact qC st E d _
theorem oW (k:Nat) (n:Nd) (us:List V):cS k (bO n::us)=cS (k+1) us:=iI (by rw[bp];rfl)
theorem qO (k:Nat) (n:Nd) (us:List V) (b:Nat->Option (List V)):dw k (bO n::us) b=dw (k+1) us b:=eJ (by rw[bp];rfl)
theorem qP (k:Nat) (n:Nd) (us:List V) (t:Nat->V):dx k (bO n::us) t=dx (k+1) us t:=eI (by rw[bp];rfl)
theorem t6 (n:Nd) (l:List V):cN (bO n::l)=cN l:=by rw[bp];rfl
attribute [go_sem] qP t6 qO oW x7 qM qN x8 tZ x9
attribute [go_sem] nO tX xY xZ tY Bq Br x5 E7 x6
end Go.Proofs.Ytldnpcolhdnkdaa

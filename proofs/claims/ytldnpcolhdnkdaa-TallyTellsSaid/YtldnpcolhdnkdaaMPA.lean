/- Plain data that lies in memory: what a value means, whatever addresses it has; kept while memory only grows. No program is named here. -/
import Derived.WalkKit
import Derived.WalkSmall
import Derived.MapKept
namespace Go.Proofs.Ytldnpcolhdnkdaa
set_option linter.unusedSimpArgs false
open Go Go.RowKit
set_option linter.defProp false
def eq:=@List.length_map
def io:=@Int.toNat_natCast
def iO:=@Nat.add_zero
def tl:=@Nat.le_trans
def Io:=@List.getElem?_eq_getElem
def PB:=@Nat.le_refl
def PC:=@decide_eq_false
def PD:=@decide_eq_true
def PE:=@List.getElem?_eq_some_iff
def PF:=@List.getElem?_map
def PG:=@Bool.and_eq_true
def PH:=@Nat.zero_le
def PJ:=@List.all_eq_true
def PK:=@Option.map_eq_some_iff
def PM:=@List.mem_of_getElem?
def PN:=@Array.getElem?_toList
def PO:=@if_pos
def PP:=@List.length_append
def PQ:=@List.mem_singleton
def PR:=@Array.length_toList
def PS:=@if_neg
def PT:=@List.getElem?_append_left
def PU:=@List.mem_append
def PV:=@Nat.le_zero
def PW:=@Array.getElem?_eq_getElem
def PY:=@List.mem_cons
def PZ:=@List.mem_cons_self
def P0:=@Array.getD_eq_getD_getElem?
def P3:=@Int.natCast_zero
def P4:=@List.mem_cons_of_mem
def P5:=@List.length_cons
def P6:=@List.getElem?_append_right
def P7:=@Bool.false_eq_true
def P8:=@List.length_take
def P9:=@List.getElem?_take
def Qa:=@decide_eq_true_eq
def Qb:=@List.take_of_length_le
def Qc:=@List.getElem?_eq_none
def Qd:=@Option.map_some
def Qe:=@Array.toList_inj
def Qf:=@Nat.lt_of_lt_of_le
def Qg:=@List.mem_range
def Qh:=@Classical.choose_spec
def Qi:=@List.mem_map
def Qj:=@List.map_append
def Qk:=@List.length_nil
def Ql:=@Nat.lt_or_ge
def Qm:=@List.getElem?_drop
def Qn:=@Nat.zero_add
def Qo:=@Nat.mul_le_mul_right
def Qp:=@List.mem_append_left
def Qq:=@List.flatMap_cons
def Qr:=@if_false
def Qs:=@Nat.add_mul
def Qt:=@if_true
def Qu:=@List.length_eq_zero_iff
def Qv:=@List.take_append_drop
def Qw:=@Nat.not_lt
def Qx:=@Bool.not_eq_true'
def Qy:=@List.take_append_of_le_length
def Qz:=@Array.getElem?_append_left
def QA:=@of_decide_eq_true
def QB:=@List.mem_filter
def QC:=@List.size_toArray
def QD:=@Nat.ne_of_lt
def QE:=@Option.some.inj
def QF:=@List.nodup_cons
def QG:=@Option.bind_eq_some_iff
def QH:=@Classical.byContradiction
def QI:=@List.ext_getElem?
def QJ:=@List.nodup_append
def QK:=@List.append_assoc
def QL:=@List.take_length
def QM:=@List.cons_append
def QN:=@List.cons.injEq
def QO:=@Bool.or_eq_true
def QP:=@congrFun
def QQ:=@Option.bind_some
def QR:=@Option.map_none
def QS:=@List.append_nil
def QT:=@Ne.symm
def QU:=@List.map_cons
def QV:=@Option.getD_some
def QW:=@Option.some.injEq
def QX:=@List.nil_append
def QY:=@Array.getElem?_modify
def QZ:=@List.getElem?_range
def Q0:=@Int.eq_ofNat_of_zero_le
def Q1:=@List.length_drop
def Q2:=@List.any_eq_true
def Q3:=@List.nodup_nil
def Q4:=@Nat.zero_mul
def Q5:=@List.mem_of_mem_take
def Q6:=@List.pairwise_cons
def Q7:=@Nat.not_le
def Q8:=@List.mem_iff_getElem?
def Q9:=@Int.natCast_inj
def Ra:=@decide_eq_false_iff_not
def Rb:=@Int.tdiv_eq_ediv_of_nonneg
def Rc:=@Array.eq_empty_of_size_eq_zero
def Re:=@List.pairwise_iff_getElem
def Rf:=@List.all_cons
def Rg:=@Bool.not_true
def Rh:=@Nat.testBit_two_pow
def Ri:=@List.contains_iff_mem
def Rj:=@Array.size_append
def Rk:=@Array.getElem?_replicate
def Rl:=@List.mem_append_right
def Rm:=@List.drop_zero
def Rn:=@Bool.and_true
def Ro:=@Nat.not_lt_zero
def Rp:=@getElem!_pos
def Rq:=@Array.getElem?_eq_some_iff
def Rr:=@Array.getElem?_eq_none
def Rt:=@List.drop_of_length_le
def Ru:=@Bool.true_and
def Rv:=@Nat.testBit_or
def Rw:=@List.eq_nil_iff_forall_not_mem
def Ry:=@List.pairwise_append
def Rz:=@Array.getElem_toList
def RA:=@List.getElem?_cons_succ
def RB:=@congrArg
def RC:=@List.getElem?_set
def RD:=@Array.getElem?_append_right
def RE:=@and_true
def RF:=@List.getD_eq_getElem?_getD
def RG:=@List.getElem?_toArray
def RH:=@Array.append_empty
def RI:=@List.take_zero
def RJ:=@Bool.not_false
def RK:=@List.mem_or_eq_of_mem_set
def RL:=@Bool.eq_iff_iff
def RM:=@Array.toList_push
def RN:=@Nat.min_eq_left
def RO:=@gt_iff_lt
def RP:=@Nat.one_mul
def RQ:=@Bool.false_or
def RR:=@List.map_congr_left
def RS:=@List.toList_toArray
def RT:=@Nat.add_sub_cancel_left
def RU:=@true_and
def RV:=@of_decide_eq_false
def RW:=@List.length_set
def RX:=@Nat.mul_one
def RY:=@List.length_filter_le
def RZ:=@Nat.sub_self
def R0:=@List.map_set
def R1:=@List.filterMap_append
def R3:=@Array.mem_toList_iff
def R4:=@Array.getElem?_range
def R5:=@List.mapM_cons
def R6:=@Array.mapM_eq_mapM_toList
def R7:=@List.drop_eq_getElem_cons
def R8:=@List.getElem_mem
def R9:=@List.not_mem_nil
def Sa:=@Array.toList_append
def Sb:=@List.take_succ_cons
def Sc:=@List.filterMap_cons
def Sd:=@Option.isSome_iff_exists
def Se:=@List.mem_of_mem_eraseIdx
def Sf:=@Nat.add_assoc
def Sg:=@Nat.eq_zero_or_pos
def Sh:=@Array.toList_range
def Si:=@Bool.or_false
def Sj:=@Array.extract_size
def Sk:=@List.filterMap_nil
def Sl:=@Classical.epsilon_spec
def Sm:=@List.getElem?_set_self
def Sn:=@List.length_range
def So:=@Bool.and_eq_false_iff
def Sp:=@Nat.le_of_lt
def Sq:=@List.eraseIdx_sublist
def Sr:=@Array.toList_map
def Ss:=@Nat.mod_eq_of_lt
def Su:=@decide_eq_decide
def Sv:=@List.cons.inj
def Sw:=@and_congr_right
def Sx:=@List.map_nil
inductive V where
 |x (v:Value)
 |agg (cs:List V)
 |tup (vs:List V)
 |sl (nl:Bool) (sz:Nat) (es:List V) (tok:Option Nat)
 |ptr (s off:Nat)
 |ip (cs:List V)
 |dyn (t:TypeId)
 |row (s sz len:Nat)
 |bx (cs:List V)
 |mp (s:Nat) (ks vs:List V)
 |fm (ks vs:List V)
 |undef
abbrev V.int (k:IntKind) (n:Int):V:= .x (.int k n)
abbrev V.bool (b:Bool):V:= .x (.bool b)
abbrev V.str (s:ByteArray):V:= .x (.string s)
def V.cells:V->List V
 | .agg cs=>cs
 |v=>[v]
def V.dat:V->Bool
 | .undef=>false
 | .ptr .. =>false
 | .row .. =>false
 | .bx _=>false
 | .mp .. =>false
 | .x (.agg _)=>false
 | .x (.tuple _)=>false
 | .tup _=>false
 | .sl _ _ _ (some _)=>false
 |_=>true
def V.one:V->Option Value
 | .x v=>some v
 |_=>none
def V.val:V->Option Value
 | .x v=>some v
 | .agg cs=>(cs.mapM V.one).map fun l=> .agg l.toArray
 |_=>none
def plainK:V->Bool
 | .x (.int _ _)=>true
 | .x (.string _)=>true
 | .x (.bool _)=>true
 | .agg cs=>cs.all fun c=>match c with| .x (.int _ _)=>true| .x (.string _)=>true| .x (.bool _)=>true|_=>false
 |_=>false
abbrev Lim:=Nat->Option Nat
inductive Rd (m:Lim) (w:World):Value->V->Prop
 |undef (v:Value):Rd m w v .undef
 |x (v:Value):Rd m w v (.x v)
 |dyn (t:TypeId) (v:Value):Rd m w (.iface t v) (.dyn t)
 |agg (cs:Array Value) (Cs:List V) (hl:cs.size=Cs.length)
  (h:∀(i:Nat) (v:Value) (u:V),cs[i]?=some v->Cs[i]?=some u->Rd m w v u):Rd m w (.agg cs) (.agg Cs)
 |tup (cs:Array Value) (Cs:List V) (hl:cs.size=Cs.length)
  (h:∀(i:Nat) (v:Value) (u:V),cs[i]?=some v->Cs[i]?=some u->Rd m w v u):Rd m w (.tuple cs) (.tup Cs)
 |nil (sz:Nat) (tok:Option Nat):Rd m w (.slice none 0 0) (.sl true sz [] tok)
 |sl (blk off cap sz:Nat) (es:List V) (tok:Option Nat) (c:Nat->Value) (hb:blk<w.heap.size) (hcap:es.length<=cap)
  (hsz:∀(i:Nat) (e:V),es[i]?=some e->e.cells.length=sz)
  (hc:∀k,k<es.length*sz->w.cell? ⟨blk,off+k,none⟩=some (c k))
  (hm:∀fr,m blk=some fr->off+es.length*sz<=fr)
  (hr:∀(i:Nat) (e:V),es[i]?=some e->∀(j:Nat) (d:V),e.cells[j]?=some d->Rd m w (c (i*sz+j)) d):
  Rd m w (.slice (some ⟨blk,off,none⟩) es.length cap) (.sl false sz es tok)
 |emp (a:Addr) (cap sz:Nat):Rd m w (.slice (some a) 0 cap) (.sl false sz [] none)
 |ip (blk off:Nat) (cs:List V) (c:Nat->Value) (hb:blk<w.heap.size)
  (hc:∀k,k<cs.length->w.cell? ⟨blk,off+k,none⟩=some (c k))
  (hm:∀fr,m blk=some fr->off+cs.length<=fr)
  (hr:∀(k:Nat) (d:V),cs[k]?=some d->Rd m w (c k) d):Rd m w (.pointer (some ⟨blk,off,none⟩)) (.ip cs)
 |fm (blk:Nat) (ks vs:List V) (ents:Array MapEntry) (clock:Nat) (hb:blk<w.heap.size) (hh:w.heap[blk]?=some (.map ents clock)) (hm:m blk=none)
  (hk:ents.size=ks.length) (hv:ents.size=vs.length) (hkey:∀(i:Nat) (e:MapEntry) (k:V),ents[i]?=some e->ks[i]?=some k->plainK k=true∧k.val=some e.key)
  (hbn:(∀e∈ents.toList,e.born<clock)∧(ents.toList.map (·.born)).Nodup) (hd:∀(i:Nat) (d:V),vs[i]?=some d->d.dat=true)
  (hr:∀(i:Nat) (e:MapEntry) (d:V),ents[i]?=some e->vs[i]?=some d->Rd m w e.val d):Rd m w (.map (some blk)) (.fm ks vs)
structure Ext (m:Lim) (w:World) (m':Lim) (w':World):Prop where
 size:w.heap.size<=w'.heap.size
 cell:∀blk off v,blk<w.heap.size->(∀fr,m blk=some fr->off<fr)->w.cell? ⟨blk,off,none⟩=some v->w'.cell? ⟨blk,off,none⟩=some v
 lim:∀blk,blk<w.heap.size->∀fr',m' blk=some fr'->∃fr,m blk=some fr∧fr<=fr'
 map:∀blk es c,m blk=none->w.heap[blk]?=some (.map es c)->w'.heap[blk]?=some (.map es c)
theorem Ext.refl (m:Lim) (w:World):Ext m w m w:=⟨PB _,fun _ _ _ _ _ h=>h,fun _ _ fr' h=>⟨fr',h,PB _⟩,fun _ _ _ _ h=>h⟩
variable {m m':Lim} {w w':World}
theorem Ext.noLim (h:Ext m w m' w') {blk:Nat} (hb:blk<w.heap.size) (hm:m blk=none):m' blk=none:=by
 cases h':m' blk with
 |none=>rfl
 |some fr=>obtain⟨fr',h1,_⟩:=h.lim blk hb fr h';rw[hm] at h1;cases h1
theorem du {k:Nat} {es:Array MapEntry} {c:Nat} (h:w.heap[k]?=some (.map es c)):k<w.heap.size:=by
 by_cases hk:k<w.heap.size
 . exact hk
 . rw[Rr (by omega)] at h;cases h
theorem Ext.trans {m1 m2:Lim} {w1 w2:World} (h:Ext m w m1 w1) (k:Ext m1 w1 m2 w2):Ext m w m2 w2:=by
 refine⟨tl h.size k.size,fun blk off v hb hm hc=>?_,fun blk hb fr' h'=>?_,fun blk es c hm hc=>?_⟩
 . refine k.cell blk off v (Qf hb h.size) (fun fr hf=>?_) (h.cell blk off v hb hm hc);obtain⟨fr0,h0,hle⟩:=h.lim blk hb fr hf;exact Qf (hm fr0 h0) hle
 . obtain⟨fr1,h1,hle⟩:=k.lim blk (Qf hb h.size) fr' h';obtain⟨fr0,h0,hle0⟩:=h.lim blk hb fr1 h1;exact⟨fr0,h0,tl hle0 hle⟩
 . exact k.map _ _ _ (h.noLim (du hc) hm) (h.map _ _ _ hm hc)
theorem Rd.mono (he:Ext m w m' w') {v:Value} {u:V} (h:Rd m w v u):Rd m' w' v u:=by
 induction h with
 |undef v=>exact .undef v
 |x v=>exact .x v
 |dyn t v=>exact .dyn t v
 |agg cs Cs hl _ ih=>exact .agg cs Cs hl ih
 |tup cs Cs hl _ ih=>exact .tup cs Cs hl ih
 |nil sz tok=>exact .nil sz tok
 |emp a cap sz=>exact .emp a cap sz
 | sl blk off cap sz es tok c hb hcap hsz hc hm _ ih=>
   refine .sl blk off cap sz es tok c (Qf hb he.size) hcap hsz (fun k hk=>?_) (fun fr' hf=>?_) ih
   . exact he.cell blk (off+k) _ hb (fun fr hf=>by have:=hm fr hf;omega) (hc k hk)
   . obtain⟨fr,h0,hle⟩:=he.lim blk hb fr' hf;exact tl (hm fr h0) hle
 | ip blk off cs c hb hc hm _ ih=>
   refine .ip blk off cs c (Qf hb he.size) (fun k hk=>?_) (fun fr' hf=>?_) ih
   . exact he.cell blk (off+k) _ hb (fun fr hf=>by have:=hm fr hf;omega) (hc k hk)
   . obtain⟨fr,h0,hle⟩:=he.lim blk hb fr' hf;exact tl (hm fr h0) hle
 |fm blk ks vs ents clock hb hh hm hk hv hkey hbn hd _ ih=>exact .fm blk ks vs ents clock (Qf hb he.size) (he.map _ _ _ hm hh) (he.noLim hb hm) hk hv hkey hbn hd ih
theorem Ext.of_below (h:Below w.heap.size w w') (hm:∀blk,blk<w.heap.size->m' blk=m blk):Ext m w m' w':=
 ⟨h.size,fun blk off v hb _ hc=>by rw[h.cell (p:=⟨blk,off,none⟩) hb];exact hc,fun blk hb fr' hf=>⟨fr',by rw[<-hm blk hb];exact hf,PB _⟩,fun blk es c _ hc=>by rw[h.block _ (du hc)];exact hc⟩
def RdL (m:Lim) (w:World):List Value->List V->Prop
 |[],[]=>True
 |v::vs,u::us=>Rd m w v u∧RdL m w vs us
 |_,_=>False
theorem RdL.mono {m m':Lim} {w w':World} (he:Ext m w m' w'):∀{vs:List Value} {us:List V},RdL m w vs us->RdL m' w' vs us
 |[],[],_=>trivial
 |_::_,_::_,h=>⟨h.1.mono he,RdL.mono he h.2⟩
theorem RdL.length {m:Lim} {w:World}:∀{vs:List Value} {us:List V},RdL m w vs us->vs.length=us.length
 |[],[],_=>rfl
 |_::_,_::_,h=>by simp[RdL.length h.2]
theorem RdL.get {m:Lim} {w:World}:∀{vs:List Value} {us:List V},RdL m w vs us->∀(i:Nat) (v:Value) (u:V),vs[i]?=some v->us[i]?=some u->Rd m w v u
 |[],[],_,i,v,u,h,_=>by simp at h
 | v0::vs,u0::us,h,i,v,u,hv,hu=>by
   cases i with
   |zero=>simp at hv hu;subst hv hu;exact h.1
   |succ i=>exact RdL.get h.2 i v u (by simpa using hv) (by simpa using hu)
theorem RdL.of_get {m:Lim} {w:World}:∀{vs:List Value} {us:List V},vs.length=us.length->(∀(i:Nat) (v:Value) (u:V),vs[i]?=some v->us[i]?=some u->Rd m w v u)->RdL m w vs us
 |[],[],_,_=>trivial
 |v0::vs,u0::us,hl,h=>⟨h 0 v0 u0 rfl rfl,RdL.of_get (by simpa using hl) (fun i v u hv hu=>h (i+1) v u (by simpa using hv) (by simpa using hu))⟩
 |[],_::_,hl,_=>by simp at hl
 |_::_,[],hl,_=>by simp at hl
variable {v:Value} {Cs:List V}
theorem Rd.agg_iff:Rd m w v (.agg Cs)↔∃cs:Array Value,v= .agg cs∧RdL m w cs.toList Cs:=by
 constructor
 . intro h;cases h with
   |agg cs _ hl h=>exact⟨cs,rfl,RdL.of_get (by simpa using hl) (fun i v u hv hu=>h i v u (by simpa using hv) hu)⟩
 . rintro⟨cs,rfl,h⟩;exact .agg cs Cs (by simpa using h.length) (fun i v u hv hu=>h.get i v u (by simpa using hv) hu)
theorem Rd.tup_iff:Rd m w v (.tup Cs)↔∃cs:Array Value,v= .tuple cs∧RdL m w cs.toList Cs:=by
 constructor
 . intro h;cases h with
   |tup cs _ hl h=>exact⟨cs,rfl,RdL.of_get (by simpa using hl) (fun i v u hv hu=>h i v u (by simpa using hv) hu)⟩
 . rintro⟨cs,rfl,h⟩;exact .tup cs Cs (by simpa using h.length) (fun i v u hv hu=>h.get i v u (by simpa using hv) hu)
theorem Rd.x_iff {u:Value}:Rd m w v (.x u)↔v=u:=by
 constructor
 . intro h;cases h;rfl
 . rintro rfl;exact .x v
variable {u:V}
theorem Rd.cells (h:Rd m w v u) (hu:u≠ .undef) (hx:∀a,u≠ .x (.agg a)):RdL m w v.cells.toList u.cells:=by
 cases h with
 |undef v=>exact absurd rfl hu
 |x v=>cases v<;>first|exact⟨.x _,trivial⟩|exact absurd rfl (hx _)
 |agg cs Cs hl h=>exact(Rd.agg_iff.1 (.agg cs Cs hl h)).elim fun a ⟨e,h⟩=>by cases e;exact h
 |tup cs Cs hl h=>exact⟨.tup cs Cs hl h,trivial⟩
 |nil sz tok=>exact⟨.nil sz tok,trivial⟩
 |emp a cap sz=>exact⟨.emp a cap sz,trivial⟩
 |dyn t v=>exact⟨.dyn t v,trivial⟩
 |sl blk off cap sz es tok c hb hcap hsz hc hm hr=>exact⟨.sl blk off cap sz es tok c hb hcap hsz hc hm hr,trivial⟩
 |ip blk off cs c hb hc hm hr=>exact⟨.ip blk off cs c hb hc hm hr,trivial⟩
 |fm blk ks vs ents clock hb hh hm hk hv hkey hbn hd hr=>exact⟨.fm blk ks vs ents clock hb hh hm hk hv hkey hbn hd hr,trivial⟩
structure Env where
 P:Program
 F:FuncId->Option (List V->Option V)
 G:Nat->V
 J:World->Prop
 M:Nat->Bool
 FP:FuncId->Option (List V->Option (V×List (List V)))
 K:Nat
 MB:Nat->Bool
 any:Nat->Bool
 X:FuncId->List Value->Option (List V->Option (V×List (List V))):=fun _ _=>none
 xk:Nat:=0
 FM:FuncId->Option (List V->Option (List V×List V)):=fun _=>none
 lit:Nat->Bool:=fun _=>false
 fz:Nat->Bool:=fun _=>false
structure St where
 t:Nat->V
 b:Nat->Option (List V)
def aw {α:Type} (f:Nat->α) (i:Nat) (v:α):Nat->α:=fun j=>if j=i then v else f j
variable {α:Type}
theorem aa (f:Nat->α) (i:Nat) (v:α):aw f i v i=v:=PO rfl
theorem ae (f:Nat->α) {i j:Nat} (v:α) (h:j≠i):aw f i v j=f j:=PS h
theorem aD (f:Nat->α) (i j:Nat) (v:α):aw f i v j=if j=i then v else f j:=rfl
def nn:V->V
 | .sl nl sz es _=> .sl nl sz es none
 |v=>v
theorem vm:∃f:V->V,∀u,f u=nn u:=⟨nn,fun _=>rfl⟩
noncomputable def V.bare:V->V:=Classical.choose vm
theorem aX (u:V):u.bare=nn u:=Qh vm u
theorem bo (v:Value):(V.x v).bare= .x v:=aX _
theorem gj (v:List V):(V.agg v).bare= .agg v:=aX _
theorem gm (v:List V):(V.tup v).bare= .tup v:=aX _
theorem kU (v:List V):(V.ip v).bare= .ip v:=aX _
theorem li (s o:Nat):(V.ptr s o).bare= .ptr s o:=aX _
theorem lj (s z l:Nat):(V.row s z l).bare= .row s z l:=aX _
theorem kV (s:Nat) (ks vs:List V):(V.mp s ks vs).bare= .mp s ks vs:=aX _
theorem kW (ks vs:List V):(V.fm ks vs).bare= .fm ks vs:=aX _
theorem i6 (t:TypeId):(V.dyn t).bare= .dyn t:=aX _
theorem iB:V.undef.bare= .undef:=aX _
theorem i7 (nl:Bool) (sz:Nat) (es:List V) (tok:Option Nat):(V.sl nl sz es tok).bare= .sl nl sz es none:=aX _
def KG:V->V
 | .sl true _ [] _=> .sl true 0 [] none
 |v=>nn v
theorem F7:∃f:V->V,∀u,f u=KG u:=⟨KG,fun _=>rfl⟩
noncomputable def V.pc:V->V:=Classical.choose F7
theorem kn (u:V):u.pc=KG u:=Qh F7 u
theorem KK (v:Value):(V.x v).pc= .x v:=kn _
theorem Gt (sz:Nat) (tok:Option Nat):(V.sl true sz [] tok).pc= .sl true 0 [] none:=kn _
theorem Ix (sz:Nat) (es:List V) (tok:Option Nat):(V.sl false sz es tok).pc= .sl false sz es none:=kn _
theorem Iy (v:List V):(V.ip v).pc= .ip v:=kn _
theorem Iz (ks vs:List V):(V.fm ks vs).pc= .fm ks vs:=kn _
theorem Gu (t:TypeId):(V.dyn t).pc= .dyn t:=kn _
theorem zk:V.undef.pc= .undef:=kn _
def gp:Op->Bool
 | .move _| .assign _| .pick .. =>true
 |_=>false
theorem vo:∃f:Op->V->V,∀op u,f op u=bif gp op then u else u.bare:=⟨fun op u=>bif gp op then u else u.bare,fun _ _=>rfl⟩
noncomputable def cK:Op->V->V:=Classical.choose vo
theorem cT (op:Op) (u:V):cK op u=bif gp op then u else u.bare:=Qh vo op u
theorem sr (x:Operand) (u:V):cK (.move x) u=u:=cT _ _
theorem ou (x:Operand) (u:V):cK (.assign x) u=u:=cT _ _
theorem su (c x y:Operand) (u:V):cK (.pick c x y) u=u:=cT _ _
theorem bX (op:Op) {u:V} (h:u.bare=u):cK op u=u:=by rw[cT];cases gp op<;>simp[h]
theorem Dr (op:Op) (v:Value):cK op (.x v)= .x v:=bX op (bo v)
theorem nq (op:Op) (v:List V):cK op (.agg v)= .agg v:=bX op (gj v)
theorem wy (op:Op) (v:List V):cK op (.tup v)= .tup v:=bX op (gm v)
theorem zl (op:Op) (v:List V):cK op (.ip v)= .ip v:=bX op (kU v)
theorem wz (op:Op) (s o:Nat):cK op (.ptr s o)= .ptr s o:=bX op (li s o)
theorem ns (op:Op) (s z l:Nat):cK op (.row s z l)= .row s z l:=bX op (lj s z l)
theorem zm (op:Op) (s:Nat) (ks vs:List V):cK op (.mp s ks vs)= .mp s ks vs:=bX op (kV s ks vs)
theorem zn (op:Op) (ks vs:List V):cK op (.fm ks vs)= .fm ks vs:=bX op (kW ks vs)
theorem wA (op:Op) (t:TypeId):cK op (.dyn t)= .dyn t:=bX op (i6 t)
theorem pq (op:Op):cK op .undef= .undef:=bX op iB
theorem zp (op:Op) (nl:Bool) (sz:Nat) (es:List V):cK op (.sl nl sz es none)= .sl nl sz es none:=bX op (i7 _ _ _ _)
def fL (s:Nat):V->V
 | .sl nl sz es (some s')=> .sl nl sz es (if s'=s then none else some s')
 |v=>v
theorem pr:∃f:Nat->V->V,∀s u,f s u=fL s u:=⟨fL,fun _ _=>rfl⟩
noncomputable def bT:Nat->V->V:=Classical.choose pr
theorem aR (s:Nat) (u:V):bT s u=fL s u:=Qh pr s u
noncomputable def strip (s:Nat) (t:Nat->V):Nat->V:=fun i=>bT s (t i)
noncomputable def lk:Option Nat->(Nat->V)->(Nat->V)
 |none,t=>t
 |some s,t=>strip s t
theorem pt (t:Nat->V):lk none t=t:=rfl
theorem pu (s:Nat) (t:Nat->V):lk (some s) t=strip s t:=rfl
def V.unm:V->Bool
 | .sl _ _ _ (some _)=>false
 |_=>true
def V.isSl:V->Bool
 | .sl .. =>true
 |_=>false
noncomputable def az (E:Env) (k:Nat) (b:Nat->Option (List V)):Nat->Option (List V):=fun s=>if E.MB s=true then (b s).map (List.map (bT k)) else b s
noncomputable def ov (E:Env):Option Nat->(Nat->Option (List V))->(Nat->Option (List V))
 |none,b=>b
 |some k,b=>az E k b
noncomputable def vp (E:Env) (b:Nat->Option (List V)):Nat->Option (List V):=fun s=>if E.MB s=true then (b s).map (List.map V.bare) else b s
noncomputable def Env.kept (E:Env) (s:Nat) (u:V):V:=if E.MB s=true then u else u.bare
def Env.okS (E:Env) (s:Nat) (u:V):Bool:= !E.MB s||(u.isSl||u.cells.all V.unm)
def Env.okN (E:Env) (d:Option Nat) (cs:List V):Bool:=match d with
 |some s=> !E.MB s||cs.all V.unm
 |none=>true
def Env.isMB (E:Env):V->Bool
 | .ptr s _=>E.MB s
 |_=>false
noncomputable def Env.keepL (E:Env) (p u:V):V:=if E.isMB p=true then u else u.bare
def V.nm:V->Option Nat
 | .ptr s _=>some s
 | .row s _ _=>some s
 | .mp s _ _=>some s
 |_=>none
@[simp] theorem OD (s:Nat) (ks vs:List V):(V.mp s ks vs).nm=some s:=rfl
@[simp] theorem OM (v:Value):(V.x v).nm=none:=rfl
@[simp] theorem KL (v:List V):(V.agg v).nm=none:=rfl
@[simp] theorem KM (v:List V):(V.tup v).nm=none:=rfl
@[simp] theorem OE (v:List V):(V.ip v).nm=none:=rfl
@[simp] theorem OF (ks vs:List V):(V.fm ks vs).nm=none:=rfl
@[simp] theorem KN (t:TypeId):(V.dyn t).nm=none:=rfl
@[simp] theorem IA:V.undef.nm=none:=rfl
@[simp] theorem OG (nl:Bool) (sz:Nat) (es:List V) (tok:Option Nat):(V.sl nl sz es tok).nm=none:=rfl
@[simp] theorem OH (c:List V):(V.bx c).nm=none:=rfl
@[simp] theorem KO (s o:Nat):(V.ptr s o).nm=some s:=rfl
@[simp] theorem KP (s z l:Nat):(V.row s z l).nm=some s:=rfl
def vq (s:Nat):V->V
 | .ptr s' o=>if s'=s then .undef else .ptr s' o
 | .row s' z l=>if s'=s then .undef else .row s' z l
 | .mp s' ks vs=>if s'=s then .undef else .mp s' ks vs
 |v=>v
theorem vr:∃f:Nat->V->V,∀s u,f s u=vq s u:=⟨vq,fun _ _=>rfl⟩
noncomputable def dT:Nat->V->V:=Classical.choose vr
theorem cL (s:Nat) (u:V):dT s u=vq s u:=Qh vr s u
noncomputable def kill (s:Nat) (t:Nat->V):Nat->V:=fun i=>dT s (t i)
theorem i8 (s:Nat) (u:V):dT s u=u∧u.nm≠some s∨dT s u= .undef∧u.nm=some s:=by
 rw[cL];cases u<;>simp[vq]
 . rename_i s' o;by_cases h:s'=s<;>simp[h]
 . rename_i s' z l;by_cases h:s'=s<;>simp[h]
 . rename_i s' ks vs;by_cases h:s'=s<;>simp[h]
def V.notPtr:V->Bool
 | .ptr .. =>false
 | .row .. =>false
 | .bx _=>false
 | .mp .. =>false
 |_=>true
def np:Option V->Option V
 |some u=>if u.notPtr=true then some u else none
 |none=>none
theorem en {r:Option V} (h:np r=some u):r=some u∧u.notPtr=true:=by
 cases r with
 |none=>simp[np] at h
 | some v=>
   simp only[np] at h;split at h
   . rename_i hn;cases h;exact⟨rfl,hn⟩
   . simp at h
def dy:Value->V
 | .slice none 0 0=> .sl true 0 [] none
 |v=> .x v
noncomputable def ev (E:Env) (st:St):Operand->V
 | .tmp i=>st.t i
 | .const v=>dy v
 | .global g=>(E.G g).bare
 | .func f=> .x (.func (.func f) #[] #[])
def St.put (st:St) (d:Option Tmp) (v:V):St:=
 match d with
 |some i=>⟨aw st.t i v,st.b⟩
 |none=>st
def aW (P:Program) (t:TypeId):Option Bool:=
 match P.underlying t with
 |some (.struct _)=>some true
 |some (.array _ _)=>some true
 |some _=>some false
 |none=>none
def bg (P:Program) (t:TypeId):Option Nat:=(P.info? t).map (·.size)
def cQ (P:Program) (t:TypeId):Option Nat:=(P.info? t).map (·.bytes)
def aE (P:Program) (t:TypeId):Option (List V):=((P.info? t).bind (·.zero)).map fun z=>z.cells.toList.map dy
def cM (P:Program) (t:TypeId) (cs:List V) (off:Nat):Option V:=
 match aW P t,bg P t with
 |some true,some n=>if off+n<=cs.length then some (.agg ((cs.drop off).take n)) else none
 |some false,some _=>cs[off]?
 |_,_=>none
theorem pw:∃f:IntKind->Int->Int,∀k a,f k a=k.wrap a:=⟨fun k a=>k.wrap a,fun _ _=>rfl⟩
noncomputable def aq:IntKind->Int->Int:=Classical.choose pw
theorem fo (k:IntKind) (a:Int):aq k a=k.wrap a:=Qh pw k a
theorem vt:∃f:IntKind->Int->Int->Int,∀k a b,f k a b=k.wrap (BitVec.ofInt k.bits a&&&BitVec.ofInt k.bits b).toNat:=⟨fun k a b=>k.wrap (BitVec.ofInt k.bits a&&&BitVec.ofInt k.bits b).toNat,fun _ _ _=>rfl⟩
noncomputable def Ds:IntKind->Int->Int->Int:=Classical.choose vt
theorem vu (k:IntKind) (a b:Int):Ds k a b=k.wrap (BitVec.ofInt k.bits a&&&BitVec.ofInt k.bits b).toNat:=Qh vt k a b
theorem zq:∃f:IntKind->Int->Int->Int,∀k a b,f k a b=k.wrap (BitVec.ofInt k.bits a|||BitVec.ofInt k.bits b).toNat:=⟨fun k a b=>k.wrap (BitVec.ofInt k.bits a|||BitVec.ofInt k.bits b).toNat,fun _ _ _=>rfl⟩
noncomputable def OI:IntKind->Int->Int->Int:=Classical.choose zq
theorem Gv (k:IntKind) (a b:Int):OI k a b=k.wrap (BitVec.ofInt k.bits a|||BitVec.ofInt k.bits b).toNat:=Qh zq k a b
theorem vw:∃f:IntKind->Int->Int->Int,∀k a b,f k a b=k.wrap (BitVec.ofInt k.bits a^^^BitVec.ofInt k.bits b).toNat:=⟨fun k a b=>k.wrap (BitVec.ofInt k.bits a^^^BitVec.ofInt k.bits b).toNat,fun _ _ _=>rfl⟩
noncomputable def IB:IntKind->Int->Int->Int:=Classical.choose vw
theorem Dt (k:IntKind) (a b:Int):IB k a b=k.wrap (BitVec.ofInt k.bits a^^^BitVec.ofInt k.bits b).toNat:=Qh vw k a b
theorem ll:∃f:IntKind->Int->Int->Int,∀k a b,f k a b=k.wrap (BitVec.ofInt k.bits a&&& ~~~ BitVec.ofInt k.bits b).toNat:=⟨fun k a b=>k.wrap (BitVec.ofInt k.bits a&&& ~~~ BitVec.ofInt k.bits b).toNat,fun _ _ _=>rfl⟩
noncomputable def vx:IntKind->Int->Int->Int:=Classical.choose ll
theorem sv (k:IntKind) (a b:Int):vx k a b=k.wrap (BitVec.ofInt k.bits a&&& ~~~ BitVec.ofInt k.bits b).toNat:=Qh ll k a b
theorem vy:∃f:IntKind->Int->Int->Int,∀k a b,f k a b=k.wrap (a*2^(min b.toNat k.bits)):=⟨fun k a b=>k.wrap (a*2^(min b.toNat k.bits)),fun _ _ _=>rfl⟩
noncomputable def IC:IntKind->Int->Int->Int:=Classical.choose vy
theorem Du (k:IntKind) (a b:Int):IC k a b=k.wrap (a*2^(min b.toNat k.bits)):=Qh vy k a b
theorem vz:∃f:IntKind->Int->Int->Int,∀k a b,f k a b=a.fdiv (2^(min b.toNat k.bits)):=⟨fun k a b=>a.fdiv (2^(min b.toNat k.bits)),fun _ _ _=>rfl⟩
noncomputable def ID:IntKind->Int->Int->Int:=Classical.choose vz
theorem Dv (k:IntKind) (a b:Int):ID k a b=a.fdiv (2^(min b.toNat k.bits)):=Qh vz k a b
noncomputable def sw (op:BinOp) (k:IntKind) (a b:Int):Option V:=
 match op with
 | .add=>some (.int k (aq k (a+b)))
 | .sub=>some (.int k (aq k (a-b)))
 | .mul=>some (.int k (aq k (a*b)))
 | .quo=>if b=0 then none else some (.int k (aq k (a.tdiv b)))
 | .rem=>if b=0 then none else some (.int k (a.tmod b))
 | .and=>some (.int k (Ds k a b))
 | .or=>some (.int k (OI k a b))
 | .xor=>some (.int k (IB k a b))
 | .andNot=>some (.int k (vx k a b))
 | .eql=>some (.bool (decide (a=b)))
 | .neq=>some (.bool (!decide (a=b)))
 | .lss=>some (.bool (decide (a<b)))
 | .leq=>some (.bool (decide (a<=b)))
 | .gtr=>some (.bool (decide (b<a)))
 | .geq=>some (.bool (decide (b<=a)))
 |_=>none
def zs (a b:ByteArray):Option V:=if ((a.size+b.size:Nat):Int)>IntKind.i64.max then none else some (.str (a++b))
def sA (op:BinOp) (a b:ByteArray):Option V:=
 match op with
 | .add=>zs a b
 | .eql=>some (.bool (decide (a=b)))
 | .neq=>some (.bool (!decide (a=b)))
 | .lss=>some (.bool (Op.bytesLess a.toList b.toList))
 | .leq=>some (.bool (Op.bytesLess a.toList b.toList||decide (a=b)))
 | .gtr=>some (.bool (!(Op.bytesLess a.toList b.toList||decide (a=b))))
 | .geq=>some (.bool (!Op.bytesLess a.toList b.toList))
 |_=>none
def IE (P:Program) (go:TypeId->V->V->Option Bool):List Field->List V->List V->Option Bool
 |[],_,_=>some true
 | f ::fs,xs,ys=>
   if f.name= "_" then none else
   match cM P f.type xs f.offset,cM P f.type ys f.offset with
   | some x,some y=>
     match go f.type x y,IE P go fs xs ys with
     |some p,some q=>some (p&&q)
     |_,_=>none
   |_,_=>none
def zt (P:Program):Nat->TypeId->V->V->Option Bool
 |0,_,_,_=>none
 | d+1,t,x,y=>
   match P.underlying t,x,y with
   |some .bool,.x (.bool a),.x (.bool b)=>some (a==b)
   |some (.int _),.x (.int k a),.x (.int k' b)=>if k=k' then some (decide (a=b)) else none
   |some .string,.x (.string a),.x (.string b)=>some (decide (a=b))
   |some (.struct fs),.agg xs,.agg ys=>if P.stoodInHeld t then none else IE P (zt P d) fs.toList xs ys
   |_,_,_=>none
def Do:Operand->Bool
 | .const _=>true
 |_=>false
noncomputable def sB (P:Program) (lit:Bool) (op:BinOp) (t:TypeId) (u v:V):Option V:=
 match u,v with
 | .x (.int k a),.x (.int k' b)=>
   match op with
   | .shl=>if b<0 then none else some (.int k (IC k a b))
   | .shr=>if b<0 then none else some (.int k (ID k a b))
   |_=>if k=k' then sw op k a b else none
 | .x (.string a),.x (.string b)=>sA op a b
 | .x (.bool a),.x (.bool b)=>
   match op,P.underlying t with
   | .eql,some .bool=>some (.bool (a==b))
   | .neq,some .bool=>some (.bool (!(a==b)))
   |_,_=>none
 | .agg xs,.agg ys=>
   if P.eqGuardType P.depth t then none else
   match op,zt P 20 t (.agg xs) (.agg ys) with
   | .eql,some b=>some (.bool b)
   | .neq,some b=>some (.bool (!b))
   |_,_=>none
 | .sl a _ _ _,.sl b _ es _=>
   match op,P.underlying t with
   | .eql,some (.slice _)=>if b&&es.isEmpty then some (.bool a) else none
   | .neq,some (.slice _)=>if b&&es.isEmpty then some (.bool (!a)) else none
   |_,_=>none
 | .dyn _,.x .nilIface=>
   match op,P.underlying t with
   | .eql,some (.interface _)=>some (.bool false)
   | .neq,some (.interface _)=>some (.bool true)
   |_,_=>none
 | .ip _,.x (.pointer none)=>
   match op,P.underlying t with
   | .eql,some (.pointer _)=>some (.bool false)
   | .neq,some (.pointer _)=>some (.bool true)
   |_,_=>none
 | .ptr _ _,.x (.pointer none)=>
   match op,P.underlying t with
   | .eql,some (.pointer _)=>some (.bool false)
   | .neq,some (.pointer _)=>some (.bool true)
   |_,_=>none
 | .x .nilIface,.x .nilIface=>
   if lit=true then
    match op,P.underlying t with
    | .eql,some (.interface _)=>some (.bool true)
    | .neq,some (.interface _)=>some (.bool false)
    |_,_=>none
   else none
 |_,_=>none
def px (t:Bool):V->V->V
 | .x (.bool p),.x (.bool q)=> .x (.bool (bif t then p else q))
 |u,v=>if t then u else v
def ja (place:Nat->Option (Nat×Nat)) (cells:List V):List (Nat×V)->Option (List V)
 |[]=>some cells
 | (i,v)::rest=>
   match place i with
   |none=>none
   | some (off,size)=>
     if v.dat=false∨v.cells.length≠size∨off+size>cells.length then none
     else ja place (cells.take off++v.cells++cells.drop (off+size)) rest
def jL (P:Program) (t:TypeId) (parts:List (Nat×V)):Option V:=
 match aE P t,P.underlying t with
 | some z,some (.struct fs)=>
   match fs.toList.mapM (fun f=>(bg P f.type).map fun n=>(f.offset,n)) with
   | some l=>
     match ja (l[·]?) z parts with
     |some cs=>some (.agg cs)
     |none=>none
   |none=>none
 |_,_=>none
def py (s:ByteArray) (i:Int):Int:=((s.data[i.toNat]?).getD 0).toNat
def IG (s:ByteArray) (l h:Int):ByteArray:=s.extract l.toNat h.toNat
def cy (e:Operand->V) (d:Int):Option Operand->Option Int
 |none=>some d
 | some o=>match e o with
   | .x (.int _ i)=>some i
   |_=>none
def bytesOf:List V->Option (List UInt8)
 |[]=>some []
 | .x (.int .u8 n)::l=>match bytesOf l with
   |some r=>some (UInt8.ofNat n.toNat::r)
   |none=>none
 |_=>none
def Gw (a b:Int):Int:=if b>a then b else a
def Gx (a b:Int):Int:=if b<a then b else a
def pz (P:Program):Nat->TypeId->V->Bool
 |0,_,_=>false
 | d+1,t,u=>match P.underlying t,u with
   |some (.int _),.x (.int _ _)=>true
   |some .string,.x (.string _)=>true
   |some .bool,.x (.bool _)=>true
   |some (.struct fs),.agg cs=>fs.toList.all fun f=>decide (f.name≠ "_")&&(match cM P f.type cs f.offset with|some p=>pz P d f.type p|none=>false)
   |_,_=>false
def dF (P:Program) (t:TypeId) (u:V):Bool:=plainK u&&pz P 20 t u
def gf (P:Program) (t:TypeId) (k:V):List V->Nat->Option (Option Nat)
 |[],_=>some none
 | k'::ks,i=>match zt P 20 t k k' with
   |some true=>some (some i)
   |some false=>gf P t k ks (i+1)
   |none=>none
def aL (P:Program) (t:TypeId):Option V:=
 match (P.info? t).bind (·.zero) with
 |some (.agg cs)=>some (.agg (cs.toList.map dy))
 |some v=>some (dy v)
 |none=>none
def V.kv:V->Option (List V×List V)
 | .mp _ ks vs=>some (ks,vs)
 | .fm ks vs=>some (ks,vs)
 |_=>none
def ed (P:Program) (t:TypeId) (m k:V) (ok:Bool):Option V:=
 match P.underlying t,m.kv with
 | some (.map kt et),some (ks,vs)=>if dF P kt k=true then
  match gf P kt k ks 0 with
  |some (some i)=>(vs[i]?).map fun v=>if ok=true then .tup [v,.x (.bool true)] else v
  |some none=>(aL P et).map fun v=>if ok=true then .tup [v,.x (.bool false)] else v
  |none=>none
   else none
 |_,_=>none
noncomputable def putM (P:Program) (t:TypeId) (ks vs:List V) (k v:V):Option (List V×List V):=
 match P.underlying t with
 | some (.map kt _)=>if dF P kt k=true∧v.dat=true then
  match gf P kt k ks 0 with
  |some (some i)=>open Classical in if ks[i]?=some k then some (ks,vs.set i v) else none
  |some none=>some (ks++[k],vs++[v])
  |none=>none
   else none
 |_=>none
def pA (s:Nat) (ks vs:List V):V->V
 | .mp s' ks' vs'=>if s'=s then .mp s ks vs else .mp s' ks' vs'
 |v=>v
theorem vA:∃f:Nat->List V->List V->V->V,∀s ks vs u,f s ks vs u=pA s ks vs u:=⟨pA,fun _ _ _ _=>rfl⟩
noncomputable def cR:Nat->List V->List V->V->V:=Classical.choose vA
theorem cg (s:Nat) (ks vs:List V) (u:V):cR s ks vs u=pA s ks vs u:=Qh vA s ks vs u
noncomputable def mS (s:Nat) (ks vs:List V) (t:Nat->V):Nat->V:=fun i=>cR s ks vs (t i)
noncomputable def aH (E:Env) (op:Op) (e:Operand->V):Option V:=
 match op with
 | .move x| .assign x=>some (e x)
 | .pick c a b=>match e c with
   | .x (.bool t)=>some (px t (e a) (e b))
   |_=>none
 | .nilCheck x=>match e x with
   | .ptr s off=>some (.ptr s off)
   | .ip cs=>some (.ip cs)
   |_=>none
 | .binOp op t x y _=>sB E.P (Do x||Do y) op t (e x) (e y)
 | .unOp .not _ x=>match e x with
   | .x (.bool b)=>some (.bool (!b))
   |_=>none
 | .unOp .neg _ x=>match e x with
   | .x (.int k n)=>some (.int k (aq k (0-n)))
   |_=>none
 | .extract x i=>match e x with
   | .tup vs=>np vs[i]?
   |_=>none
 | .field t x f=>match e x,E.P.underlying t with
   | .agg cs,some (.struct fs)=>(fs[f]?).bind fun fd=>np (cM E.P fd.type cs fd.offset)
   |_,_=>none
 | .build t parts=>jL E.P t (parts.toList.map fun p=>(p.1,(e p.2).bare))
 | .fieldAddr t x f=>match E.P.underlying t with
   | some (.struct fs)=>match fs[f]? with
     | some fd=>match bg E.P fd.type with
       | some n=>if n=0 then none else match e x with
         | .ptr s off=>some (.ptr s (off+fd.offset))
         | .ip cs=>if fd.offset<=cs.length then some (.ip (cs.drop fd.offset)) else none
         |_=>none
       |none=>none
     |none=>none
   |_=>none
 | .convert s d x=>match E.P.underlying s,E.P.underlying d,e x with
   |some (.int _),some (.int k),.x (.int _ n)=>some (.int k (aq k n))
   |some .string,some .string,.x (.string s)=>some (.str s)
   |some (.int _),some .string,.x (.int _ n)=>some (.str (Utf8.encode n))
   | some (.slice el),some .string,.sl _ _ es _=>match E.P.underlying el,bytesOf es with
     |some (.int .u8),some l=>some (.str ⟨l.toArray⟩)
     |_,_=>none
   |_,_,_=>none
 | .indexAddr t x ix=>match E.P.underlying t,e x,e ix with
   |some (.slice elem),.sl _ sz es _,.x (.int _ i)=>if bg E.P elem=some sz∧0<=i then (es[i.toNat]?).map fun u=> .ip u.cells else none
   |some (.slice elem),.row s sz len,.x (.int _ i)=>if bg E.P elem=some sz∧0<=i∧i<len then some (.ptr s (i.toNat*sz)) else none
   |_,_,_=>none
 | .index t x ix=>match E.P.underlying t,e x,e ix with
   |some .string,.x (.string s),.x (.int _ i)=>if 0<=i∧i<s.size then some (.int .u8 (py s i)) else none
   |_,_,_=>none
 | .slice t x lo hi none=>match E.P.underlying t,e x with
   | some .string,.x (.string s)=>match cy e 0 lo,cy e s.size hi with
     |some l,some h=>if 0<=l∧l<=h∧h<=s.size then some (.str (IG s l h)) else none
     |_,_=>none
   | some (.slice elem),.sl nl sz es _=>match cy e 0 lo,cy e es.length hi with
     |some l,some h=>if bg E.P elem=some sz∧0<=l∧l<=h∧h<=es.length then some (.sl nl sz ((es.drop l.toNat).take (h.toNat-l.toNat)) none) else none
     |_,_=>none
   | some (.slice elem),.row s sz len=>match cy e 0 lo,cy e len hi with
     |some l,some h=>if bg E.P elem=some sz∧l=0∧0<=h∧h<=len then some (.row s sz h.toNat) else none
     |_,_=>none
   |_,_=>none
 | .call {callee:= .builtin .len,args,argTypes}=>match args.toList,argTypes.toList with
   | [x],[t]=>match E.P.underlying t,e x with
     |some .string,.x (.string s)=>some (.int .i64 s.size)
     |some (.slice _),.sl _ _ es _=>some (.int .i64 es.length)
     |some (.slice _),.row _ _ len=>some (.int .i64 len)
     |some (.map _ _),.mp _ ks _=>some (.int .i64 ks.length)
     |some (.map _ _),.fm ks _=>some (.int .i64 ks.length)
     |_,_=>none
   |_,_=>none
 | .call {callee:= .builtin .max,args,..}=>match args.toList with
   | [x,y]=>match e x,e y with
     | .x (.int k a),.x (.int _ b)=>some (.int k (Gw a b))
     |_,_=>none
   |_=>none
 | .call {callee:= .builtin .min,args,..}=>match args.toList with
   | [x,y]=>match e x,e y with
     | .x (.int k a),.x (.int _ b)=>some (.int k (Gx a b))
     |_,_=>none
   |_=>none
 |_=>none
def Rs (m:Lim) (w:World) (β:Nat->Nat) (v:Value) (u:V):Prop:=Rd m w v u∨(∃s off,u= .ptr s off∧v= .pointer (some ⟨β s,off,none⟩))∨(∃s sz len cap,u= .row s sz len∧v= .slice (some ⟨β s,0,none⟩) len cap∧len<=cap)∨∃s ks vs,u= .mp s ks vs∧v= .map (some (β s))
section
variable {P:Program} {m:Lim} {w:World} {β:Nat->Nat}
variable {s off:Nat}
theorem Rd.not_ptr (h:Rd m w v (.ptr s off)):False:=by cases h
variable {l:Nat}
theorem Rd.not_row {z:Nat} (h:Rd m w v (.row s z l)):False:=by cases h
variable {vs:List V}
theorem Rd.not_mp {ks:List V} (h:Rd m w v (.mp s ks vs)):False:=by cases h
theorem Rs.rd (h:Rs m w β v u) (hu:u.nm=none):Rd m w v u:=by
 rcases h with h|⟨s,off,rfl,_⟩|⟨s,sz,len,cap,rfl,_⟩|⟨s,ks,vs,rfl,_⟩
 . exact h
 . cases hu
 . cases hu
 . cases hu
theorem Rs.ptr (h:Rs m w β v (.ptr s off)):v= .pointer (some ⟨β s,off,none⟩):=by
 rcases h with h|⟨s',off',he,rfl⟩|⟨s',sz,len,cap,he,_⟩|⟨s',ks,vs,he,_⟩
 . exact h.not_ptr.elim
 . cases he;rfl
 . cases he
 . cases he
variable {sz:Nat}
theorem Rs.row {len:Nat} (h:Rs m w β v (.row s sz len)):∃cap,v= .slice (some ⟨β s,0,none⟩) len cap∧len<=cap:=by
 rcases h with h|⟨s',off',he,rfl⟩|⟨s',sz',len',cap,he,hv⟩|⟨s',ks,vs,he,_⟩
 . exact h.not_row.elim
 . cases he
 . cases he;exact⟨cap,hv⟩
 . cases he
theorem Rs.mp {ks:List V} (h:Rs m w β v (.mp s ks vs)):v= .map (some (β s)):=by
 rcases h with h|⟨s',off',he,rfl⟩|⟨s',sz',len',cap,he,hv⟩|⟨s',ks',vs',he,hv⟩
 . exact h.not_mp.elim
 . cases he
 . cases he
 . cases he;exact hv
theorem Rs.ofMp (s:Nat) (ks vs:List V):Rs m w β (.map (some (β s))) (.mp s ks vs):= .inr (.inr (.inr ⟨s,ks,vs,rfl,rfl⟩))
theorem Rs.ofPtr (s off:Nat):Rs m w β (.pointer (some ⟨β s,off,none⟩)) (.ptr s off):= .inr (.inl ⟨s,off,rfl,rfl⟩)
theorem Rs.ofRow (s sz:Nat) {len cap:Nat} (h:len<=cap):Rs m w β (.slice (some ⟨β s,0,none⟩) len cap) (.row s sz len):= .inr (.inr (.inl ⟨s,sz,len,cap,rfl,rfl,h⟩))
theorem Rs.dat (h:Rs m w β v u) (hu:u.dat=true):Rd m w v u:=h.rd (by cases u<;>first|rfl|(simp[V.dat] at hu))
theorem Rs.x {u:Value} (h:Rs m w β v (.x u)):v=u:=Rd.x_iff.1 (h.rd (by intros;simp))
variable {us:List V}
theorem Rs.agg (h:Rs m w β v (.agg us)):∃cs:Array Value,v= .agg cs∧RdL m w cs.toList us:=Rd.agg_iff.1 (h.rd (by intros;simp))
theorem Rs.tup (h:Rs m w β v (.tup us)):∃cs:Array Value,v= .tuple cs∧RdL m w cs.toList us:=Rd.tup_iff.1 (h.rd (by intros;simp))
theorem Rs.of (h:Rd m w v u):Rs m w β v u:= .inl h
variable {nl:Bool} {es:List V} {tok:Option Nat}
theorem Rs.sl (h:Rs m w β v (.sl nl sz es tok)):∃a cap,v= .slice a es.length cap∧(nl=a.isNone)∧(nl=true->es=[]):=by
 have h:=h.rd (by intros;simp);cases h with
 |nil sz tok=>exact⟨none,0,rfl,rfl,fun _=>rfl⟩
 |emp a cap sz=>exact⟨some a,cap,rfl,rfl,fun _=>rfl⟩
 |sl blk off cap sz es tok c hb hcap hsz hc hm hr=>exact⟨_,cap,rfl,rfl,fun h=>by cases h⟩
theorem Rd.bare (h:Rd m w v u):Rd m w v u.bare:=by
 rw[aX];cases h with
 |nil sz tok=>exact .nil sz none
 |emp a cap sz=>exact .emp a cap sz
 |sl blk off cap sz es tok c hb hcap hsz hc hm hr=>exact .sl blk off cap sz es none c hb hcap hsz hc hm hr
 |undef v=>exact .undef v
 |x v=>exact .x v
 |dyn t v=>exact .dyn t v
 |fm blk ks vs ents clock hb hh hm hk hv hkey hbn hd hr=>exact .fm blk ks vs ents clock hb hh hm hk hv hkey hbn hd hr
 |agg cs Cs hl h=>exact .agg cs Cs hl h
 |tup cs Cs hl h=>exact .tup cs Cs hl h
 |ip blk off cs c hb hc hm hr=>exact .ip blk off cs c hb hc hm hr
theorem Rd.pc (h:Rd m w v u):Rd m w v u.pc:=by
 rw[kn];unfold KG;split
 . cases h with
   |nil sz tok=>exact .nil 0 none
 . rw[<-aX];exact h.bare
theorem Rd.strip (h:Rd m w v u):Rd m w v (bT s u):=by
 rw[aR];cases h with
 |nil sz tok=>cases tok<;>exact .nil sz _
 |emp a cap sz=>exact .emp a cap sz
 |sl blk off cap sz es tok c hb hcap hsz hc hm hr=>cases tok<;>exact .sl blk off cap sz es _ c hb hcap hsz hc hm hr
 |undef v=>exact .undef v
 |x v=>exact .x v
 |dyn t v=>exact .dyn t v
 |fm blk ks vs ents clock hb hh hm hk hv hkey hbn hd hr=>exact .fm blk ks vs ents clock hb hh hm hk hv hkey hbn hd hr
 |agg cs Cs hl h=>exact .agg cs Cs hl h
 |tup cs Cs hl h=>exact .tup cs Cs hl h
 |ip blk off cs c hb hc hm hr=>exact .ip blk off cs c hb hc hm hr
theorem Rs.bare (h:Rs m w β v u):Rs m w β v u.bare:=by
 rcases h with h|⟨s,off,rfl,rfl⟩|⟨s,sz,len,cap,rfl,rfl,hl⟩|⟨s,ks,vs,rfl,rfl⟩
 . exact .inl h.bare
 . rw[li];exact .ofPtr _ _
 . rw[lj];exact .ofRow _ _ hl
 . rw[kV];exact .ofMp _ _ _
theorem Rs.strip (h:Rs m w β v u):Rs m w β v (bT s u):=by
 rcases h with h|⟨s,off,rfl,rfl⟩|⟨s,sz,len,cap,rfl,rfl,hl⟩|⟨s,ks,vs,rfl,rfl⟩
 . exact .inl h.strip
 . rw[aR];exact .ofPtr _ _
 . rw[aR];exact .ofRow _ _ hl
 . rw[aR];exact .ofMp _ _ _
theorem Rs.kill (h:Rs m w β v u):Rs m w β v (dT s u):=by
 rcases i8 s u with⟨e,_⟩|⟨e,_⟩
 . rw[e];exact h
 . rw[e];exact .of (.undef _)
theorem Rs.beta {β':Nat->Nat} (h:Rs m w β v u) (hb:∀s,u.nm=some s->β' s=β s):Rs m w β' v u:=by
 rcases h with h|⟨s,off,rfl,rfl⟩|⟨s,sz,len,cap,rfl,rfl,hl⟩|⟨s,ks,vs,rfl,rfl⟩
 . exact .inl h
 . rw[<-hb s rfl];exact .ofPtr _ _
 . rw[<-hb s rfl];exact .ofRow _ _ hl
 . rw[<-hb s rfl];exact .ofMp _ _ _
variable {t:TypeId}
theorem bl {n:Nat} (h:bg P t=some n):(sizeOf t).run P w= .ok n w:=by
 unfold bg at h;cases hi:P.info? t with
 |none=>simp[hi] at h
 |some i=>simp[hi] at h;subst h;simp[sizeOf,typeInfo,hi]
variable {d:TypeDesc}
theorem av (h:P.underlying t=some d):(underlying t).run P w= .ok d w:=by simp[underlying,h]
theorem gr {b:Bool} (h:aW P t=some b):(isAgg t).run P w= .ok b w:=by
 unfold aW at h;cases hd:P.underlying t with
 |none=>simp[hd] at h
 |some d=>rw[hd] at h;simp only[isAgg,Sem.run_bind,av hd,Result.andThen_ok];cases d<;>simp at h<;>subst h<;>rfl
variable {cs:List V}
theorem eW {vs:Array Value} (hr:RdL m w vs.toList cs) (h:cM P t cs off=some u):
 ∃v,(part t vs off).run P w= .ok v w∧Rd m w v u:=by
 unfold cM at h;cases ha:aW P t with
 |none=>simp[ha] at h
 | some b=>
   cases hs:bg P t with
   |none=>cases b<;>simp[ha,hs] at h
   | some n=>
     cases b with
     | true=>
       simp only[ha,hs] at h;split at h
       . rename_i hle;cases h;refine⟨_,by simp only[part,Sem.run_bind,gr ha,Result.andThen_ok,Qt,bl hs,Sem.run_pure];rfl,?_⟩;rw[Rd.agg_iff];refine⟨_,rfl,RdL.of_get ?_ ?_⟩
         . have:=hr.length;simp at this⊢;omega
         . intro i v u hv hu;simp only[Array.toList_extract,List.extract_eq_take_drop] at hv;rw[P9] at hv hu;split at hv
           . rename_i hi;rw[PO (by omega)] at hu;rw[Qm] at hv hu;exact hr.get _ v u hv hu
           . simp at hv
       . simp at h
     | false=>
       simp only[ha,hs] at h;have hl:=hr.length;have hlt:off<cs.length:=by
        rcases Ql off cs.length with h'|h'
        . exact h'
        . simp[Qc h'] at h
       have hv:vs[off]?=some (vs[off]'(by simp at hl;omega)):=PW _;refine⟨_,by simp only[part,Sem.run_bind,gr ha,Result.andThen_ok,P7,Qr,hv,Sem.run_pure];rfl,?_⟩;exact hr.get off _ u (by simp) h
theorem nt (a b:ByteArray):(a.toList==b.toList)=decide (a=b):=by rw[<-beq_toListBytes];obtain⟨⟨x⟩⟩:=a;obtain⟨⟨y⟩⟩:=b;show((⟨x⟩:Array UInt8)==⟨y⟩)=_;rw[RL];simp
theorem sC (a b:Int):(a==b)=decide (a=b):=by rw[RL];simp
theorem Gy (a b:Int):(a !=b)= !decide (a=b):=by rw[RL];simp
theorem gT (P:Program):∀(d:Nat) (t:TypeId) (x y:Value) (u v:V) (b:Bool),zt P d t u v=some b->Rd m w x u->Rd m w y v->∀D,d<=D->(Op.equalIn D t x y).run P w= .ok b w:=by
 intro d
 induction d with
 |zero=>intro t x y u v b h;simp[zt] at h
 | succ d ih =>
   intro t x y u v b h hx hy D hD;obtain⟨D,rfl⟩:∃D',D=D'+1:=⟨D-1,by omega⟩;unfold zt at h;split at h
   . rename_i a c ht;obtain rfl:=Rd.x_iff.1 hx;obtain rfl:=Rd.x_iff.1 hy;cases h;exact run_equalIn_bool' w D t a c ht
   . rename_i k' k a k'' c ht;obtain rfl:=Rd.x_iff.1 hx;obtain rfl:=Rd.x_iff.1 hy;split at h
     . rename_i hk;cases hk;cases h;rw[<-sC];exact run_equalIn_int w D t _ _ a c ht
     . simp at h
   . rename_i a c ht;obtain rfl:=Rd.x_iff.1 hx;obtain rfl:=Rd.x_iff.1 hy;cases h;rw[<-nt];exact run_equalIn_string w D t a c ht
   . rename_i fs xs ys ht;obtain⟨xa,rfl,hxa⟩:=Rd.agg_iff.1 hx;obtain⟨ya,rfl,hya⟩:=Rd.agg_iff.1 hy;split at h
     . simp at h
     . rename_i hst;have hf:P.fieldsOf t=fs:=by simp[Program.fieldsOf,ht]
       rw[run_equalIn_struct w D t xa ya (by rw[hf];exact ht) (by simp at hst;exact hst),hf];generalize fs.toList=l at h;clear hf ht hst
       induction l generalizing b with
       |nil=>simp[IE] at h;subst h;simp[Op.eqFields]
       | cons f l ihl=>
         unfold IE at h;split at h
         . simp at h
         . rename_i hn;split at h
           . rename_i p q hp hq;split at h
             . rename_i r1 r2 h1 h2;cases h;obtain⟨pv,hpr,hpd⟩:=eW hxa hp;obtain⟨qv,hqr,hqd⟩:=eW hya hq;have h3:=ih _ _ _ _ _ _ h1 hpd hqd D (by omega);have h4:=ihl _ h2;simp only[Op.eqFields,ne_eq,hn,not_false_eq_true,Qt,Sem.run_bind,hpr,hqr,Result.andThen_ok,h3,Sem.run_ite];cases r1
               . simp
               . simp[h4]
             . simp at h
           . simp at h
   . simp at h
variable {op:BinOp}
theorem sD {k:IntKind} {a b:Int} (hop:op≠ .shl∧op≠ .shr) (h:sw op k a b=some u):∃v,(binOp op t (.int k a) (.int k b)).run P w= .ok v w∧Rd m w v u:=by
 obtain⟨h1,h2⟩:=hop;cases op<;>simp only[sw] at h
 all_goals first
  |exact absurd rfl h1
  |exact absurd rfl h2
  |(simp at h;done)
  |(cases h;exact⟨_,by simp[binOp,Op.intArith,Op.intBits,Op.intCmp,sC,Gy,vu,Gv,Dt,sv,fo],.x _⟩)
  | (split at h
     . simp at h
     . rename_i hb;cases h;exact⟨_,by simp[binOp,Op.intDiv,hb,fo],.x _⟩)
theorem sE {a b:ByteArray} (h:sA op a b=some u):∃v,(binOp op t (.string a) (.string b)).run P w= .ok v w∧Rd m w v u:=by
 cases op<;>simp only[sA,zs] at h
 all_goals first
  |(simp at h;done)
  |(cases h;exact⟨_,by simp only[binOp,Op.stringOp,nt,Sem.run_pure],.x _⟩)
  | (split at h
     . simp at h
     . rename_i hb;cases h;exact⟨_,by simp only[binOp,Op.stringOp,hb,Qr,Sem.run_pure],.x _⟩)
end
section
variable {P:Program} {m:Lim} {w:World} {β:Nat->Nat}
theorem gt (v:Value):Rd m w v (dy v):=by
 unfold dy;split
 . exact .nil 0 none
 . exact .x _
variable {us:List V}
theorem RdL.take {vs:List Value} (h:RdL m w vs us) (n:Nat):RdL m w (vs.take n) (us.take n):=by
 refine RdL.of_get (by simp[h.length]) (fun i v u hv hu=>?_);rw[P9] at hv hu;split at hv
 . rename_i hi;rw[PO hi] at hu;exact h.get i v u hv hu
 . simp at hv
theorem RdL.drop {vs:List Value} (h:RdL m w vs us) (n:Nat):RdL m w (vs.drop n) (us.drop n):=by refine RdL.of_get (by simp[h.length]) (fun i v u hv hu=>?_);rw[Qm] at hv hu;exact h.get _ v u hv hu
theorem RdL.append {vs vs':List Value} {us':List V} (h:RdL m w vs us) (h':RdL m w vs' us'):RdL m w (vs++vs') (us++us'):=by
 induction vs generalizing us with
 | nil=>cases us with
   |nil=>exact h'
   |cons u us=>exact h.elim
 | cons v vs ih=>cases us with
   |nil=>exact h.elim
   |cons u us=>exact⟨h.1,ih h.2⟩
theorem pB (l:List Value):∀(off j:Nat) (cs:Array Value),off+j+l.length<=cs.size->
 ((l.zipIdx j).foldl (fun cs (p:Value×Nat)=>cs.setIfInBounds (off+p.2) p.1) cs).toList=cs.toList.take (off+j)++l++cs.toList.drop (off+j+l.length):=by
 induction l with
 |nil=>intro off j cs h;simp
 | cons c l ih=>
   intro off j cs h;simp only[P5] at h;rw[List.zipIdx_cons,List.foldl_cons,ih off (j+1) _ (by simp;omega)];simp only[Array.toList_setIfInBounds,P5];have hlt:off+j<cs.toList.length:=by simp;omega
   apply QI;intro k;simp only[List.getElem?_append,PP,P8,RW,P9,Qm,RC,P5];simp only[PR];by_cases h1:k<off+j
   . rw[PO (by omega),PO (by omega),PO (by omega),PS (by omega),PO (by omega),PO (by omega),PO (by omega)]
   . by_cases h2:k=off+j
     . subst h2;rw[PO (by omega),PO (by omega),PO (by omega),PO rfl,PO (by omega),PO (by omega),PS (by omega)];have:off+j-min (off+j) cs.size=0:=by omega
       simp[this]
     . by_cases h3:k<off+j+1+l.length
       . rw[PO (by omega),PS (by omega),PO (by omega),PS (by omega)];have:k-min (off+j) cs.size=(k-min (off+(j+1)) cs.size)+1:=by omega
         rw[this,RA]
       . rw[PS (by omega),PS (by omega),PS (by omega)];congr 1;omega
theorem eX {place:Nat->Option (Nat×Nat)}:∀{parts:List (Nat×V)} {vs:List (Nat×Value)} {cells:List V} {cs:Array Value} {us:List V},
 RdL m w cs.toList cells->(vs.map (·.1)=parts.map (·.1))->(∀(i:Nat) (v:Nat×Value) (u:Nat×V),vs[i]?=some v->parts[i]?=some u->Rs m w β v.2 u.2)->
 ja place cells parts=some us->∃cs',Instr.fill place cs vs=some cs'∧RdL m w cs'.toList us
 | [],vs,cells,cs,us,hr,hm,_,h=>by
   cases vs with
   |nil=>simp[ja] at h;subst h;exact⟨cs,rfl,hr⟩
   |cons v vs=>simp at hm
 | (i, u)::parts,vs,cells,cs,us,hr,hm,hv,h=>by
   cases vs with
   |nil=>simp at hm
   | cons v vs=>
     obtain⟨i',v⟩:=v;simp only[QU,QN] at hm;obtain⟨rfl,hm⟩:=hm;unfold ja at h;split at h
     . simp at h
     . rename_i off size hp;split at h
       . simp at h
       . rename_i hc;simp only[not_or,Bool.not_eq_false,ne_eq,Decidable.not_not,Qw] at hc;obtain⟨hd,hl,hle⟩:=hc;have hru:Rd m w v u:=(hv 0 _ _ rfl rfl).dat hd;have hcells:=hru.cells (by rintro rfl;simp[V.dat] at hd) (by rintro a rfl;simp[V.dat] at hd);have hlen:=hcells.length;have hlc:=hr.length;simp at hlen hlc;have hset:=pB v.cells.toList off 0 cs (by simp;omega);simp only[iO] at hset;unfold Instr.fill;rw[hp];simp only;rw[PS (by simp;omega)];rw[<-Array.foldl_toList,Array.toList_zipIdx];refine eX ?_ hm (fun k a b ha hb=>hv (k+1) a b (by simpa using ha) (by simpa using hb)) h;rw[hset];have:=((hr.take off).append hcells).append (hr.drop (off+size));simpa[hlen,hl] using this
variable {t:TypeId}
theorem eY {z:List V} (h:aE P t=some z):∃v:Value,(zeroValue t).run P w= .ok v w∧RdL m w v.cells.toList z:=by
 unfold aE at h;cases hi:P.info? t with
 |none=>simp[hi] at h
 | some i=>
   cases hz:i.zero with
   |none=>simp[hi,hz] at h
   |some v=>simp[hi,hz] at h;subst h;refine⟨v,by simp[zeroValue,typeInfo,hi,hz],RdL.of_get (by simp) (fun k a u ha hu=>?_)⟩;simp only[PF,PK] at hu;obtain⟨a',ha',rfl⟩:=hu;rw[ha] at ha';cases ha';exact gt _
theorem pC (fs:List Field) (l:List (Nat×Nat)) (h:fs.mapM (fun f=>(bg P f.type).map fun n=>(f.offset,n))=some l):
 (fs.mapM (fun f=>(do pure (f.offset,<-sizeOf f.type):Sem (Nat×Nat)))).run P w= .ok l w:=by
 induction fs generalizing l with
 |nil=>simp at h;subst h;simp
 | cons f fs ih=>
   simp only[R5] at h⊢;cases hs:bg P f.type with
   |none=>simp[hs] at h
   | some n=>
     cases hr:fs.mapM (fun f=>(bg P f.type).map fun n=>(f.offset,n)) with
     |none=>simp[hs,hr] at h
     |some r=>simp[hs,hr] at h;subst h;simp only[Sem.run_bind,bl hs,Result.andThen_ok,Sem.run_pure,ih r hr]
theorem f9 (d:Nat) {t e:TypeId} (ht:P.underlying t=some (.slice e)) (a:Option Addr) (n c n' c':Nat):
 (Op.equalIn (d+1) t (.slice a n c) (.slice none n' c')).run P w= .ok a.isNone w:=by
 cases a<;>simp only[Op.equalIn,Sem.run_bind,av ht,Result.andThen_ok,Sem.run_pure,Option.isNone_none,Option.isNone_some]
theorem gd (d:Nat) {t t1:TypeId} {ms:Array (String×TypeId)} (ht:P.underlying t=some (.interface ms)) (v:Value):(Op.equalIn (d+1) t (.iface t1 v) .nilIface).run P w= .ok false w:=by simp only[Op.equalIn,Sem.run_bind,av ht,Result.andThen_ok,Sem.run_pure]
theorem fp (d:Nat) {t:TypeId} {ms:Array (String×TypeId)} (ht:P.underlying t=some (.interface ms)):(Op.equalIn (d+1) t .nilIface .nilIface).run P w= .ok true w:=by simp only[Op.equalIn,Sem.run_bind,av ht,Result.andThen_ok,Sem.run_pure]
theorem ge (d:Nat) {t e:TypeId} (ht:P.underlying t=some (.pointer e)) (a:Addr):(Op.equalIn (d+1) t (.pointer (some a)) (.pointer none)).run P w= .ok false w:=by simp only[Op.equalIn,Sem.run_bind,av ht,Result.andThen_ok,Sem.run_pure]
variable {op:BinOp} {xo yo:Operand}
theorem ow {x:Value} {ad:Addr} (hx:x= .pointer (some ad)) (h:(match op,P.underlying t with
 | .eql,some (.pointer _)=>some (V.bool false)
 | .neq,some (.pointer _)=>some (V.bool true)
 |_,_=>none)=some u):∃v,((do eqGuard op t xo yo x (.pointer none);binOp op t x (.pointer none):Sem Value)).run P w= .ok v w∧Rd m w v u:=by
 subst hx;have hg:(eqGuard op t xo yo (.pointer (some ad)) (.pointer none)).run P w= .ok () w:=by cases op<;>simp[eqGuard]
 simp only[Sem.run_bind,hg,Result.andThen_ok];split at h
 . rename_i e ht;cases h;have heq:(Op.equal t (.pointer (some ad)) (.pointer none)).run P w= .ok false w:=ge 9999 ht ad;exact⟨_,by simp[binOp,heq],.x _⟩
 . rename_i e ht;cases h;have heq:(Op.equal t (.pointer (some ad)) (.pointer none)).run P w= .ok false w:=ge 9999 ht ad;exact⟨_,by simp[binOp,heq],.x _⟩
 . cases h
theorem jM (h:(Do xo||Do yo)=true):(eqGuard op t xo yo .nilIface .nilIface).run P w= .ok () w:=by
 cases xo with
 |const v=>cases op<;>simp[eqGuard]
 | tmp i=>cases yo with
   |const v=>cases op<;>simp[eqGuard]
   |_=>simp[Do] at h
 | global i=>cases yo with
   |const v=>cases op<;>simp[eqGuard]
   |_=>simp[Do] at h
 | func i=>cases yo with
   |const v=>cases op<;>simp[eqGuard]
   |_=>simp[Do] at h
variable {y:Value}
theorem sF {x:Value} {a b:V} (hx:Rs m w β x a) (hy:Rs m w β y b) (h:sB P (Do xo||Do yo) op t a b=some u):
 ∃v,((do eqGuard op t xo yo x y;binOp op t x y:Sem Value)).run P w= .ok v w∧Rd m w v u:=by
 unfold sB at h;split at h
 . rename_i k p k' q;obtain rfl:=hx.x;obtain rfl:=hy.x;have hg:(eqGuard op t xo yo (.int k p) (.int k' q)).run P w= .ok () w:=by cases op<;>simp[eqGuard]
   simp only[Sem.run_bind,hg,Result.andThen_ok];split at h
   . split at h
     . simp at h
     . rename_i hb;cases h;exact⟨_,by simp[binOp,Op.shift,hb,Du],.x _⟩
   . split at h
     . simp at h
     . rename_i hb;cases h;exact⟨_,by simp[binOp,Op.shift,hb,Dv],.x _⟩
   . split at h
     . rename_i h1 h2 hk;subst hk;exact sD ⟨h1,h2⟩ h
     . simp at h
 . obtain rfl:=hx.x;obtain rfl:=hy.x;rename_i p q;have hg:(eqGuard op t xo yo (.string p) (.string q)).run P w= .ok () w:=by cases op<;>simp[eqGuard]
   simp only[Sem.run_bind,hg,Result.andThen_ok];exact sE h
 . obtain rfl:=hx.x;obtain rfl:=hy.x;rename_i p q;have hg:(eqGuard op t xo yo (.bool p) (.bool q)).run P w= .ok () w:=by cases op<;>simp[eqGuard]
   simp only[Sem.run_bind,hg,Result.andThen_ok];split at h
   . rename_i ht;cases h;exact⟨_,by simp[binOp,Op.equal,Op.maxDepth,run_equalIn_bool' w 9999 t p q ht],.x _⟩
   . rename_i ht;cases h;exact⟨_,by simp[binOp,Op.equal,Op.maxDepth,run_equalIn_bool' w 9999 t p q ht],.x _⟩
   . simp at h
 . rename_i xs ys;obtain⟨xa,rfl,hxa⟩:=hx.agg;obtain⟨ya,rfl,hya⟩:=hy.agg;split at h
   . simp at h
   . rename_i hgt;have hg:=run_eqGuard_agg (P:=P) w op t xo yo xa ya (by simpa using hgt);simp only[Sem.run_bind,hg,Result.andThen_ok];split at h
     . rename_i r hr;cases h;have:=gT (w:=w) (m:=m) P 20 t _ _ _ _ _ hr (Rd.agg_iff.2 ⟨xa,rfl,hxa⟩) (Rd.agg_iff.2 ⟨ya,rfl,hya⟩) 10000 (by decide);exact⟨_,by rw[run_eql_struct,this];rfl,.x _⟩
     . rename_i r hr;cases h;have:=gT (w:=w) (m:=m) P 20 t _ _ _ _ _ hr (Rd.agg_iff.2 ⟨xa,rfl,hxa⟩) (Rd.agg_iff.2 ⟨ya,rfl,hya⟩) 10000 (by decide);exact⟨_,by rw[run_neq_struct,this];rfl,.x _⟩
     . simp at h
 . rename_i na IR es1 tk nb OJ es tk2;obtain⟨a1,c1,rfl,hn1,_⟩:=hx.sl;obtain⟨a2,c2,rfl,hn2,_⟩:=hy.sl;have hg:(eqGuard op t xo yo (.slice a1 es1.length c1) (.slice a2 es.length c2)).run P w= .ok () w:=by cases op<;>simp[eqGuard]
   simp only[Sem.run_bind,hg,Result.andThen_ok];split at h
   . rename_i e ht;split at h
     . rename_i hb;cases h;simp only[PG] at hb;obtain⟨hb,_⟩:=hb;subst hb;have h2:a2=none:=by simpa using hn2.symm
       subst h2;have heq:(Op.equal t (.slice a1 es1.length c1) (.slice none es.length c2)).run P w= .ok na w:=by rw[hn1];exact f9 9999 ht _ _ _ _ _
       exact⟨_,by simp[binOp,heq],.x _⟩
     . simp at h
   . rename_i e ht;split at h
     . rename_i hb;cases h;simp only[PG] at hb;obtain⟨hb,_⟩:=hb;subst hb;have h2:a2=none:=by simpa using hn2.symm
       subst h2;have heq:(Op.equal t (.slice a1 es1.length c1) (.slice none es.length c2)).run P w= .ok na w:=by rw[hn1];exact f9 9999 ht _ _ _ _ _
       exact⟨_,by simp[binOp,heq],.x _⟩
     . simp at h
   . simp at h
 . rename_i t1;obtain rfl:=hy.x;have hd:=hx.rd (by intros;simp);cases hd with
   | dyn _ v=>
     have hg:(eqGuard op t xo yo (.iface t1 v) .nilIface).run P w= .ok () w:=by cases op<;>simp[eqGuard]
     simp only[Sem.run_bind,hg,Result.andThen_ok];split at h
     . rename_i ms ht;cases h;have heq:(Op.equal t (.iface t1 v) .nilIface).run P w= .ok false w:=gd 9999 ht v;exact⟨_,by simp[binOp,heq],.x _⟩
     . rename_i ms ht;cases h;have heq:(Op.equal t (.iface t1 v) .nilIface).run P w= .ok false w:=gd 9999 ht v;exact⟨_,by simp[binOp,heq],.x _⟩
     . simp at h
 . obtain rfl:=hy.x;have hd:=hx.rd (by intros;simp);cases hd with
   |ip blk off cs c hb hc hm hr=>exact ow rfl h
 . obtain rfl:=hy.x;exact ow hx.ptr h
 . obtain rfl:=hx.x;obtain rfl:=hy.x;split at h
   . rename_i hlit;have hg:(eqGuard op t xo yo .nilIface .nilIface).run P w= .ok () w:=jM hlit;simp only[Sem.run_bind,hg,Result.andThen_ok];split at h
     . rename_i ms ht;cases h;have heq:(Op.equal t .nilIface .nilIface).run P w= .ok true w:=fp 9999 ht;exact⟨_,by simp[binOp,heq],.x _⟩
     . rename_i ms ht;cases h;have heq:(Op.equal t .nilIface .nilIface).run P w= .ok true w:=fp 9999 ht;exact⟨_,by simp[binOp,heq],.x _⟩
     . simp at h
   . simp at h
 . simp at h
end
def MapRd (m:Lim) (w:World):List MapEntry->List V->List V->Prop
 |[],[],[]=>True
 |e::es,k::ks,v::vs=>(plainK k=true∧k.val=some e.key)∧(v.dat=true∧Rd m w e.val v)∧MapRd m w es ks vs
 |_,_,_=>False
def MapAt (m:Lim) (w:World) (g:Nat) (ks vs:List V):Prop:=
 ∃ents clock,w.heap[g]?=some (.map ents clock)∧MapRd m w ents.toList ks vs∧(∀e∈ents.toList,e.born<clock)∧(ents.toList.map (·.born)).Nodup∧m g=some 0
section
variable {P:Program} {m:Lim} {w:World} {β:Nat->Nat}
theorem MapRd.mono {m':Lim} {w':World} (he:Ext m w m' w'):∀{es:List MapEntry} {ks vs:List V},MapRd m w es ks vs->MapRd m' w' es ks vs
 |[],[],[],_=>trivial
 |_::_,_::_,_::_,h=>⟨h.1,⟨h.2.1.1,h.2.1.2.mono he⟩,MapRd.mono he h.2.2⟩
theorem MapRd.len:∀{es:List MapEntry} {ks vs:List V},MapRd m w es ks vs->es.length=ks.length∧es.length=vs.length
 |[],[],[],_=>⟨rfl,rfl⟩
 |_::_,_::_,_::_,h=>by obtain⟨h1,h2⟩:=MapRd.len h.2.2;exact⟨by simp[h1],by simp[h2]⟩
theorem MapRd.get:∀{es:List MapEntry} {ks vs:List V},MapRd m w es ks vs->∀(i:Nat) (e:MapEntry),es[i]?=some e->∃k v,ks[i]?=some k∧vs[i]?=some v∧(plainK k=true∧k.val=some e.key)∧v.dat=true∧Rd m w e.val v
 |[],[],[],_,i,e,he=>by simp at he
 |e0::es,k0::ks,v0::vs,h,0,e,he=>by simp at he;subst he;exact⟨k0,v0,rfl,rfl,h.1,h.2.1⟩
 |e0::es,k0::ks,v0::vs,h,i+1,e,he=>MapRd.get h.2.2 i e (by simpa using he)
theorem MapRd.snoc:∀{es:List MapEntry} {ks vs:List V},MapRd m w es ks vs->∀{e:MapEntry} {k v:V},(plainK k=true∧k.val=some e.key)->(v.dat=true∧Rd m w e.val v)->MapRd m w (es++[e]) (ks++[k]) (vs++[v])
 |[],[],[],_,_,_,_,h1,h2=>⟨h1,h2,trivial⟩
 |_::_,_::_,_::_,h,_,_,_,h1,h2=>⟨h.1,h.2.1,MapRd.snoc h.2.2 h1 h2⟩
theorem MapRd.set:∀{es:List MapEntry} {ks vs:List V},MapRd m w es ks vs->∀(i:Nat) {e:MapEntry} {v:V},(∃e0,es[i]?=some e0∧e0.key=e.key)->(v.dat=true∧Rd m w e.val v)->MapRd m w (es.set i e) ks (vs.set i v)
 |[],[],[],_,i,_,_,⟨e0,h0,_⟩,_=>by simp at h0
 |e1::_,_::_,_::_,h,0,e,_,⟨e0,h0,hk⟩,h2=>by simp at h0;subst h0;exact⟨⟨h.1.1,by rw[h.1.2,hk]⟩,h2,h.2.2⟩
 |_::_,_::_,_::_,h,i+1,_,_,⟨e0,h0,hk⟩,h2=>⟨h.1,h.2.1,MapRd.set h.2.2 i ⟨e0,by simpa using h0,hk⟩ h2⟩
theorem Rd.one_is {x:Value} (h:Rd m w v u) (hu:u.one=some x):v=x:=by
 cases u with
 |x u=>cases hu;exact Rd.x_iff.1 h
 |_=>simp[V.one] at hu
theorem Rd.ones:∀{vs:List Value} {us:List V} {xs:List Value},RdL m w vs us->us.mapM V.one=some xs->vs=xs
 |[],[],xs,_,h=>by simp at h;exact h.symm
 | v ::vs,u::us,xs,hr,h=>by
   rw[R5] at h;cases ho:u.one with
   |none=>rw[ho] at h;cases h
   | some y=>
     rw[ho] at h;simp only[Option.pure_def,Option.bind_eq_bind,QQ] at h;cases hm:us.mapM V.one with
     |none=>rw[hm] at h;cases h
     |some r=>rw[hm] at h;cases h;rw[Rd.ones hr.2 hm,hr.1.one_is ho]
theorem Rd.val_is {x:Value} (h:Rd m w v u) (hu:u.val=some x):v=x:=by
 cases u with
 |x u=>cases hu;exact Rd.x_iff.1 h
 |agg cs=>obtain⟨a,rfl,hr⟩:=Rd.agg_iff.1 h;simp only[V.val,PK] at hu;obtain⟨l,hl,rfl⟩:=hu;have:=Rd.ones hr hl;rw[<-this]
 |_=>simp[V.val] at hu
theorem nu (h:plainK u=true):∃x,u.val=some x:=by
 cases u with
 |x v=>exact⟨v,rfl⟩
 | agg cs=>
   have key:∀cs:List V,(cs.all fun c=>match c with| .x (.int _ _)=>true| .x (.string _)=>true| .x (.bool _)=>true|_=>false)=true->∃l,cs.mapM V.one=some l:=by
    intro cs
    induction cs with
    |nil=>intro _;exact⟨[],rfl⟩
    | cons c cs ih=>
      intro h;simp only[Rf,PG] at h;obtain⟨l,hl⟩:=ih h.2;have:∃v,c= .x v:=by have:=h.1;split at this<;>first|exact⟨_,rfl⟩|cases this
      obtain⟨v,rfl⟩:=this;exact⟨v::l,by rw[R5,hl];rfl⟩
   obtain⟨l,hl⟩:=key cs h;exact⟨.agg l.toArray,by simp[V.val,hl]⟩
 |_=>simp[plainK] at h
theorem iq (h:(match v with| .int _ _=>true| .string _=>true| .bool _=>true|_=>false)=true) (n:Nat):Instr.sameBits n v v=true:=by cases v<;>simp[Instr.sameBits,MapKept.bytes_beq] at h⊢
theorem lq {x:Value} (h:plainK u=true) (hx:u.val=some x):Instr.sameBits 10000 x x=true:=by
 cases u with
 |x v=>cases hx;exact iq (by revert h;cases x<;>simp[plainK]) _
 | agg cs=>
   simp only[V.val,PK] at hx;obtain⟨l,hl,rfl⟩:=hx;simp only[Instr.sameBits,beq_self_eq_true,Ru,PJ];have key:∀(cs:List V) (l:List Value),cs.mapM V.one=some l->(cs.all fun c=>match c with| .x (.int _ _)=>true| .x (.string _)=>true| .x (.bool _)=>true|_=>false)=true->∀p∈l.zip l,Instr.sameBits 9999 p.1 p.2=true:=by
    intro cs
    induction cs with
    |nil=>intro l hl _ p hp;simp at hl;subst hl;simp at hp
    | cons c cs ih=>
      intro l hl h p hp;simp only[Rf,PG] at h;obtain⟨h1,h2⟩:=h;rw[R5] at hl;have:∃v,c= .x v∧(match v with| .int _ _=>true| .string _=>true| .bool _=>true|_=>false)=true:=by split at h1<;>first|exact⟨_,rfl,rfl⟩|cases h1
      obtain⟨v,rfl,hv⟩:=this;simp only[V.one,Option.pure_def,Option.bind_eq_bind,QQ] at hl;cases hm:cs.mapM V.one with
      |none=>rw[hm] at hl;cases hl
      | some r=>
        rw[hm] at hl;cases hl;simp only[List.zip_cons_cons,PY] at hp;rcases hp with rfl|hp
        . exact iq hv _
        . exact ih r hm h2 p hp
   rintro⟨a,b⟩ hp;exact key cs l hl h (a,b) (by simpa using hp)
 |_=>simp[plainK] at h
theorem nv {x:Value} (h:plainK u=true) (hx:u.val=some x):(Instr.keyThatStays x x).run P w= .ok x w:=by simp[Instr.keyThatStays,lq h hx]
theorem dv (em:Bool):∀(d:Nat) (t:TypeId) (v:Value) (u:V),pz P d t u=true->Rd m w v u->∀n,d<=n->(Instr.checkKey em n t v).run P w= .ok () w:=by
 intro d
 induction d with
 |zero=>intro t v u h;simp[pz] at h
 | succ d ih=>
   intro t v u h hr n hn;obtain⟨n,rfl⟩:∃n',n=n'+1:=⟨n-1,by omega⟩;unfold pz at h;split at h
   . rename_i ht;obtain rfl:=Rd.x_iff.1 hr;simp[Instr.checkKey,av ht]
   . rename_i ht;obtain rfl:=Rd.x_iff.1 hr;simp[Instr.checkKey,av ht]
   . rename_i ht;obtain rfl:=Rd.x_iff.1 hr;simp[Instr.checkKey,av ht]
   . rename_i fs cs ht;obtain⟨xa,rfl,hxa⟩:=Rd.agg_iff.1 hr;rw[Instr.checkKey];simp only[Sem.run_bind,av ht,Result.andThen_ok];rw[<-Array.forIn_toList];generalize fs.toList=l at h;clear ht hr
     induction l with
     |nil=>simp
     | cons f l ihl=>
       simp only[Rf,PG,Qa] at h;obtain⟨⟨h1,h2⟩,h3⟩:=h;split at h2
       case h_2=>cases h2
       rename_i p hp;obtain⟨pv,hpr,hpd⟩:=eW (w:=w) hxa hp;have h4:=ih _ _ _ h2 hpd n (by omega);simp only[List.forIn_cons,Sem.run_bind,ne_eq,h1,not_false_eq_true,Qt,hpr,Result.andThen_ok,h4,Sem.run_pure];exact ihl h3
   . cases h
theorem eZ {kt:TypeId} {x:Value} {k:V} (hx:Rd m w x k):∀(es:List MapEntry) (ks vs:List V) (i:Nat) (r:Option Nat),MapRd m w es ks vs->gf P kt k ks i=some r->(∀(k':V),k'∈ks->∀x',k'.val=some x'->Rd m w x' k')->
 (Instr.findAsking kt x es i).run P w= .ok (r.map fun j=>(j,((es[j-i]?).map (·.val)).getD Go.undef)) w∧∀j,r=some j->i<=j∧j-i<es.length
 |[],[],[],i,r,_,h,_=>by simp[gf] at h;subst h;exact⟨by simp[Instr.findAsking],fun j h=>by cases h⟩
 | e ::es,k'::ks,v::vs,i,r,hm,h,hk=>by
   obtain⟨⟨hp,hkv⟩,hv,hm'⟩:=hm;unfold gf at h;split at h
   . rename_i he;cases h;have:=gT (w:=w) (m:=m) P 20 kt x e.key k k' true he hx (hk k' (by simp) _ hkv) Op.maxDepth (by decide);refine⟨?_,fun j hj=>by cases hj;exact⟨PB _,by simp⟩⟩;simp[Instr.findAsking,Op.equal,this]
   . rename_i he;have hf:=gT (w:=w) (m:=m) P 20 kt x e.key k k' false he hx (hk k' (by simp) _ hkv) Op.maxDepth (by decide);obtain⟨h1,h2⟩:=eZ hx es ks vs (i+1) r hm' h (fun k'' hk''=>hk k'' (P4 _ hk''));refine⟨?_,fun j hj=>by have:=h2 j hj;simp only[P5];omega⟩;simp only[Instr.findAsking,Op.equal,Sem.run_bind,hf,Result.andThen_ok,P7,Qr,h1];congr 1;cases r with
     |none=>rfl
     |some j=>have:=h2 j rfl;simp only[Qd];rw[show j-i=(j-(i+1))+1 from by omega,RA]
   . cases h
variable {kt:TypeId} {d:TypeDesc}
theorem vB (ht:P.underlying kt=some d) {k k':V} {x y:Value} {b:Bool} (h:zt P 20 kt k k'=some b) (hk:k.val=some x) (hk':k'.val=some y) (hd:∀fs,d≠ .struct fs):Instr.sameNow d x y=some b:=by
 unfold zt at h;rw[ht] at h;split at h
 . rename_i a c hd';cases hd';cases hk;cases hk';cases h;simp only[Instr.sameNow]
 . rename_i kk k1 a k2 c hd';cases hd';cases hk;cases hk';split at h
   . rename_i he;cases h;simp[Instr.sameNow,he,sC]
   . cases h
 . rename_i a c hd';cases hd';cases hk;cases hk';cases h;simp only[Instr.sameNow,QW];rw[RL,MapKept.bytes_beq,Qa]
 . rename_i fs xs ys hd';cases hd';exact absurd rfl (hd fs)
 . cases h
theorem pD {kt:TypeId} {d:TypeDesc} (ht:P.underlying kt=some d) (hd:∀fs,d≠ .struct fs) {x:Value} {k:V} (hx:k.val=some x):∀(es:List MapEntry) (ks vs:List V) (i:Nat) (r:Option Nat),MapRd m w es ks vs->gf P kt k ks i=some r->
 Instr.findNow d x es i=some (r.map fun j=>(j,((es[j-i]?).map (·.val)).getD Go.undef))∧∀j,r=some j->i<=j∧j-i<es.length
 |[],[],[],i,r,_,h=>by simp[gf] at h;subst h;exact⟨rfl,fun j h=>by cases h⟩
 | e ::es,k'::ks,v::vs,i,r,hm,h=>by
   obtain⟨⟨hp,hkv⟩,hv,hm'⟩:=hm;unfold gf at h;split at h
   . rename_i he;cases h;refine⟨?_,fun j hj=>by cases hj;exact⟨PB _,by simp⟩⟩;simp[Instr.findNow,vB ht he hx hkv hd]
   . rename_i he;obtain⟨h1,h2⟩:=pD ht hd hx es ks vs (i+1) r hm' h;refine⟨?_,fun j hj=>by have:=h2 j hj;simp only[P5];omega⟩;simp only[Instr.findNow,vB ht he hx hkv hd,h1];cases r with
     |none=>rfl
     |some j=>have:=h2 j rfl;simp only[Qd];rw[show j-i=(j-(i+1))+1 from by omega,RA]
   . cases h
theorem dz:∀{u:V} {x:Value},u.val=some x->Rd m w x u
 | .x v,x,h=>by cases h;exact .x _
 | .agg cs,x,h=>by
   simp only[V.val,PK] at h;obtain⟨l,hl,rfl⟩:=h;refine Rd.agg_iff.2 ⟨_,rfl,?_⟩;have key:∀(cs:List V) (l:List Value),cs.mapM V.one=some l->RdL m w l cs:=by
    intro cs
    induction cs with
    |nil=>intro l hl;simp at hl;subst hl;trivial
    | cons c cs ih=>
      intro l hl;rw[R5] at hl;cases ho:c.one with
      |none=>rw[ho] at hl;cases hl
      | some y=>
        rw[ho] at hl;simp only[Option.pure_def,Option.bind_eq_bind,QQ] at hl;cases hm:cs.mapM V.one with
        |none=>rw[hm] at hl;cases hl
        | some r=>
          rw[hm] at hl;cases hl;refine⟨?_,ih r hm⟩;cases c with
          |x v=>cases ho;exact .x _
          |_=>simp[V.one] at ho
   exact key cs l hl
 | .tup _,x,h=>by simp[V.val] at h
 | .sl ..,x,h=>by simp[V.val] at h
 | .ptr ..,x,h=>by simp[V.val] at h
 | .ip _,x,h=>by simp[V.val] at h
 | .dyn _,x,h=>by simp[V.val] at h
 | .row ..,x,h=>by simp[V.val] at h
 | .bx _,x,h=>by simp[V.val] at h
 | .mp ..,x,h=>by simp[V.val] at h
 | .undef,x,h=>by simp[V.val] at h
variable {k:V}
theorem cJ {x:Value} (hok:dF P kt k=true) (hx:Rd m w x k) {es:List MapEntry} {ks vs:List V} {r:Option Nat} (hm:MapRd m w es ks vs) (h:gf P kt k ks 0=some r):
 (Instr.findKey kt x es).run P w= .ok (r.map fun j=>(j,((es[j]?).map (·.val)).getD Go.undef)) w∧(∀j,r=some j->j<es.length)∧k.val=some x∧plainK k=true:=by
 simp only[dF,PG] at hok;obtain⟨hpl,hkb⟩:=hok;obtain⟨x',hx'⟩:=nu hpl;obtain rfl:=hx.val_is hx';refine⟨?_,?_,hx',hpl⟩
 . cases hu:P.underlying kt with
   |none=>unfold pz at hkb;rw[hu] at hkb;cases hkb
   | some d=>
     by_cases hs:∃fs,d= .struct fs
     . obtain⟨fs,rfl⟩:=hs;have h1:=(eZ hx es ks vs 0 r hm h (fun k' _ x' hx'=>dz hx')).1;simp only[Nat.sub_zero] at h1;cases es with
       | nil=>
         have h2:=(eZ hx [] ks vs 0 r hm h (fun k' _ x' hx'=>dz hx')).2;cases r with
         |none=>simp[Instr.findKey,av hu,Instr.findNow]
         |some j=>have:=h2 j rfl;simp at this
       |cons e es=>simp only[Instr.findKey,Sem.run_bind,av hu,Result.andThen_ok,Instr.findNow,Instr.sameNow];exact h1
     . have h1:=(pD hu (fun fs e=>hs ⟨fs,e⟩) hx' es ks vs 0 r hm h).1;simp only[Nat.sub_zero] at h1;simp only[Instr.findKey,Sem.run_bind,av hu,Result.andThen_ok,h1,Sem.run_pure]
 . intro j hj;cases hu:P.underlying kt with
   |none=>unfold pz at hkb;rw[hu] at hkb;cases hkb
   |some d=>have:=(eZ hx es ks vs 0 r hm h (fun k' _ x' hx'=>dz hx')).2 j hj;simpa using this.2
variable {t:TypeId}
theorem e6 (h:aL P t=some u):∃v:Value,(zeroValue t).run P w= .ok v w∧Rd m w v u:=by
 unfold aL at h;cases hi:P.info? t with
 |none=>simp[hi] at h
 | some i=>
   cases hz:i.zero with
   |none=>simp[hi,hz] at h
   | some v=>
     refine⟨v,by simp[zeroValue,typeInfo,hi,hz],?_⟩;simp only[hi,hz,QQ] at h;split at h
     . rename_i cs he;cases he;cases h;refine Rd.agg_iff.2 ⟨_,rfl,RdL.of_get (by simp) (fun k a u ha hu=>?_)⟩;simp only[PF,PK] at hu;obtain⟨a',ha',rfl⟩:=hu;rw[ha] at ha';cases ha';exact gt _
     . rename_i he;cases he;cases h;exact gt _
     . cases h
variable {g:Nat}
theorem iC {ents ents':Array MapEntry} {clock clock':Nat} (hh:w.heap[g]?=some (.map ents clock)) (hlim:m g=some 0):Ext m w m {w with heap:=w.heap.setIfInBounds g (.map ents' clock')}:=by
 refine⟨by simp,fun blk off v hb _ hc=>?_,fun blk hb fr hf=>⟨fr,hf,PB _⟩,fun blk es c hm hc=>?_⟩
 rotate_left
 . rw[(MapKept.heap_set hh).2 blk (by rintro rfl;rw[hlim] at hm;cases hm)];exact hc
 by_cases e:blk=g
 . subst e;simp[World.cell?,hh] at hc
 . simp only[World.cell?] at hc⊢;rw[(MapKept.heap_set hh).2 blk e];exact hc
variable {vs:List V} {y:Value}
theorem lr {ks ks' vs':List V} {x:Value} {v:V} (hm:MapAt m w g ks vs) (hx:Rd m w x k) (hy:Rd m w y v) (h:putM P t ks vs k v=some (ks',vs')):
 ∃ents clock,(Instr.mapUpdate t (.map (some g)) x y).run P w= .ok () {w with heap:=w.heap.setIfInBounds g (.map ents clock)}∧MapAt m {w with heap:=w.heap.setIfInBounds g (.map ents clock)} g ks' vs'∧(∃e0 c0,w.heap[g]?=some (.map e0 c0)):=by
 obtain⟨ents,clock,hh,hrd,hborn,hnd,hlim⟩:=hm;unfold putM at h;split at h
 case h_2=>cases h
 rename_i kt et hu;split at h
 case isFalse=>cases h
 rename_i hc;obtain⟨hok,hvd⟩:=hc;have hck:(Instr.checkKey false 10000 kt x).run P w= .ok () w:=by simp only[dF,PG] at hok;exact dv _ 20 kt x k hok.2 hx 10000 (by omega)
 split at h
 . rename_i i hg;split at h
   case isFalse=>cases h
   rename_i hki;cases h;obtain⟨hf,hlt,hxv,hpl⟩:=cJ hok hx hrd hg;have hlt:=hlt i rfl;have he:ents.toList[i]?=some (ents.toList[i]):=Io hlt;have he':ents[i]?=some (ents.toList[i]):=by rw[<-PN];exact he
   obtain⟨k',v',hk',hv',⟨_,hkv⟩,_,hrv⟩:=hrd.get i _ he;rw[hki] at hk';cases hk';have hkey:(ents.toList[i]).key=x:=by rw[hxv] at hkv;exact(QE hkv).symm
   refine⟨ents.modify i fun e=>{e with key:=x,val:=y},clock,?_,⟨_,_,(MapKept.heap_set hh).1,?_,?_,?_,hlim⟩,ents,clock,hh⟩
   . simp only[Qd,he,QV] at hf;have hst:(Instr.keyThatStays (((ents[i]?).map (·.key)).getD x) x).run P w= .ok x w:=by rw[he',Qd,QV,hkey];exact nv hpl hxv
     simp only[Instr.mapUpdate,Sem.run_bind,av hu,Result.andThen_ok,MapKept.run_getObj_map hh,hck,hf,hst,MapKept.run_setObj_map _ hh]
   . have e1:(ents.modify i fun e=>{e with key:=x,val:=y}).toList=ents.toList.set i {(ents.toList[i]) with key:=x,val:=y}:=by
      apply QI;intro j;rw[PN,QY,RC];by_cases hj:i=j
      . subst hj;simp[he'];simpa using hlt
      . simp[hj]
     rw[e1];exact(hrd.set i ⟨_,he,hkey⟩ ⟨hvd,hy⟩).mono (iC hh hlim)
   . intro e hm';rw[Q8] at hm';obtain⟨j,hj⟩:=hm';rw[PN,QY] at hj;split at hj
     . rename_i hij;cases hc':ents[i]? with
       |none=>rw[<-hij,hc'] at hj;cases hj
       |some e0=>rw[<-hij,hc'] at hj;cases hj;exact hborn e0 (PM (by rw[PN];exact hc'))
     . exact hborn e (PM (by rw[PN];exact hj))
   . have e1:(ents.modify i fun e=>{e with key:=x,val:=y}).toList.map (·.born)=ents.toList.map (·.born):=by
      apply QI;intro j;rw[PF,PF,PN,QY,PN];split
      . cases ents[j]?<;>rfl
      . rfl
     rw[e1];exact hnd
 . rename_i hg;cases h;obtain⟨hf,_,hxv,hpl⟩:=cJ hok hx hrd hg;refine⟨ents.push {key:=x,val:=y,born:=clock},clock+1,?_,⟨_,_,(MapKept.heap_set hh).1,?_,?_,?_,hlim⟩,ents,clock,hh⟩
   . simp only[QR] at hf;simp only[Instr.mapUpdate,Sem.run_bind,av hu,Result.andThen_ok,MapKept.run_getObj_map hh,hck,hf,MapKept.run_setObj_map _ hh]
   . rw[RM];exact(hrd.snoc ⟨hpl,hxv⟩ ⟨hvd,hy⟩).mono (iC hh hlim)
   . intro e hm';rw[RM,PU] at hm';rcases hm' with hm'|hm'
     . have:=hborn e hm';omega
     . simp at hm';subst hm';exact Nat.lt_succ_self _
   . rw[RM,Qj];refine QJ.2 ⟨hnd,by simp,fun a ha b hb e=>?_⟩;simp at hb;obtain⟨e',he',rfl⟩:=Qi.1 ha;have:=hborn e' he';omega
 . cases h
theorem MapRd.of_get:∀{es:List MapEntry} {ks vs:List V},es.length=ks.length->es.length=vs.length->(∀(i:Nat) (e:MapEntry) (k:V),es[i]?=some e->ks[i]?=some k->plainK k=true∧k.val=some e.key)->
 (∀(i:Nat) (d:V),vs[i]?=some d->d.dat=true)->(∀(i:Nat) (e:MapEntry) (d:V),es[i]?=some e->vs[i]?=some d->Rd m w e.val d)->MapRd m w es ks vs
 |[],[],[],_,_,_,_,_=>trivial
 |e::es,k::ks,v::vs,h1,h2,h3,h4,h5=>⟨h3 0 e k rfl rfl,⟨h4 0 v rfl,h5 0 e v rfl rfl⟩,MapRd.of_get (by simpa using h1) (by simpa using h2) (fun i e k he hk=>h3 (i+1) e k (by simpa using he) (by simpa using hk)) (fun i d hd=>h4 (i+1) d (by simpa using hd)) (fun i e d he hd=>h5 (i+1) e d (by simpa using he) (by simpa using hd))⟩
 |[],_::_,_,h1,_,_,_,_=>by simp at h1
 |[],[],_::_,_,h2,_,_,_=>by simp at h2
 |_::_,[],_,h1,_,_,_,_=>by simp at h1
 |_::_,_::_,[],_,h2,_,_,_=>by simp at h2
theorem Rd.fm_at {ks:List V} (h:Rd m w v (.fm ks vs)):∃g ents clock,v= .map (some g)∧w.heap[g]?=some (.map ents clock)∧MapRd m w ents.toList ks vs∧(∀e∈ents.toList,e.born<clock)∧(ents.toList.map (·.born)).Nodup∧m g=none:=by
 cases h with
 |fm blk ks vs ents clock hb hh hm hk hv hkey hbn hd hr=>exact⟨blk,ents,clock,rfl,hh,MapRd.of_get (by simpa using hk) (by simpa using hv) (fun i e k he hk=>hkey i e k (by simpa using he) hk) hd (fun i e d he hd=>hr i e d (by simpa using he) hd),hbn.1,hbn.2,hm⟩
theorem MapAt.freeze {ks:List V} (h:MapAt m w g ks vs) {m':Lim} (he:Ext m w m' w) (hm:m' g=none):Rd m' w (.map (some g)) (.fm ks vs):=by
 obtain⟨ents,clock,hh,hrd,h1,h2,_⟩:=h;have hl:=hrd.len;have get:=fun(i:Nat) (e:MapEntry) (he:ents[i]?=some e)=>hrd.get i e (by simpa using he)
 refine .fm g ks vs ents clock (du hh) hh hm (by simpa using hl.1) (by simpa using hl.2) (fun i e k hi hk=>?_) ⟨h1,h2⟩ (fun i d hd=>?_) (fun i e d hi hd=>?_)
 . obtain⟨k',v',hk',_,h3,_⟩:=get i e hi;rw[hk] at hk';cases hk';exact h3
 . have hi:i<ents.size:=by have:=(PE.1 hd).1;have:=hl.2;simp at this;omega
   obtain⟨k',v',_,hv',_,h3,_⟩:=get i ents[i] (by simp[hi]);rw[hd] at hv';cases hv';exact h3
 . obtain⟨k',v',_,hv',_,_,h3⟩:=get i e hi;rw[hd] at hv';cases hv';exact h3.mono he
theorem ko {mv:V} {ks:List V} {x:Value} {ok:Bool} (hkv:mv.kv=some (ks,vs)) (hm:∃ents clock,w.heap[g]?=some (.map ents clock)∧MapRd m w ents.toList ks vs) (hx:Rd m w x k) (h:ed P t mv k ok=some u):
 ∃v,(Instr.lookup t (.map (some g)) x ok).run P w= .ok v w∧Rd m w v u:=by
 obtain⟨ents,clock,hh,hrd⟩:=hm;unfold ed at h;rw[hkv] at h;split at h
 case h_2=>cases h
 rename_i m' kt et ks' vs' hu hmp;cases hmp;split at h
 case isFalse=>cases h
 rename_i hok;split at h
 . rename_i i hg;obtain⟨hf,hlt,_,_⟩:=cJ hok hx hrd hg;have hlt:=hlt i rfl;have he:ents.toList[i]?=some (ents.toList[i]):=Io hlt;obtain⟨k',v',_,hv',_,_,hrv⟩:=hrd.get i _ he;rw[hv'] at h;simp only[Qd,QW] at h;have hck:(Instr.checkKey ents.isEmpty 10000 kt x).run P w= .ok () w:=by simp only[dF,PG] at hok;exact dv _ 20 kt x k hok.2 hx 10000 (by omega)
   have hrun:(Instr.lookup t (.map (some g)) x ok).run P w= .ok (if ok then .tuple #[(ents.toList[i]).val,.bool true] else (ents.toList[i]).val) w:=by simp only[Qd,he,QV] at hf;simp only[Instr.lookup,Sem.run_bind,av hu,Result.andThen_ok,MapKept.run_getObj_map hh,Sem.run_pure,hck,hf]
   refine⟨_,hrun,?_⟩;cases ok with
   |false=>simp only[P7,Qr] at h⊢;rw[<-h];exact hrv
   |true=>simp only[Qt] at h⊢;rw[<-h];exact Rd.tup_iff.2 ⟨_,rfl,hrv,.x _,trivial⟩
 . rename_i hg;obtain⟨hf,_,_,_⟩:=cJ hok hx hrd hg;have hck:(Instr.checkKey ents.isEmpty 10000 kt x).run P w= .ok () w:=by simp only[dF,PG] at hok;exact dv _ 20 kt x k hok.2 hx 10000 (by omega)
   obtain⟨v',hz,h⟩:=PK.1 h;obtain⟨zv,hzr,hzd⟩:=e6 (w:=w) (m:=m) hz;have hrun:(Instr.lookup t (.map (some g)) x ok).run P w= .ok (if ok then .tuple #[zv,.bool false] else zv) w:=by simp only[QR] at hf;simp only[Instr.lookup,Sem.run_bind,av hu,Result.andThen_ok,MapKept.run_getObj_map hh,Sem.run_pure,hck,hf,hzr]
   refine⟨_,hrun,?_⟩;cases ok with
   |false=>simp only[P7,Qr] at h⊢;rw[<-h];exact hzd
   |true=>simp only[Qt] at h⊢;rw[<-h];exact Rd.tup_iff.2 ⟨_,rfl,hzd,.x _,trivial⟩
 . cases h
variable {s:Nat}
theorem kq {ks:List V} {x:Value} {ok:Bool} (hm:MapAt m w g ks vs) (hx:Rd m w x k) (h:ed P t (.mp s ks vs) k ok=some u):
 ∃v,(Instr.lookup t (.map (some g)) x ok).run P w= .ok v w∧Rd m w v u:=by
 obtain⟨ents,clock,hh,hrd,_⟩:=hm;exact ko rfl ⟨ents,clock,hh,hrd⟩ hx h
end
section
variable {m:Lim} {w:World} {β:Nat->Nat} {E:Env}
theorem sG {t:Bool} {v1 v2:Value} {u1 u2:V} (h1:Rs m w β v1 u1) (h2:Rs m w β v2 u2):Rs m w β (if t then v1 else v2) (px t u1 u2):=by
 unfold px;cases t
 . simp only[P7,Qr];split<;>exact h2
 . simp only[Qt];split<;>exact h1
theorem aC (b off k:Nat):Addr.add ⟨b,off,none⟩ k=⟨b,off+k,none⟩:=by
 unfold Addr.add;split
 . rename_i h;subst h;rfl
 . rfl
variable {cs:List V}
theorem Rd.ip_drop {k:Nat} (h:Rd m w v (.ip cs)) (hk:k<=cs.length):∃b off,v= .pointer (some ⟨b,off,none⟩)∧Rd m w (.pointer (some ⟨b,off+k,none⟩)) (.ip (cs.drop k)):=by
 cases h with
 | ip blk off cs c hb hc hm hr=>
   refine⟨blk,off,rfl,.ip blk (off+k) _ (fun i=>c (k+i)) hb (fun i hi=>?_) (fun fr hf=>?_) (fun i d hd=>?_)⟩
   . simp at hi;have:=hc (k+i) (by omega)
     rwa [<-Sf] at this
   . have:=hm fr hf;simp;omega
   . rw[Qm] at hd;exact hr _ d hd
variable {nl:Bool} {sz:Nat} {es:List V} {tok:Option Nat}
theorem Rd.sl_at {i:Nat} (h:Rd m w v (.sl nl sz es tok)) (hi:es[i]?=some u):
 ∃blk off cap,v= .slice (some ⟨blk,off,none⟩) es.length cap∧Rd m w (.pointer (some ⟨blk,off+i*sz,none⟩)) (.ip u.cells):=by
 cases h with
 |nil sz tok=>simp at hi
 |emp a cap sz=>simp at hi
 | sl blk off cap sz es tok c hb hcap hsz hc hm hr=>
   have hlt:i<es.length:=by
    rcases Ql i es.length with h'|h'
    . exact h'
    . simp[Qc h'] at hi
   have hl:=hsz i u hi;have hle:(i+1)*sz<=es.length*sz:=Qo _ hlt;rw[Qs,RP] at hle;refine⟨blk,off,cap,rfl,.ip blk (off+i*sz) _ (fun k=>c (i*sz+k)) hb (fun k hk=>?_) (fun fr hf=>?_) (fun k d hd=>hr i u hi k d hd)⟩
   . rw[hl] at hk;have:=hc (i*sz+k) (by omega)
     rwa [<-Sf] at this
   . have:=hm fr hf;rw[hl];omega
theorem Rd.sl_sub (h:Rd m w v (.sl nl sz es tok)) {l k:Nat} (hlk:l<=k) (hk:k<=es.length):
 ∃a cap,v= .slice a es.length cap∧es.length<=cap∧Rd m w (.slice (if cap=l then a else a.map (·.add (l*sz))) (k-l) (cap-l)) (.sl nl sz ((es.drop l).take (k-l)) none):=by
 cases h with
 | nil sz tok=>
   simp at hk;obtain rfl:k=0:=hk;obtain rfl:l=0:=by omega
   exact⟨none,0,rfl,PB _,by simpa using Rd.nil sz none⟩
 | emp a cap sz=>
   simp at hk;obtain rfl:k=0:=hk;obtain rfl:l=0:=by omega
   exact⟨some a,cap,rfl,PH _,by split<;>exact .emp _ _ _⟩
 | sl blk off cap sz es tok c hb hcap hsz hc hm hr=>
   refine⟨_,cap,rfl,hcap,?_⟩;have hlen:((es.drop l).take (k-l)).length=k-l:=by simp;omega
   have hle:k*sz<=es.length*sz:=Qo _ hk;have hadd:l*sz+(k-l)*sz=k*sz:=by rw[<-Qs];congr 1;omega
   by_cases hcl:cap=l
   . rw[PO hcl];have h0:k-l=0:=by omega
     have:=Rd.sl (m:=m) (w:=w) blk off (cap-l) sz ((es.drop l).take (k-l)) none c hb (by rw[hlen];omega) (fun i e he=>by rw[h0] at he;simp at he) (fun j hj=>by rw[hlen,h0] at hj;omega)
      (fun fr hf=>by have:=hm fr hf;rw[hlen,h0];omega) (fun i e he=>by rw[h0] at he;simp at he)
     rwa [hlen] at this
   . rw [PS hcl];have:=Rd.sl (m:=m) (w:=w) blk (off+l*sz) (cap-l) sz ((es.drop l).take (k-l)) none (fun j=>c (l*sz+j)) hb (by rw[hlen];omega) (fun i e he=>by
      rw[P9] at he;split at he
      . rw[Qm] at he;exact hsz _ e he
      . simp at he) (fun j hj=>by
      rw[hlen] at hj;have:=hc (l*sz+j) (by omega)
      rwa [<-Sf] at this)
      (fun fr hf=>by have:=hm fr hf;rw[hlen];omega) (fun i e he j d hd=>by
       rw[P9] at he;split at he
       . rw[Qm] at he;have:=hr _ e he j d hd
         rwa [Qs,Sf] at this
       . simp at he)
     rw[hlen] at this;simpa[aC] using this
variable {ρ:Operand->Value}
theorem jb {e:Operand->V} (hρ:∀x,Rs m w β (ρ x) (e x)) {d l:Int} {o:Option Operand} (h:cy e d o=some l):
 (o=none∧l=d)∨∃x k,o=some x∧ρ x= .int k l:=by
 cases o with
 |none=>simp only[cy,QW] at h;exact .inl ⟨rfl,h.symm⟩
 | some x=>
   simp only[cy] at h;split at h
   . rename_i k i hx;cases h;exact .inr ⟨x,k,rfl,(hx▸hρ x).x⟩
   . simp at h
variable {P:Program} {l:Nat}
theorem a6 {k:IntKind} {y:Nat} (code:BoundsCode) (h:l<=y):(Instr.sliceBound (.int k (l:Int)) y code).run P w= .ok l w:=by simp only[Instr.sliceBound,asIntOf,Sem.run_bind,Sem.run_pure,Result.andThen_ok,Sem.run_ite];rw[PO ⟨by omega,by omega⟩];simp
theorem eo {e:Operand->V} (hρ:∀x,Rs m w β (ρ x) (e x)) {P:Program} {isS:Bool} {len cap l h:Nat} {lo hi:Option Operand}
 (hl:cy e 0 lo=some (l:Int)) (hh:cy e len hi=some (h:Int)) (h1:l<=h) (h2:h<=cap):
 (Instr.sliceBounds isS len cap (lo.map ρ) (hi.map ρ) none).run P w= .ok (l,h,cap) w:=by
 have hs:∀code,(match hi.map ρ with|some v=>Instr.sliceBound v cap code|none=>pure len:Sem Nat).run P w= .ok h w:=by
  intro code;rcases jb hρ hh with⟨rfl,he⟩|⟨x,k,rfl,hx⟩
  . have:h=len:=by omega
    subst this;rfl
  . simp only[Qd,hx];exact a6 code h2
 have ls:∀code,(match lo.map ρ with|some v=>Instr.sliceBound v h code|none=>pure 0:Sem Nat).run P w= .ok l w:=by
  intro code;rcases jb hρ hl with⟨rfl,he⟩|⟨x,k,rfl,hx⟩
  . have:l=0:=by omega
    subst this;rfl
  . simp only[Qd,hx];exact a6 code h1
 rcases jb hρ hh with⟨rfl,he⟩|⟨x,k,rfl,hx⟩<;>rcases jb hρ hl with⟨rfl,he'⟩|⟨x',k',rfl,hx'⟩
 . have e1:h=len:=by omega
   have e2:l=0:=by omega
   subst e1 e2;simp[Instr.sliceBounds]
 . have e1:h=len:=by omega
   subst e1;simp[Instr.sliceBounds,hx',a6 _ h1]
 . have e2:l=0:=by omega
   subst e2;simp[Instr.sliceBounds,hx,a6 _ h2]
 . simp[Instr.sliceBounds,hx,hx',a6 _ h1,a6 _ h2]
theorem iD:∀{es:List V} {l:List UInt8},bytesOf es=some l->es.length=l.length∧∀(i:Nat) (b:UInt8),l[i]?=some b->∃n:Int,es[i]?=some (.x (.int .u8 n))∧b=UInt8.ofNat n.toNat
 |[],l,h=>by cases h;exact⟨rfl,fun i b h=>by simp at h⟩
 | e ::es,l,h=>by
   unfold bytesOf at h;split at h
   . cases ‹e::es=[]›
   . rename_i n l' he;cases he;split at h
     . rename_i r hr;cases h;obtain⟨h1,h2⟩:=iD hr;refine⟨by simp[h1],fun i b hb=>?_⟩;cases i with
       |zero=>simp at hb;exact⟨n,rfl,hb.symm⟩
       |succ i=>simpa using h2 i b (by simpa using hb)
     . cases h
   . cases h
theorem nw {f:Value->ByteArray->Sem (ForInStep ByteArray)} (hf:∀(n:Int) (s:ByteArray),(f (.int .u8 n) s).run P w= .ok (.yield (s.push (UInt8.ofNat n.toNat))) w)
 (cs:List Value) (l:List UInt8) (acc:ByteArray) (hlen:cs.length=l.length) (h:∀(i:Nat) (b:UInt8),l[i]?=some b->∃n:Int,cs[i]?=some (.int .u8 n)∧b=UInt8.ofNat n.toNat):
 (forIn cs acc f).run P w= .ok ⟨acc.data++l.toArray⟩ w:=by
 induction cs generalizing l acc with
 | nil=>
   cases l with
   |nil=>simp
   |cons b l=>simp at hlen
 | cons c cs ih=>
   cases l with
   |nil=>simp at hlen
   |cons b l=>obtain⟨n,hn,hb⟩:=h 0 b rfl;simp at hn;subst hn;rw[List.forIn_cons,Sem.run_bind,hf];simp only[Result.andThen_ok];rw[ih l _ (by simpa using hlen) (fun i b hb=>by simpa using h (i+1) b (by simpa using hb))];subst hb;congr 2;apply Qe.1;simp[ByteArray.push]
theorem wB {l:List UInt8} (h:Rd m w v (.sl nl sz es tok)) (hl:bytesOf es=some l):
 ∃a cap,v= .slice a es.length cap∧(Conv.bytesToString v).run P w= .ok (.string ⟨l.toArray⟩) w:=by
 obtain⟨hlen,hat⟩:=iD hl;cases h with
 | nil sz tok=>
   cases l with
   |nil=>exact⟨none,0,rfl,rfl⟩
   |cons b l=>simp at hlen
 | emp a cap sz=>
   cases l with
   |nil=>have h0:=run_loadCells_list (P:=P) w a [] (fun j v hj=>by simp at hj);simp only[Qk] at h0;refine⟨some a,cap,rfl,?_⟩;simp[Conv.bytesToString,h0];rfl
   |cons b l=>simp at hlen
 | sl blk off cap sz es tok c hb hcap hsz hc hm hr=>
   refine⟨_,cap,rfl,?_⟩;have hcs:∀(j:Nat) (b:UInt8),l[j]?=some b->∃n:Int,w.cell? ⟨blk,off+j,none⟩=some (.int .u8 n)∧b=UInt8.ofNat n.toNat:=by
    intro j b hj;obtain⟨n,he,hb⟩:=hat j b hj;have hs1:=hsz j _ he;simp[V.cells] at hs1;subst hs1;have hjl:j<es.length:=by
     rcases Ql j es.length with h'|h'
     . exact h'
     . simp[Qc h'] at he
    have h1:=hc j (by omega);have h2:=Rd.x_iff.1 (hr j _ he 0 _ rfl);simp at h2;rw[h2] at h1;exact⟨n,h1,hb⟩
   have hrun:=run_loadCells_list (P:=P) w ⟨blk,off,none⟩ ((List.range l.length).map fun j=>(w.cell? ⟨blk,off+j,none⟩).getD Go.undef) (fun j v hj=>by
    rw[aC];simp only[PF,PK] at hj;obtain⟨i,hi,rfl⟩:=hj;have hlt:j<l.length:=by
     rcases Ql j l.length with h'|h'
     . exact h'
     . simp[h'] at hi
    rw[QZ hlt] at hi;cases hi;obtain⟨n,h1,_⟩:=hcs j _ (Io hlt);rw[h1];rfl)
   simp only[eq,Sn] at hrun;rw[<-hlen] at hrun;simp only[Conv.bytesToString,Sem.run_bind,hrun,Result.andThen_ok];rw[<-Array.forIn_toList];rw[nw (fun n s=>rfl) _ l .empty (by simpa using hlen) (fun i b hb=>by
    have hlt:i<es.length:=by
     rcases Ql i l.length with h'|h'
     . omega
     . simp[Qc h'] at hb
    obtain⟨n,h1,h2⟩:=hcs i b hb;refine⟨n,?_,h2⟩;rw[PF,QZ hlt];simp[h1])]
   simp
variable {o:Oper}
theorem sH {e:Operand->V} (hρ:∀x,Rs m w β (ρ x) (e x)) (hm:gp o.op=true) (h:aH E o.op e=some u):
 ∃x,(execOp ρ o).run P w= .ok (.value (ρ x)) w∧u=e x:=by
 unfold aH at h;split at h
 . rename_i x ho;cases h;exact⟨x,by simp only[execOp,ho,Sem.run_pure],rfl⟩
 . rename_i x ho;cases h;exact⟨x,by simp only[execOp,ho,Sem.run_pure],rfl⟩
 . rename_i c x y ho;split at h
   . rename_i t hc;cases h;have hct:=(hc▸hρ c).x;cases t
     . refine⟨y,by simp only[execOp,ho,hct,asBool,Sem.run_bind,Sem.run_pure,Result.andThen_ok];rfl,?_⟩;unfold px;split<;>simp_all
     . refine⟨x,by simp only[execOp,ho,hct,asBool,Sem.run_bind,Sem.run_pure,Result.andThen_ok];rfl,?_⟩;unfold px;split<;>simp_all
   . simp at h
 all_goals first
  |(simp at h;done)
  |(rename_i ho;rw[ho] at hm;simp[gp] at hm)
theorem kr {e:Operand->V} (hρ:∀x,Rs m w β (ρ x) (e x)) (hM:∀x s ks vs,e x= .mp s ks vs->MapAt m w (β s) ks vs) (h:aH E o.op e=some u):
 ∃v,(execOp ρ o).run E.P w= .ok (.value v) w∧Rs m w β v u:=by
 unfold aH at h;split at h
 . rename_i x ho;cases h;exact⟨_,by simp only[execOp,ho,Sem.run_pure],hρ x⟩
 . rename_i x ho;cases h;exact⟨_,by simp only[execOp,ho,Sem.run_pure],hρ x⟩
 . rename_i c x y ho;split at h
   . rename_i t hc;cases h;have hct:=(hc▸hρ c).x;refine⟨_,by simp only[execOp,ho,hct,asBool,Sem.run_bind,Sem.run_pure,Result.andThen_ok],sG (hρ x) (hρ y)⟩
   . simp at h
 . rename_i x ho;split at h
   . rename_i s off hx;cases h;have hv:=(hx▸hρ x:Rs m w β (ρ x) (.ptr s off)).ptr;refine⟨.pointer (some ⟨β s,off,none⟩),?_,.ofPtr _ _⟩;simp only[execOp,ho,hv,Sem.run_pure]
   . rename_i cs hx;cases h;obtain⟨b,off,hv,hd⟩:=((hx▸hρ x:Rs m w β (ρ x) (.ip cs)).rd (by intros;simp)).ip_drop (k:=0) (PH _);refine⟨.pointer (some ⟨b,off,none⟩),?_,.of (by simpa using hd)⟩;simp only[execOp,ho,hv,Sem.run_pure]
   . simp at h
 . rename_i op t x y yt ho;obtain⟨v,hr,hd⟩:=sF (m:=m) (β:=β) (w:=w) (P:=E.P) (xo:=x) (yo:=y) (hρ x) (hρ y) h;exact⟨v,by simp only[execOp,ho];rw[Sem.run_bind,hr];rfl,.of hd⟩
 . rename_i t x ho;split at h
   . rename_i b hb;cases h;have hbt:=(hb▸hρ x).x;exact⟨_,by simp only[execOp,ho,hbt,Op.unary,Sem.run_bind,Sem.run_pure,Result.andThen_ok],.of (.x _)⟩
   . simp at h
 . rename_i t x ho;split at h
   . rename_i k n hb;cases h;have hbt:=(hb▸hρ x).x;exact⟨_,by simp only[execOp,ho,hbt,Op.unary,Op.intArith,fo,Sem.run_bind,Sem.run_pure,Result.andThen_ok],.of (.x _)⟩
   . simp at h
 . rename_i x i ho;split at h
   . rename_i vs hv;replace h:=(en h).1;obtain⟨cs,hcs,hl⟩:=(hv▸hρ x).tup;have hlt:i<vs.length:=by
      rcases Ql i vs.length with h'|h'
      . exact h'
      . simp[Qc h'] at h
     have hlen:=hl.length;simp at hlen;have hget:cs[i]?=some (cs[i]'(by omega)):=PW _;exact⟨cs[i]'(by omega),by simp only[execOp,ho,hcs,Instr.extract,hget,Sem.run_bind,Sem.run_pure,Result.andThen_ok],.of (hl.get i _ u (by simp) h)⟩
   . simp at h
 . rename_i t x f ho;split at h
   . rename_i cs fs hx ht;obtain⟨vs,hvs,hl⟩:=(hx▸hρ x).agg;cases hf:fs[f]? with
     |none=>simp[hf] at h
     |some fd=>simp only[hf,QQ] at h;replace h:=(en h).1;obtain⟨v,hr,hd⟩:=eW hl h;exact⟨v,by simp only[execOp,ho,hvs,Instr.field,Sem.run_bind,av ht,Result.andThen_ok,hf,asAgg,Sem.run_pure,hr],.of hd⟩
   . simp at h
 . rename_i t parts ho;unfold jL at h;split at h
   . rename_i z fs hz ht;split at h
     . rename_i l hl;split at h
       . rename_i us hus;cases h;obtain⟨zv,hzr,hzd⟩:=eY (w:=w) (m:=m) hz
         have hfill:=eX (m:=m) (w:=w) (β:=β) (parts:=parts.toList.map fun p=>(p.1,(e p.2).bare)) (vs:=parts.toList.map fun p=>(p.1,ρ p.2)) hzd (by simp) (by intro i v u hv hu;simp only[PF,PK] at hv hu;obtain⟨p,hp,rfl⟩:=hv;obtain⟨q,hq,rfl⟩:=hu;rw[hp] at hq;cases hq;exact(hρ _).bare) hus
         obtain⟨cs',hcs',hd⟩:=hfill;have hm:=pC (P:=E.P) (w:=w) fs.toList l hl;refine⟨.agg cs',?_,.of (Rd.agg_iff.2 ⟨cs',rfl,hd⟩)⟩;simp only[execOp,ho,Instr.build,Sem.run_bind,hzr,Result.andThen_ok,av ht];rw[R6];simp only[Sem.run_map,hm,Result.andThen_ok];have hq:(Array.map (fun(x:Nat×Operand)=>(x.fst,ρ x.snd)) parts).toList=parts.toList.map fun p=>(p.1,ρ p.2):=by simp
         rw[hq];have hpl:(fun(i:Nat)=>(l.toArray)[i]?)=(fun(i:Nat)=>l[i]?):=by funext i;simp
         rw[hpl,hcs'];rfl
       . simp at h
     . simp at h
   . simp at h
 . rename_i t x f ho;split at h
   . rename_i fs ht;split at h
     . rename_i fd hf;split at h
       . rename_i n hn;split at h
         . simp at h
         . rename_i hn0;split at h
           . rename_i s off hx;cases h;have hv:=(hx▸hρ x:Rs m w β (ρ x) (.ptr s off)).ptr
             . refine⟨.pointer (some ⟨β s,off+fd.offset,none⟩),?_,.ofPtr _ _⟩;simp only[execOp,ho,hv,Instr.fieldAt,Sem.run_bind,av ht,Result.andThen_ok,hf,Instr.sureAddr,fieldPlace,bl hn,hn0,Qr,Sem.run_pure,aC]
           . rename_i cs hx;split at h
             . rename_i hle;cases h;obtain⟨b,off,hv,hd⟩:=((hx▸hρ x:Rs m w β (ρ x) (.ip cs)).rd (by intros;simp)).ip_drop hle;refine⟨.pointer (some ⟨b,off+fd.offset,none⟩),?_,.of hd⟩;simp only[execOp,ho,hv,Instr.fieldAt,Sem.run_bind,av ht,Result.andThen_ok,hf,Instr.sureAddr,fieldPlace,bl hn,hn0,Qr,Sem.run_pure,aC]
             . simp at h
           . simp at h
       . simp at h
     . simp at h
   . simp at h
 . rename_i s d x ho;split at h
   . rename_i k0 k k1 n hs hd hx;cases h;have hxv:=(hx▸hρ x).x;exact⟨_,by simp only[execOp,ho,hxv,convert,Sem.run_bind,av hs,av hd,Result.andThen_ok,Conv.intToInt,fo,Sem.run_pure],.of (.x _)⟩
   . rename_i s' hs hd hx;cases h;have hxv:=(hx▸hρ x).x;exact⟨_,by simp only[execOp,ho,hxv,convert,Sem.run_bind,av hs,av hd,Result.andThen_ok,Sem.run_pure],.of (.x _)⟩
   . rename_i k0 k1 n hs hd hx;cases h;have hxv:=(hx▸hρ x).x;exact⟨_,by simp only[execOp,ho,hxv,convert,Sem.run_bind,av hs,av hd,Result.andThen_ok,Conv.intToString,Sem.run_pure],.of (.x _)⟩
   . rename_i el nl sz es tok hs hd hx;split at h
     . rename_i l hel hl;cases h;have hrd:=(hx▸hρ x:Rs m w β (ρ x) (.sl nl sz es tok)).rd (by intros;simp);obtain⟨a,cap,hv,hrun⟩:=wB (P:=E.P) hrd hl;refine⟨.string ⟨l.toArray⟩,?_,.of (.x _)⟩;rw[hv] at hrun;cases a with
       |none=>simp only[execOp,ho,hv,convert,Sem.run_bind,av hs,av hd,av hel,Result.andThen_ok,hrun,Sem.run_pure]
       |some a=>simp only[execOp,ho,hv,convert,Sem.run_bind,av hs,av hd,av hel,Result.andThen_ok,hrun,Sem.run_pure]
     . simp at h
   . simp at h
 . rename_i t x ix ho;split at h
   . rename_i elem nl sz es tok k i ht hx hix;split at h
     . rename_i hc;obtain⟨hsz,h0⟩:=hc;obtain⟨u',hu,rfl⟩:=PK.1 h;obtain⟨blk,off,cap,hv,hd⟩:=((hx▸hρ x:Rs m w β (ρ x) (.sl nl sz es tok)).rd (by intros;simp)).sl_at hu;have hi:=(hix▸hρ ix).x;have hlt:i.toNat<es.length:=by
        rcases Ql i.toNat es.length with h'|h'
        . exact h'
        . simp[Qc h'] at hu
       refine⟨.pointer (some ⟨blk,off+i.toNat*sz,none⟩),?_,.of hd⟩;simp only[execOp,ho,hv,hi,Instr.indexAt,asIntOf,Sem.run_bind,Sem.run_pure,Result.andThen_ok,av ht,Sem.run_ite];rw[PO ⟨h0,by omega⟩];simp only[bl hsz,Result.andThen_ok,aC]
     . simp at h
   . rename_i elem s sz len k i ht hx hix;split at h
     . rename_i hc;obtain⟨hsz,h0,hlt⟩:=hc;cases h;obtain⟨cap,hv,hcap⟩:=(hx▸hρ x:Rs m w β (ρ x) (.row s sz len)).row;have hi:=(hix▸hρ ix).x;have he:Rs m w β (.pointer (some ⟨β s,i.toNat*sz,none⟩)) (.ptr s (i.toNat*sz)):= .ofPtr _ _;refine⟨_,?_,he⟩;simp only[execOp,ho,hv,hi,Instr.indexAt,asIntOf,Sem.run_bind,Sem.run_pure,Result.andThen_ok,av ht,Sem.run_ite];rw[PO ⟨h0,hlt⟩];simp only[bl hsz,Result.andThen_ok,aC,Qn]
     . simp at h
   . simp at h
 . rename_i t x ix ho;split at h
   . rename_i s k i ht hx hix;split at h
     . rename_i hc;cases h;have hs:=(hx▸hρ x).x;have hi:=(hix▸hρ ix).x;have hlt:i.toNat<s.size:=by omega
       have hget:s[i.toNat]?=some s[i.toNat]:=getElem?_pos s i.toNat hlt;have hb:py s i=(s[i.toNat].toNat:Int):=by unfold py;have:s.data[i.toNat]?=some s[i.toNat]:=PW (by exact hlt);rw[this];rfl
       rw[hb];refine⟨_,?_,.of (.x _)⟩;simp only[execOp,ho,hs,hi,Instr.index,asIntOf,Sem.run_bind,Sem.run_pure,Result.andThen_ok,av ht,hc.1,Qt,hget]
     . simp at h
   . simp at h
 . rename_i t x lo hi ho;split at h
   . rename_i s ht hx;have hs:=(hx▸hρ x).x;split at h
     . rename_i l k hl hk;split at h
       . rename_i hc;cases h;obtain⟨l,rfl⟩:=Q0 hc.1;obtain⟨k,rfl⟩:=Q0 (show 0<=k by omega);have hb:=eo (P:=E.P) (isS:=false) (len:=s.size) (cap:=s.size) hρ hl hk (by omega) (by omega);refine⟨.string (s.extract l k),?_,by simpa[IG] using Rs.of (Rd.x (.string (s.extract l k)))⟩;simp only[execOp,ho,Instr.sliceAt,Sem.run_bind,av ht,Result.andThen_ok,Instr.slice,hs,QR,Option.isSome_none,P7,Qr,Sem.run_pure,hb]
       . simp at h
     . simp at h
   . rename_i elem nl sz es tok ht hx;split at h
     . rename_i l k hl hk;split at h
       . rename_i hc;cases h;obtain⟨hsz,hl0,hlk,hke⟩:=hc;obtain⟨l,rfl⟩:=Q0 hl0;obtain⟨k,rfl⟩:=Q0 (show 0<=k by omega);obtain⟨a',cap,hv,hcap,hd⟩:=((hx▸hρ x:Rs m w β (ρ x) (.sl nl sz es tok)).rd (by intros;simp)).sl_sub (l:=l) (k:=k) (by omega) (by omega);have hb:=eo (P:=E.P) (isS:=true) (len:=es.length) (cap:=cap) hρ hl hk (by omega) (by omega);refine⟨_,?_,by simpa using Rs.of hd⟩;simp only[execOp,ho,Instr.sliceAt,Sem.run_bind,av ht,Result.andThen_ok,Instr.slice,hv,QR,hb,bl hsz,Sem.run_pure]
       . simp at h
     . simp at h
   . rename_i elem s sz len ht hx;split at h
     . rename_i l k hl hk;split at h
       . rename_i hc;cases h;obtain⟨hsz,rfl,h0,hke⟩:=hc;obtain⟨k,rfl⟩:=Q0 h0;obtain⟨cap,hv,hcap⟩:=(hx▸hρ x:Rs m w β (ρ x) (.row s sz len)).row;have hb:=eo (P:=E.P) (isS:=true) (len:=len) (cap:=cap) (l:=0) hρ hl hk (by omega) (by omega);refine⟨.slice (some ⟨β s,0,none⟩) k cap,?_,.ofRow _ _ (by omega)⟩;simp only[execOp,ho,Instr.sliceAt,Sem.run_bind,av ht,Result.andThen_ok,Instr.slice,hv,QR,hb,bl hsz,Sem.run_pure];congr 2;cases cap<;>simp[aC]
       . simp at h
     . simp at h
   . simp at h
 . rename_i args argTypes ho;split at h
   . rename_i x t ha ht;have hargs:args= #[x]:=by apply Qe.1;simpa using ha
     have hts:argTypes= #[t]:=by apply Qe.1;simpa using ht
     subst hargs hts;split at h
     . rename_i s hu hx;cases h;have hxv:=(hx▸hρ x).x;refine⟨.int .i64 s.size,?_,.of (.x _)⟩;simp[execOp,ho,resolve,invoke,builtin,Builtin.len_,hxv,av hu,goInt]
     . rename_i e' nl sz es tok hu hx;cases h;obtain⟨a,cap,hxv,_,_⟩:=(hx▸hρ x).sl;refine⟨.int .i64 es.length,?_,.of (.x _)⟩;simp[execOp,ho,resolve,invoke,builtin,Builtin.len_,hxv,av hu,goInt]
     . rename_i e' s sz len hu hx;cases h;obtain⟨cap,hxv,_⟩:=(hx▸hρ x:Rs m w β (ρ x) (.row s sz len)).row;refine⟨.int .i64 len,?_,.of (.x _)⟩;simp[execOp,ho,resolve,invoke,builtin,Builtin.len_,hxv,av hu,goInt]
     . rename_i kt et s ks vs hu hx;cases h;have hxv:=(hx▸hρ x:Rs m w β (ρ x) (.mp s ks vs)).mp;obtain⟨ents,clock,hh,hrd,_,_⟩:=hM x s ks vs hx;have hl:ents.size=ks.length:=by rw[<-PR];exact hrd.len.1
       refine⟨.int .i64 ks.length,?_,.of (.x _)⟩;simp[execOp,ho,resolve,invoke,builtin,Builtin.len_,hxv,av hu,MapKept.run_getObj_map hh,goInt,hl]
     . rename_i kt et ks vs hu hx;cases h;obtain⟨g,ents,clock,hxv,hh,hrd,_⟩:=((hx▸hρ x:Rs m w β (ρ x) (.fm ks vs)).rd rfl).fm_at;have hl:ents.size=ks.length:=by rw[<-PR];exact hrd.len.1
       refine⟨.int .i64 ks.length,?_,.of (.x _)⟩;simp[execOp,ho,resolve,invoke,builtin,Builtin.len_,hxv,av hu,MapKept.run_getObj_map hh,goInt,hl]
     . simp at h
   . simp at h
 . rename_i args argTypes ho;split at h
   . rename_i x y ha;have hargs:args= #[x,y]:=by apply Qe.1;simpa using ha
     subst hargs;split at h
     . rename_i k a k' b hx hy;cases h;have hxv:=(hx▸hρ x).x;have hyv:=(hy▸hρ y).x;refine⟨.int k (Gw a b),?_,.of (.x _)⟩;simp[execOp,ho,resolve,invoke,builtin,Builtin.max_,Builtin.max2,hxv,hyv,Gw]
     . simp at h
   . simp at h
 . rename_i args argTypes ho;split at h
   . rename_i x y ha;have hargs:args= #[x,y]:=by apply Qe.1;simpa using ha
     subst hargs;split at h
     . rename_i k a k' b hx hy;cases h;have hxv:=(hx▸hρ x).x;have hyv:=(hy▸hρ y).x;refine⟨.int k (Gx a b),?_,.of (.x _)⟩;simp[execOp,ho,resolve,invoke,builtin,Builtin.min_,Builtin.min2,hxv,hyv,Gx]
     . simp at h
   . simp at h
 . simp at h
end
end Go.Proofs.Ytldnpcolhdnkdaa

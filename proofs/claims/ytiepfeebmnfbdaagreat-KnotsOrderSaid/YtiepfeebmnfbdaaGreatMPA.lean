/- MPA -/
import Derived.WalkKit
import Derived.WalkSmall
import Derived.MapKept
namespace Go.Proofs.YtiepfeebmnfbdaaGreat
noncomputable section
set_option linter.unusedSimpArgs false
open Go Go.RowKit
set_option linter.defProp false
theorem Ge{α β:Type}(a:α)(w:World)(f:α->World->Result β):(Result.ok a w).andThen f=f a w:=rfl
theorem Gc{α β:Type}(P:Program)(w:World)(x:Sem α)(f:α->Sem β):(x>>=f).run P w=(x.run P w).andThen fun a w'=>(f a).run P w':=Sem.run_bind P w x f
theorem Gd{α:Type}(P:Program)(w:World)(a:α):(Pure.pure a:Sem α).run P w= .ok a w:=rfl
theorem yx{P:Prop}(h:P:=by exact⟨_,by simp[binOp,heq],.x _⟩):P:=h
theorem yw{P:Prop}(h:P:=by refine⟨.int .i64 ks.length,?_,.of (.x _)⟩;simp[execOp,ho,resolve,invoke,builtin,Builtin.len_,hxv,aC hu,MapKept.run_getObj_map hh,goInt,hl]):P:=h
theorem yu{P:Prop}(h:P:=by simp only[execOp,ho,hv,Instr.fieldAt,Gc,aC ht,Ge,hf,Instr.sureAddr,fieldPlace,bN hn,hn0,adw,Gd,aP]):P:=h
theorem xj{P:Prop}(h:P:=by simp[execOp,ho,resolve,invoke,builtin,Builtin.len_,hxv,aC hu,goInt]):P:=h
theorem xh{P:Prop}(h:P:=by rename_i ht;obtain rfl:=Rd.x_iff.1 hr;simp[Instr.checkKey,aC ht]):P:=h
theorem xg{P:Prop}(h:P:=by rename_i ht;cases h;exact⟨_,by simp[binOp,Op.equal,Op.maxDepth,run_equalIn_bool' w 9999 t p q ht],.x _⟩):P:=h
theorem xD{P:Prop}(h:P:=by exact⟨cs,rfl,RdL.of_get (by simpa using hl) (fun i v u hv hu=>h i v u (by simpa using hv) hu)⟩):P:=h
theorem wY{P:Prop}(h:P:=by simp only[ac9,adn] at hu;obtain⟨a',ha',rfl⟩:=hu;rw[ha] at ha';cases ha';exact jT _):P:=h
theorem wX{P:Prop}(h:P:=by exact he.cell blk (off+k) _ hb (fun fr hf=>by have:=hm fr hf;omega) (hc k hk)):P:=h
theorem wV{P:Prop}(h:P:=by rename_i x ho;cases h;exact⟨_,by simp only[execOp,ho,Gd],hρ x⟩):P:=h
theorem wR{P:Prop}(h:P:=by rename_i x ho;cases h;exact⟨x,by simp only[execOp,ho,Gd],rfl⟩):P:=h
theorem wQ{P:Prop}(h:P:=by have:=h2 j rfl;simp only[aea];rw[show j-i=(j-(i+1))+1 from by omega,aeV]):P:=h
theorem wI{P:Prop}(h:P:=by obtain⟨fr,h0,hle⟩:=he.lim blk hb fr' hf;exact adJ (hm fr h0) hle):P:=h
def eq:=@List.length_map
def io:=@List.getElem?_eq_getElem
def iO:=@List.getElem?_eq_some_iff
def tl:=@Int.toNat_natCast
def Io:=@decide_eq_false
def ac0:=@decide_eq_true
def ac9:=@List.getElem?_map
def adg:=@List.mem_of_getElem?
def adh:=@List.length_append
def adi:=@Nat.zero_add
def adj:=@List.mem_singleton
def adl:=@if_pos
def adm:=@List.length_cons
def adn:=@Option.map_eq_some_iff
def ado:=@Bool.and_eq_true
def adp:=@Nat.le_refl
def adq:=@if_neg
def adr:=@List.all_eq_true
def ads:=@List.mem_map
def adt:=@Int.natCast_zero
def adu:=@List.getElem?_append_left
def adv:=@List.mem_append
def adw:=@if_false
def adx:=@Nat.mul_one
def ady:=@List.take_of_length_le
def adz:=@List.length_take
def adA:=@List.mem_cons
def adB:=@if_true
def adC:=@Array.getD_eq_getD_getElem?
def adD:=@Array.length_toList
def adE:=@List.mem_cons_of_mem
def adF:=@Array.getElem?_toList
def adG:=@Array.getElem?_eq_getElem
def adH:=@List.getElem?_append_right
def adI:=@Bool.false_eq_true
def adJ:=@Nat.le_trans
def adK:=@List.map_append
def adL:=@List.map_cons
def adM:=@List.getElem?_eq_none
def adN:=@Nat.zero_le
def adO:=@Option.some.injEq
def adP:=@List.mem_cons_self
def adQ:=@of_decide_eq_true
def adR:=@List.getElem_mem
def adS:=@decide_eq_true_eq
def adT:=@List.length_nil
def adU:=@List.mem_range
def adV:=@List.length_set
def adW:=@List.cons.injEq
def adX:=@List.getElem?_set
def adY:=@List.nodup_cons
def adZ:=@List.mem_filter
def ad0:=@Nat.not_lt
def ad1:=@Nat.lt_of_lt_of_le
def ad2:=@List.mem_append_left
def ad3:=@List.nodup_nil
def ad4:=@List.getElem?_replicate
def ad5:=@List.take_zero
def ad6:=@List.getElem?_take
def ad7:=@Classical.choose_spec
def ad8:=@List.mem_iff_getElem?
def ad9:=@Nat.mul_le_mul_right
def aea:=@Option.map_some
def aeb:=@Nat.lt_or_ge
def aec:=@Int.toNat_of_nonneg
def aed:=@Array.toList_inj
def aee:=@List.cons_append
def aef:=@List.append_assoc
def aeg:=@List.flatMap_cons
def aeh:=@List.foldl_cons
def aei:=@List.take_length
def aej:=@List.length_singleton
def aek:=@Nat.add_mul
def ael:=@List.take_append_of_le_length
def aem:=@List.length_eq_zero_iff
def aen:=@List.getElem?_of_mem
def aeo:=@List.all_cons
def aep:=@List.append_nil
def aeq:=@Nat.add_zero
def aer:=@Nat.ne_of_lt
def aes:=@List.map_map
def aet:=@Array.getElem?_append_left
def aeu:=@List.takeWhile_append_dropWhile
def aev:=@Int.eq_ofNat_of_zero_le
def aew:=@List.getElem?_toArray
def aex:=@List.nil_append
def aey:=@List.length_filter_le
def aez:=@List.length_replicate
def aeA:=@List.getElem?_drop
def aeB:=@List.ext_getElem?
def aeC:=@List.cons.inj
def aeD:=@List.getElem?_range
def aeE:=@List.length_drop
def aeF:=@List.pairwise_append
def aeG:=@List.mem_append_right
def aeH:=@List.nodup_append
def aeI:=@Option.getD_some
def aeJ:=@List.any_eq_true
def aeK:=@Bool.or_eq_true
def aeL:=@Option.bind_some
def aeM:=@Ne.symm
def aeN:=@Option.bind_eq_some_iff
def aeO:=@List.pairwise_cons
def aeP:=@Int.natCast_nonneg
def aeQ:=@and_true
def aeR:=@List.size_toArray
def aeS:=@Bool.not_eq_true'
def aeT:=@List.foldl_append
def aeU:=@Array.eq_empty_of_size_eq_zero
def aeV:=@List.getElem?_cons_succ
def aeW:=@List.map_congr_left
def aeX:=@Nat.add_sub_cancel_left
def aeY:=@List.pairwise_singleton
def aeZ:=@Nat.min_eq_left
def ae0:=@List.getElem?_set_ne
def ae1:=@Bool.true_and
def ae2:=@Array.getElem?_replicate
def ae3:=@Bool.eq_iff_iff
def ae4:=@List.contains_iff_mem
def ae5:=@List.not_mem_nil
def ae6:=@congrArg
def ae7:=@List.eq_nil_iff_forall_not_mem
def ae8:=@List.getElem?_set_self
def ae9:=@List.pairwise_iff_getElem
def afa:=@Nat.testBit_two_pow
def afb:=@List.Pairwise.sublist
def afc:=@Bool.not_true
def afd:=@Bool.and_true
def afe:=@Nat.not_lt_zero
def aff:=@of_decide_eq_false
def afg:=@Nat.not_le
def afh:=@Array.getElem?_eq_none
def afi:=@List.length_range
def afj:=@List.replicate_append_replicate
def afk:=@List.mapM_cons
def afl:=@List.drop_eq_getElem_cons
def afm:=@List.foldl_nil
def afn:=@List.getElem?_zip_eq_some
def afo:=@Option.some.inj
def afp:=@Option.map_none
def afq:=@List.take_append_drop
def afr:=@List.map_nil
def afs:=@List.range_succ
def aft:=@Nat.eq_zero_or_pos
def afu:=@Nat.one_mul
def afv:=@Int.le_refl
def afw:=@List.filter_cons
def afx:=@Array.getElem?_setIfInBounds
def afy:=@List.getElem?_cons_zero
def afz:=@Nat.testBit_or
def afA:=@Array.size_append
def afB:=@Option.bind_eq_bind
def afC:=@Array.getElem?_append_right
def afD:=@List.filter_sublist
def afE:=@Array.getElem?_eq_some_iff
def afF:=@Array.getElem?_modify
def afG:=@Bool.false_or
def afH:=@List.map_set
def afI:=@Bool.false_and
def afJ:=@List.mem_or_eq_of_mem_set
def afK:=@true_and
def afL:=@List.mem_of_mem_take
def afM:=@not_false_eq_true
def afN:=@Nat.le_succ_of_le
def afO:=@Array.getElem?_setIfInBounds_ne
def afP:=@List.pairwise_map
def afQ:=@Nat.mul_comm
def afR:=@Nat.add_assoc
def afS:=@Bool.or_false
def afT:=@List.flatMap_nil
def afU:=@List.countP_cons
def afV:=@Bool.not_false
def afW:=@List.filter_append
def afX:=@Array.append_empty
def afY:=@Option.pure_def
def afZ:=@Nat.div_lt_iff_lt_mul
def af0:=@getElem!_pos
def af1:=@Int.natCast_inj
def af2:=@List.eq_nil_or_concat
def af3:=@List.concat_eq_append
def af4:=@List.set_append_right
def af5:=@List.take_add_one
def af6:=@Array.toList_setIfInBounds
def af7:=@Int.tdiv_eq_ediv_of_nonneg
def af8:=@List.getElem?_append
def af9:=@List.mem_of_mem_drop
def aga:=@List.set_append_left
def agb:=@Array.mapM_eq_mapM_toList
def agc:=@List.getElem?_eq_none_iff
def agd:=@List.map_eq_nil_iff
def age:=@List.drop_succ_cons
def agf:=@List.take_succ_cons
def agh:=@cond_false
def agi:=@Option.isSome_iff_exists
def agj:=@List.getElem?_take_of_lt
def agk:=@Array.toList_range
def agl:=@List.mem_singleton_self
def agm:=@List.filter_cons_of_pos
def agn:=@List.count_pos_iff
def ago:=@Classical.epsilon_spec
def agp:=@Iff.rfl
def agq:=@Nat.mul_le_mul
def agr:=@List.drop_zero
def ags:=@or_false
def agt:=@Nat.zero_mul
def agu:=@List.all_nil
def agv:=@Nat.sub_self
def agw:=@Array.toList_map
def agx:=@Nat.mod_eq_of_lt
def agy:=@List.isEmpty_nil
def agz:=@decide_eq_decide
def agA:=@List.isEmpty_map
def agB:=@Nat.lt_irrefl
def agC:=@Nat.mod_lt
def agD:=@Bool.decide_and
def agE:=@List.filter_nil
def agF:=@List.find?_cons
def agG:=@Nat.le_of_lt
def agH:=@cond_true
def agI:=@gt_iff_lt
inductive V where
 |x (v:Value)
 |agg (cs:List V)
 |tup (vs:List V)
 |sl (nl:Bool) (sz:Nat) (es:List V) (tok:Option Nat)
 |ptr (s off:Nat)
 |ip (cs:List V)
 |dyn (t:TypeId)
 |row (s sz len:Nat)
 |bx (cs:List V)
 |mp (s:Nat) (ks vs:List V)
 |fm (ks vs:List V)
 |undef
abbrev V.int(k:IntKind)(n:Int):V:= .x (.int k n)
abbrev V.bool(b:Bool):V:= .x (.bool b)
abbrev V.str(s:ByteArray):V:= .x (.string s)
abbrev V.i(n:Int):V:= .x (.int .i64 n)
abbrev V.l(z:Nat)(l:List V):V:= .sl false z l none
abbrev _root_.Go.Value.p(g:Nat):Value:= .pointer (some ⟨g,0,none⟩)
abbrev _root_.Go.Value.s(g n c:Nat):Value:= .slice (some ⟨g,0,none⟩) n c
abbrev U:=List V
def V.cells:V->List V
 | .agg cs=>cs
 |v=>[v]
def V.dat:V->Bool
 | .undef=>false
 | .ptr .. =>false
 | .row .. =>false
 | .bx _=>false
 | .mp .. =>false
 | .x (.agg _)=>false
 | .x (.tuple _)=>false
 | .tup _=>false
 | .sl _ _ _ (some _)=>false
 |_=>true
def V.one:V->Option Value
 | .x v=>some v
 |_=>none
def V.val:V->Option Value
 | .x v=>some v
 | .agg cs=>(cs.mapM V.one).map fun l=> .agg l.toArray
 |_=>none
def plainK:V->Bool
 | .x (.int _ _)=>true
 | .x (.string _)=>true
 | .x (.bool _)=>true
 | .agg cs=>cs.all fun c=>match c with| .x (.int _ _)=>true| .x (.string _)=>true| .x (.bool _)=>true|_=>false
 |_=>false
abbrev Lim:=Nat->Option Nat
inductive Rd (m:Lim) (w:World):Value->V->Prop
 |undef (v:Value):Rd m w v .undef
 |x (v:Value):Rd m w v (.x v)
 |dyn (t:TypeId) (v:Value):Rd m w (.iface t v) (.dyn t)
 |agg (cs:Array Value) (Cs:List V) (hl:cs.size=Cs.length)
  (h:∀(i:Nat) (v:Value) (u:V),cs[i]?=some v->Cs[i]?=some u->Rd m w v u):Rd m w (.agg cs) (.agg Cs)
 |tup (cs:Array Value) (Cs:List V) (hl:cs.size=Cs.length)
  (h:∀(i:Nat) (v:Value) (u:V),cs[i]?=some v->Cs[i]?=some u->Rd m w v u):Rd m w (.tuple cs) (.tup Cs)
 |nil (sz:Nat) (tok:Option Nat):Rd m w (.slice none 0 0) (.sl true sz [] tok)
 |sl (blk off cap sz:Nat) (es:List V) (tok:Option Nat) (c:Nat->Value) (hb:blk<w.heap.size) (hcap:es.length<=cap)
  (hsz:∀(i:Nat) (e:V),es[i]?=some e->e.cells.length=sz)
  (hc:∀k,k<es.length*sz->w.cell? ⟨blk,off+k,none⟩=some (c k))
  (hm:∀fr,m blk=some fr->off+es.length*sz<=fr)
  (hr:∀(i:Nat) (e:V),es[i]?=some e->∀(j:Nat) (d:V),e.cells[j]?=some d->Rd m w (c (i*sz+j)) d):
  Rd m w (.slice (some ⟨blk,off,none⟩) es.length cap) (.sl false sz es tok)
 |emp (a:Addr) (cap sz:Nat):Rd m w (.slice (some a) 0 cap) (.sl false sz [] none)
 |ip (blk off:Nat) (cs:List V) (c:Nat->Value) (hb:blk<w.heap.size)
  (hc:∀k,k<cs.length->w.cell? ⟨blk,off+k,none⟩=some (c k))
  (hm:∀fr,m blk=some fr->off+cs.length<=fr)
  (hr:∀(k:Nat) (d:V),cs[k]?=some d->Rd m w (c k) d):Rd m w (.pointer (some ⟨blk,off,none⟩)) (.ip cs)
 |fm (blk:Nat) (ks vs:List V) (ents:Array MapEntry) (clock:Nat) (hb:blk<w.heap.size) (hh:w.heap[blk]?=some (.map ents clock)) (hm:m blk=none)
  (hk:ents.size=ks.length) (hv:ents.size=vs.length) (hkey:∀(i:Nat) (e:MapEntry) (k:V),ents[i]?=some e->ks[i]?=some k->plainK k=true∧k.val=some e.key)
  (hbn:(∀e∈ents.toList,e.born<clock)∧(ents.toList.map (·.born)).Nodup) (hd:∀(i:Nat) (d:V),vs[i]?=some d->d.dat=true)
  (hr:∀(i:Nat) (e:MapEntry) (d:V),ents[i]?=some e->vs[i]?=some d->Rd m w e.val d):Rd m w (.map (some blk)) (.fm ks vs)
structure Ext (m:Lim) (w:World) (m':Lim) (w':World):Prop where
 size:w.heap.size<=w'.heap.size
 cell:∀blk off v,blk<w.heap.size->(∀fr,m blk=some fr->off<fr)->w.cell? ⟨blk,off,none⟩=some v->w'.cell? ⟨blk,off,none⟩=some v
 lim:∀blk,blk<w.heap.size->∀fr',m' blk=some fr'->∃fr,m blk=some fr∧fr<=fr'
 map:∀blk es c,m blk=none->w.heap[blk]?=some (.map es c)->w'.heap[blk]?=some (.map es c)
theorem Ext.refl(m:Lim)(w:World):Ext m w m w:=⟨adp _,fun _ _ _ _ _ h=>h,fun _ _ fr' h=>⟨fr',h,adp _⟩,fun _ _ _ _ h=>h⟩
variable{m m':Lim}{w w':World}
theorem Ext.noLim(h:Ext m w m' w'){blk:Nat}(hb:blk<w.heap.size)(hm:m blk=none):m' blk=none:=by
 cases h':m' blk with
 |none=>rfl
 |some fr=>obtain⟨fr',h1,_⟩:=h.lim blk hb fr h';rw[hm] at h1;cases h1
theorem eA{k:Nat}{es:Array MapEntry}{c:Nat}(h:w.heap[k]?=some (.map es c)):k<w.heap.size:=by
 by_cases hk:k<w.heap.size
 . exact hk
 . rw[afh (by omega)] at h;cases h
theorem Ext.trans{m1 m2:Lim}{w1 w2:World}(h:Ext m w m1 w1)(k:Ext m1 w1 m2 w2):Ext m w m2 w2:=by
 refine⟨adJ h.size k.size,fun blk off v hb hm hc=>?_,fun blk hb fr' h'=>?_,fun blk es c hm hc=>?_⟩
 . refine k.cell blk off v (ad1 hb h.size) (fun fr hf=>?_) (h.cell blk off v hb hm hc);obtain⟨fr0,h0,hle⟩:=h.lim blk hb fr hf;exact ad1 (hm fr0 h0) hle
 . obtain⟨fr1,h1,hle⟩:=k.lim blk (ad1 hb h.size) fr' h';obtain⟨fr0,h0,hle0⟩:=h.lim blk hb fr1 h1;exact⟨fr0,h0,adJ hle0 hle⟩
 . exact k.map _ _ _ (h.noLim (eA hc) hm) (h.map _ _ _ hm hc)
theorem Rd.mono(he:Ext m w m' w'){v:Value}{u:V}(h:Rd m w v u):Rd m' w' v u:=by
 induction h with
 |undef v=>exact .undef v
 |x v=>exact .x v
 |dyn t v=>exact .dyn t v
 |agg cs Cs hl _ ih=>exact .agg cs Cs hl ih
 |tup cs Cs hl _ ih=>exact .tup cs Cs hl ih
 |nil sz tok=>exact .nil sz tok
 |emp a cap sz=>exact .emp a cap sz
 | sl blk off cap sz es tok c hb hcap hsz hc hm _ ih=>
   refine .sl blk off cap sz es tok c (ad1 hb he.size) hcap hsz (fun k hk=>?_) (fun fr' hf=>?_) ih
   . exact wX
   . exact wI
 | ip blk off cs c hb hc hm _ ih=>
   refine .ip blk off cs c (ad1 hb he.size) (fun k hk=>?_) (fun fr' hf=>?_) ih
   . exact wX
   . exact wI
 |fm blk ks vs ents clock hb hh hm hk hv hkey hbn hd _ ih=>exact .fm blk ks vs ents clock (ad1 hb he.size) (he.map _ _ _ hm hh) (he.noLim hb hm) hk hv hkey hbn hd ih
theorem Ext.of_below(h:Below w.heap.size w w')(hm:∀blk,blk<w.heap.size->m' blk=m blk):Ext m w m' w':=
 ⟨h.size,fun blk off v hb _ hc=>by rw[h.cell (p:=⟨blk,off,none⟩) hb];exact hc,fun blk hb fr' hf=>⟨fr',by rw[<-hm blk hb];exact hf,adp _⟩,fun blk es c _ hc=>by rw[h.block _ (eA hc)];exact hc⟩
def RdL(m:Lim)(w:World):List Value->List V->Prop
 |[],[]=>True
 |v::vs,u::us=>Rd m w v u∧RdL m w vs us
 |_,_=>False
theorem RdL.mono{m m':Lim}{w w':World}(he:Ext m w m' w'):∀{vs:List Value} {us:List V},RdL m w vs us->RdL m' w' vs us
 |[],[],_=>trivial
 |_::_,_::_,h=>⟨h.1.mono he,RdL.mono he h.2⟩
theorem RdL.length{m:Lim}{w:World}:∀{vs:List Value} {us:List V},RdL m w vs us->vs.length=us.length
 |[],[],_=>rfl
 |_::_,_::_,h=>by simp[RdL.length h.2]
theorem RdL.get{m:Lim}{w:World}:∀{vs:List Value} {us:List V},RdL m w vs us->∀(i:Nat) (v:Value) (u:V),vs[i]?=some v->us[i]?=some u->Rd m w v u
 |[],[],_,i,v,u,h,_=>by simp at h
 | v0::vs,u0::us,h,i,v,u,hv,hu=>by
   cases i with
   |zero=>simp at hv hu;subst hv hu;exact h.1
   |succ i=>exact RdL.get h.2 i v u (by simpa using hv) (by simpa using hu)
theorem RdL.of_get{m:Lim}{w:World}:∀{vs:List Value} {us:List V},vs.length=us.length->(∀(i:Nat) (v:Value) (u:V),vs[i]?=some v->us[i]?=some u->Rd m w v u)->RdL m w vs us
 |[],[],_,_=>trivial
 |v0::vs,u0::us,hl,h=>⟨h 0 v0 u0 rfl rfl,RdL.of_get (by simpa using hl) (fun i v u hv hu=>h (i+1) v u (by simpa using hv) (by simpa using hu))⟩
 |[],_::_,hl,_=>by simp at hl
 |_::_,[],hl,_=>by simp at hl
variable{v:Value}{Cs:List V}
theorem Rd.agg_iff:Rd m w v (.agg Cs)↔∃cs:Array Value,v= .agg cs∧RdL m w cs.toList Cs:=by
 constructor
 . intro h;cases h with
   |agg cs _ hl h=>exact xD
 . rintro⟨cs,rfl,h⟩;exact .agg cs Cs (by simpa using h.length) (fun i v u hv hu=>h.get i v u (by simpa using hv) hu)
theorem Rd.tup_iff:Rd m w v (.tup Cs)↔∃cs:Array Value,v= .tuple cs∧RdL m w cs.toList Cs:=by
 constructor
 . intro h;cases h with
   |tup cs _ hl h=>exact xD
 . rintro⟨cs,rfl,h⟩;exact .tup cs Cs (by simpa using h.length) (fun i v u hv hu=>h.get i v u (by simpa using hv) hu)
theorem Rd.x_iff{u:Value}:Rd m w v (.x u)↔v=u:=by
 constructor
 . intro h;cases h;rfl
 . rintro rfl;exact .x v
variable{u:V}
theorem Rd.cells(h:Rd m w v u)(hu:u≠ .undef)(hx:∀a,u≠ .x (.agg a)):RdL m w v.cells.toList u.cells:=by
 cases h with
 |undef v=>exact absurd rfl hu
 |x v=>cases v<;>first|exact⟨.x _,trivial⟩|exact absurd rfl (hx _)
 |agg cs Cs hl h=>exact(Rd.agg_iff.1 (.agg cs Cs hl h)).elim fun a ⟨e,h⟩=>by cases e;exact h
 |tup cs Cs hl h=>exact⟨.tup cs Cs hl h,trivial⟩
 |nil sz tok=>exact⟨.nil sz tok,trivial⟩
 |emp a cap sz=>exact⟨.emp a cap sz,trivial⟩
 |dyn t v=>exact⟨.dyn t v,trivial⟩
 |sl blk off cap sz es tok c hb hcap hsz hc hm hr=>exact⟨.sl blk off cap sz es tok c hb hcap hsz hc hm hr,trivial⟩
 |ip blk off cs c hb hc hm hr=>exact⟨.ip blk off cs c hb hc hm hr,trivial⟩
 |fm blk ks vs ents clock hb hh hm hk hv hkey hbn hd hr=>exact⟨.fm blk ks vs ents clock hb hh hm hk hv hkey hbn hd hr,trivial⟩
structure Env where
 P:Program
 F:FuncId->Option (List V->Option V)
 G:Nat->V
 J:World->Prop
 M:Nat->Bool
 FP:FuncId->Option (U->Option (V×List U))
 K:Nat
 MB:Nat->Bool
 any:Nat->Bool
 X:FuncId->List Value->Option (U->Option (V×List U)):=fun _ _=>none
 xk:Nat:=0
 FM:FuncId->Option (U->Option (U×U)):=fun _=>none
 lit:Nat->Bool:=fun _=>false
 fz:Nat->Bool:=fun _=>false
structure St where
 t:Nat->V
 b:Nat->Option (List V)
def upd{α:Type}(f:Nat->α)(i:Nat)(v:α):Nat->α:=fun j=>if j=i then v else f j
variable{α:Type}
theorem aj(f:Nat->α)(i:Nat)(v:α):upd f i v i=v:=adl rfl
theorem ah(f:Nat->α){i j:Nat}(v:α)(h:j≠i):upd f i v j=f j:=adq h
theorem aJ(f:Nat->α)(i j:Nat)(v:α):upd f i v j=if j=i then v else f j:=rfl
def sa:V->V
 | .sl nl sz es _=> .sl nl sz es none
 |v=>v
theorem C9:∃f:V->V,∀u,f u=sa u:=⟨sa,fun _=>rfl⟩
def V.bare:V->V:=Classical.choose C9
theorem bA(u:V):u.bare=sa u:=ad7 C9 u
theorem dB(v:Value):(V.x v).bare= .x v:=bA _
theorem dY(v:List V):(V.agg v).bare= .agg v:=bA _
theorem eT(v:List V):(V.tup v).bare= .tup v:=bA _
theorem mn(v:List V):(V.ip v).bare= .ip v:=bA _
theorem pa(s o:Nat):(V.ptr s o).bare= .ptr s o:=bA _
theorem pb(s z l:Nat):(V.row s z l).bare= .row s z l:=bA _
theorem oO(s:Nat)(ks vs:List V):(V.mp s ks vs).bare= .mp s ks vs:=bA _
theorem oP(ks vs:List V):(V.fm ks vs).bare= .fm ks vs:=bA _
theorem fi:V.undef.bare= .undef:=bA _
theorem dV(nl:Bool)(sz:Nat)(es:List V)(tok:Option Nat):(V.sl nl sz es tok).bare= .sl nl sz es none:=bA _
def Y4:V->V
 | .sl true _ [] _=> .sl true 0 [] none
 |v=>sa v
theorem Qv:∃f:V->V,∀u,f u=Y4 u:=⟨Y4,fun _=>rfl⟩
def V.pc:V->V:=Classical.choose Qv
theorem oa(u:V):u.pc=Y4 u:=ad7 Qv u
def jS:Op->Bool
 | .move _| .assign _| .pick .. =>true
 |_=>false
theorem Da:∃f:Op->V->V,∀op u,f op u=bif jS op then u else u.bare:=⟨fun op u=>bif jS op then u else u.bare,fun _ _=>rfl⟩
def dG:Op->V->V:=Classical.choose Da
theorem dZ(op:Op)(u:V):dG op u=bif jS op then u else u.bare:=ad7 Da op u
theorem z7(x:Operand)(u:V):dG (.move x) u=u:=dZ _ _
theorem tI(x:Operand)(u:V):dG (.assign x) u=u:=dZ _ _
theorem z8(c x y:Operand)(u:V):dG (.pick c x y) u=u:=dZ _ _
theorem cS(op:Op){u:V}(h:u.bare=u):dG op u=u:=by rw[dZ];cases jS op<;>simp[h]
theorem MY(op:Op)(v:Value):dG op (.x v)= .x v:=cS op (dB v)
theorem sc(op:Op)(v:List V):dG op (.agg v)= .agg v:=cS op (dY v)
theorem EK(op:Op)(v:List V):dG op (.tup v)= .tup v:=cS op (eT v)
theorem H6(op:Op)(v:List V):dG op (.ip v)= .ip v:=cS op (mn v)
theorem EM(op:Op)(s o:Nat):dG op (.ptr s o)= .ptr s o:=cS op (pa s o)
theorem sd(op:Op)(s z l:Nat):dG op (.row s z l)= .row s z l:=cS op (pb s z l)
theorem H7(op:Op)(s:Nat)(ks vs:List V):dG op (.mp s ks vs)= .mp s ks vs:=cS op (oO s ks vs)
theorem H8(op:Op)(ks vs:List V):dG op (.fm ks vs)= .fm ks vs:=cS op (oP ks vs)
theorem H9(op:Op)(nl:Bool)(sz:Nat)(es:List V):dG op (.sl nl sz es none)= .sl nl sz es none:=cS op (dV _ _ _ _)
def js(s:Nat):V->V
 | .sl nl sz es (some s')=> .sl nl sz es (if s'=s then none else some s')
 |v=>v
theorem vz:∃f:Nat->V->V,∀s u,f s u=js s u:=⟨js,fun _ _=>rfl⟩
def cK:Nat->V->V:=Classical.choose vz
theorem bj(s:Nat)(u:V):cK s u=js s u:=ad7 vz s u
def strip(s:Nat)(t:Nat->V):Nat->V:=fun i=>cK s (t i)
def nn:Option Nat->(Nat->V)->(Nat->V)
 |none,t=>t
 |some s,t=>strip s t
theorem vA(t:Nat->V):nn none t=t:=rfl
def V.unm:V->Bool
 | .sl _ _ _ (some _)=>false
 |_=>true
def V.isSl:V->Bool
 | .sl .. =>true
 |_=>false
def aG(E:Env)(k:Nat)(b:Nat->Option (List V)):Nat->Option (List V):=fun s=>if E.MB s=true then (b s).map (List.map (cK k)) else b s
def tJ(E:Env):Option Nat->(Nat->Option (List V))->(Nat->Option (List V))
 |none,b=>b
 |some k,b=>aG E k b
def Db(E:Env)(b:Nat->Option (List V)):Nat->Option (List V):=fun s=>if E.MB s=true then (b s).map (List.map V.bare) else b s
def Env.kept(E:Env)(s:Nat)(u:V):V:=if E.MB s=true then u else u.bare
def Env.okS(E:Env)(s:Nat)(u:V):Bool:= !E.MB s||(u.isSl||u.cells.all V.unm)
def Env.okN(E:Env)(d:Option Nat)(cs:List V):Bool:=match d with
 |some s=> !E.MB s||cs.all V.unm
 |none=>true
def Env.isMB(E:Env):V->Bool
 | .ptr s _=>E.MB s
 |_=>false
def Env.keepL(E:Env)(p u:V):V:=if E.isMB p=true then u else u.bare
def V.nm:V->Option Nat
 | .ptr s _=>some s
 | .row s _ _=>some s
 | .mp s _ _=>some s
 |_=>none
@[simp] theorem ada(s:Nat)(ks vs:List V):(V.mp s ks vs).nm=some s:=rfl
@[simp] theorem adk(v:Value):(V.x v).nm=none:=rfl
@[simp] theorem Ze(v:List V):(V.agg v).nm=none:=rfl
@[simp] theorem Zf(v:List V):(V.tup v).nm=none:=rfl
@[simp] theorem adb(v:List V):(V.ip v).nm=none:=rfl
@[simp] theorem adc(ks vs:List V):(V.fm ks vs).nm=none:=rfl
@[simp] theorem Zg(t:TypeId):(V.dyn t).nm=none:=rfl
@[simp] theorem TW:V.undef.nm=none:=rfl
@[simp] theorem ade(nl:Bool)(sz:Nat)(es:List V)(tok:Option Nat):(V.sl nl sz es tok).nm=none:=rfl
@[simp] theorem adf(c:List V):(V.bx c).nm=none:=rfl
@[simp] theorem Zh(s o:Nat):(V.ptr s o).nm=some s:=rfl
@[simp] theorem Zi(s z l:Nat):(V.row s z l).nm=some s:=rfl
def Dc(s:Nat):V->V
 | .ptr s' o=>if s'=s then .undef else .ptr s' o
 | .row s' z l=>if s'=s then .undef else .row s' z l
 | .mp s' ks vs=>if s'=s then .undef else .mp s' ks vs
 |v=>v
theorem Dd:∃f:Nat->V->V,∀s u,f s u=Dc s u:=⟨Dc,fun _ _=>rfl⟩
def fB:Nat->V->V:=Classical.choose Dd
theorem dH(s:Nat)(u:V):fB s u=Dc s u:=ad7 Dd s u
def kill(s:Nat)(t:Nat->V):Nat->V:=fun i=>fB s (t i)
theorem mq(s:Nat)(u:V):fB s u=u∧u.nm≠some s∨fB s u= .undef∧u.nm=some s:=by
 rw[dH];cases u<;>simp[Dc]
 . rename_i s' o;by_cases h:s'=s<;>simp[h]
 . rename_i s' z l;by_cases h:s'=s<;>simp[h]
 . rename_i s' ks vs;by_cases h:s'=s<;>simp[h]
def V.notPtr:V->Bool
 | .ptr .. =>false
 | .row .. =>false
 | .bx _=>false
 | .mp .. =>false
 |_=>true
def np:Option V->Option V
 |some u=>if u.notPtr=true then some u else none
 |none=>none
theorem f9{r:Option V}(h:np r=some u):r=some u∧u.notPtr=true:=by
 cases r with
 |none=>simp[np] at h
 | some v=>
   simp only[np] at h;split at h
   . rename_i hn;cases h;exact⟨rfl,hn⟩
   . simp at h
def eO:Value->V
 | .slice none 0 0=> .sl true 0 [] none
 |v=> .x v
def ev(E:Env)(st:St):Operand->V
 | .tmp i=>st.t i
 | .const v=>eO v
 | .global g=>(E.G g).bare
 | .func f=> .x (.func (.func f) #[] #[])
def St.put(st:St)(d:Option Tmp)(v:V):St:=
 match d with
 |some i=>⟨upd st.t i v,st.b⟩
 |none=>st
def aR(P:Program)(t:TypeId):Option Bool:=
 match P.underlying t with
 |some (.struct _)=>some true
 |some (.array _ _)=>some true
 |some _=>some false
 |none=>none
def bo(P:Program)(t:TypeId):Option Nat:=(P.info? t).map (·.size)
def bY(P:Program)(t:TypeId):Option Nat:=(P.info? t).map (·.bytes)
def aB(P:Program)(t:TypeId):Option (List V):=((P.info? t).bind (·.zero)).map fun z=>z.cells.toList.map eO
def dp(P:Program)(t:TypeId)(cs:List V)(off:Nat):Option V:=
 match aR P t,bo P t with
 |some true,some n=>if off+n<=cs.length then some (.agg ((cs.drop off).take n)) else none
 |some false,some _=>cs[off]?
 |_,_=>none
theorem vC:∃f:IntKind->Int->Int,∀k a,f k a=k.wrap a:=⟨fun k a=>k.wrap a,fun _ _=>rfl⟩
def az:IntKind->Int->Int:=Classical.choose vC
theorem iP(k:IntKind)(a:Int):az k a=k.wrap a:=ad7 vC k a
theorem De:∃f:IntKind->Int->Int->Int,∀k a b,f k a b=k.wrap (BitVec.ofInt k.bits a&&&BitVec.ofInt k.bits b).toNat:=⟨fun k a b=>k.wrap (BitVec.ofInt k.bits a&&&BitVec.ofInt k.bits b).toNat,fun _ _ _=>rfl⟩
def TY:IntKind->Int->Int->Int:=Classical.choose De
theorem MZ(k:IntKind)(a b:Int):TY k a b=k.wrap (BitVec.ofInt k.bits a&&&BitVec.ofInt k.bits b).toNat:=ad7 De k a b
theorem Ia:∃f:IntKind->Int->Int->Int,∀k a b,f k a b=k.wrap (BitVec.ofInt k.bits a|||BitVec.ofInt k.bits b).toNat:=⟨fun k a b=>k.wrap (BitVec.ofInt k.bits a|||BitVec.ofInt k.bits b).toNat,fun _ _ _=>rfl⟩
def bOr:IntKind->Int->Int->Int:=Classical.choose Ia
theorem Ra(k:IntKind)(a b:Int):bOr k a b=k.wrap (BitVec.ofInt k.bits a|||BitVec.ofInt k.bits b).toNat:=ad7 Ia k a b
theorem Df:∃f:IntKind->Int->Int->Int,∀k a b,f k a b=k.wrap (BitVec.ofInt k.bits a^^^BitVec.ofInt k.bits b).toNat:=⟨fun k a b=>k.wrap (BitVec.ofInt k.bits a^^^BitVec.ofInt k.bits b).toNat,fun _ _ _=>rfl⟩
def TZ:IntKind->Int->Int->Int:=Classical.choose Df
theorem M0(k:IntKind)(a b:Int):TZ k a b=k.wrap (BitVec.ofInt k.bits a^^^BitVec.ofInt k.bits b).toNat:=ad7 Df k a b
theorem pf:∃f:IntKind->Int->Int->Int,∀k a b,f k a b=k.wrap (BitVec.ofInt k.bits a&&& ~~~ BitVec.ofInt k.bits b).toNat:=⟨fun k a b=>k.wrap (BitVec.ofInt k.bits a&&& ~~~ BitVec.ofInt k.bits b).toNat,fun _ _ _=>rfl⟩
def Dg:IntKind->Int->Int->Int:=Classical.choose pf
theorem Aa(k:IntKind)(a b:Int):Dg k a b=k.wrap (BitVec.ofInt k.bits a&&& ~~~ BitVec.ofInt k.bits b).toNat:=ad7 pf k a b
theorem Dh:∃f:IntKind->Int->Int->Int,∀k a b,f k a b=k.wrap (a*2^(min b.toNat k.bits)):=⟨fun k a b=>k.wrap (a*2^(min b.toNat k.bits)),fun _ _ _=>rfl⟩
def T1:IntKind->Int->Int->Int:=Classical.choose Dh
theorem M1(k:IntKind)(a b:Int):T1 k a b=k.wrap (a*2^(min b.toNat k.bits)):=ad7 Dh k a b
theorem Di:∃f:IntKind->Int->Int->Int,∀k a b,f k a b=a.fdiv (2^(min b.toNat k.bits)):=⟨fun k a b=>a.fdiv (2^(min b.toNat k.bits)),fun _ _ _=>rfl⟩
def T2:IntKind->Int->Int->Int:=Classical.choose Di
theorem M2(k:IntKind)(a b:Int):T2 k a b=a.fdiv (2^(min b.toNat k.bits)):=ad7 Di k a b
def Ab(op:BinOp)(k:IntKind)(a b:Int):Option V:=
 match op with
 | .add=>some (.int k (az k (a+b)))
 | .sub=>some (.int k (az k (a-b)))
 | .mul=>some (.int k (az k (a*b)))
 | .quo=>if b=0 then none else some (.int k (az k (a.tdiv b)))
 | .rem=>if b=0 then none else some (.int k (a.tmod b))
 | .and=>some (.int k (TY k a b))
 | .or=>some (.int k (bOr k a b))
 | .xor=>some (.int k (TZ k a b))
 | .andNot=>some (.int k (Dg k a b))
 | .eql=>some (.bool (decide (a=b)))
 | .neq=>some (.bool (!decide (a=b)))
 | .lss=>some (.bool (decide (a<b)))
 | .leq=>some (.bool (decide (a<=b)))
 | .gtr=>some (.bool (decide (b<a)))
 | .geq=>some (.bool (decide (b<=a)))
 |_=>none
def Ib(a b:ByteArray):Option V:=if ((a.size+b.size:Nat):Int)>IntKind.i64.max then none else some (.str (a++b))
def Ac(op:BinOp)(a b:ByteArray):Option V:=
 match op with
 | .add=>Ib a b
 | .eql=>some (.bool (decide (a=b)))
 | .neq=>some (.bool (!decide (a=b)))
 | .lss=>some (.bool (Op.bytesLess a.toList b.toList))
 | .leq=>some (.bool (Op.bytesLess a.toList b.toList||decide (a=b)))
 | .gtr=>some (.bool (!(Op.bytesLess a.toList b.toList||decide (a=b))))
 | .geq=>some (.bool (!Op.bytesLess a.toList b.toList))
 |_=>none
def T4(P:Program)(go:TypeId->V->V->Option Bool):List Field->List V->List V->Option Bool
 |[],_,_=>some true
 | f ::fs,xs,ys=>
   if f.name= "_" then none else
   match dp P f.type xs f.offset,dp P f.type ys f.offset with
   | some x,some y=>
     match go f.type x y,T4 P go fs xs ys with
     |some p,some q=>some (p&&q)
     |_,_=>none
   |_,_=>none
def vp(P:Program):Nat->TypeId->V->V->Option Bool
 |0,_,_,_=>none
 | d+1,t,x,y=>
   match P.underlying t,x,y with
   |some .bool,.x (.bool a),.x (.bool b)=>some (a==b)
   |some (.int _),.x (.int k a),.x (.int k' b)=>if k=k' then some (decide (a=b)) else none
   |some .string,.x (.string a),.x (.string b)=>some (decide (a=b))
   |some (.struct fs),.agg xs,.agg ys=>if P.stoodInHeld t then none else T4 P (vp P d) fs.toList xs ys
   |_,_,_=>none
def MQ:Operand->Bool
 | .const _=>true
 |_=>false
def Ad(P:Program)(lit:Bool)(op:BinOp)(t:TypeId)(u v:V):Option V:=
 match u,v with
 | .x (.int k a),.x (.int k' b)=>
   match op with
   | .shl=>if b<0 then none else some (.int k (T1 k a b))
   | .shr=>if b<0 then none else some (.int k (T2 k a b))
   |_=>if k=k' then Ab op k a b else none
 | .x (.string a),.x (.string b)=>Ac op a b
 | .x (.bool a),.x (.bool b)=>
   match op,P.underlying t with
   | .eql,some .bool=>some (.bool (a==b))
   | .neq,some .bool=>some (.bool (!(a==b)))
   |_,_=>none
 | .agg xs,.agg ys=>
   if P.eqGuardType P.depth t then none else
   match op,vp P 20 t (.agg xs) (.agg ys) with
   | .eql,some b=>some (.bool b)
   | .neq,some b=>some (.bool (!b))
   |_,_=>none
 | .sl a _ _ _,.sl b _ es _=>
   match op,P.underlying t with
   | .eql,some (.slice _)=>if b&&es.isEmpty then some (.bool a) else none
   | .neq,some (.slice _)=>if b&&es.isEmpty then some (.bool (!a)) else none
   |_,_=>none
 | .dyn _,.x .nilIface=>
   match op,P.underlying t with
   | .eql,some (.interface _)=>some (.bool false)
   | .neq,some (.interface _)=>some (.bool true)
   |_,_=>none
 | .ip _,.x (.pointer none)=>
   match op,P.underlying t with
   | .eql,some (.pointer _)=>some (.bool false)
   | .neq,some (.pointer _)=>some (.bool true)
   |_,_=>none
 | .ptr _ _,.x (.pointer none)=>
   match op,P.underlying t with
   | .eql,some (.pointer _)=>some (.bool false)
   | .neq,some (.pointer _)=>some (.bool true)
   |_,_=>none
 | .x .nilIface,.x .nilIface=>
   if lit=true then
    match op,P.underlying t with
    | .eql,some (.interface _)=>some (.bool true)
    | .neq,some (.interface _)=>some (.bool false)
    |_,_=>none
   else none
 |_,_=>none
def vD(t:Bool):V->V->V
 | .x (.bool p),.x (.bool q)=> .bool (bif t then p else q)
 |u,v=>if t then u else v
def mr(place:Nat->Option (Nat×Nat))(cells:List V):List (Nat×V)->Option (List V)
 |[]=>some cells
 | (i,v)::rest=>
   match place i with
   |none=>none
   | some (off,size)=>
     if v.dat=false∨v.cells.length≠size∨off+size>cells.length then none
     else mr place (cells.take off++v.cells++cells.drop (off+size)) rest
def nq(P:Program)(t:TypeId)(parts:List (Nat×V)):Option V:=
 match aB P t,P.underlying t with
 | some z,some (.struct fs)=>
   match fs.toList.mapM (fun f=>(bo P f.type).map fun n=>(f.offset,n)) with
   | some l=>
     match mr (l[·]?) z parts with
     |some cs=>some (.agg cs)
     |none=>none
   |none=>none
 |_,_=>none
def eP(s:ByteArray)(i:Int):Int:=((s.data[i.toNat]?).getD 0).toNat
def T5(s:ByteArray)(l h:Int):ByteArray:=s.extract l.toNat h.toNat
def dq(e:Operand->V)(d:Int):Option Operand->Option Int
 |none=>some d
 | some o=>match e o with
   | .x (.int _ i)=>some i
   |_=>none
def Rb(a b:Int):Int:=if b>a then b else a
def EO(a b:Int):Int:=if b<a then b else a
def rB(P:Program):Nat->TypeId->V->Bool
 |0,_,_=>false
 | d+1,t,u=>match P.underlying t,u with
   |some (.int _),.x (.int _ _)=>true
   |some .string,.x (.string _)=>true
   |some .bool,.x (.bool _)=>true
   |some (.struct fs),.agg cs=>fs.toList.all fun f=>decide (f.name≠ "_")&&(match dp P f.type cs f.offset with|some p=>rB P d f.type p|none=>false)
   |_,_=>false
def fg(P:Program)(t:TypeId)(u:V):Bool:=plainK u&&rB P 20 t u
def iF(P:Program)(t:TypeId)(k:V):List V->Nat->Option (Option Nat)
 |[],_=>some none
 | k'::ks,i=>match vp P 20 t k k' with
   |some true=>some (some i)
   |some false=>iF P t k ks (i+1)
   |none=>none
def aO(P:Program)(t:TypeId):Option V:=
 match (P.info? t).bind (·.zero) with
 |some (.agg cs)=>some (.agg (cs.toList.map eO))
 |some v=>some (eO v)
 |none=>none
def V.kv:V->Option (List V×List V)
 | .mp _ ks vs=>some (ks,vs)
 | .fm ks vs=>some (ks,vs)
 |_=>none
theorem T6(s:Nat)(ks vs:List V):(V.mp s ks vs).kv=some (ks,vs):=rfl
theorem Qw(ks vs:List V):(V.fm ks vs).kv=some (ks,vs):=rfl
def ia(P:Program)(t:TypeId)(m k:V)(ok:Bool):Option V:=
 match P.underlying t,m.kv with
 | some (.map kt et),some (ks,vs)=>if fg P kt k=true then
  match iF P kt k ks 0 with
  |some (some i)=>(vs[i]?).map fun v=>if ok=true then .tup [v,.x (.bool true)] else v
  |some none=>(aO P et).map fun v=>if ok=true then .tup [v,.x (.bool false)] else v
  |none=>none
   else none
 |_,_=>none
def ns(P:Program)(t:TypeId)(ks vs:List V)(k v:V):Option (List V×List V):=
 match P.underlying t with
 | some (.map kt _)=>if fg P kt k=true∧v.dat=true then
  match iF P kt k ks 0 with
  |some (some i)=>open Classical in if ks[i]?=some k then some (ks,vs.set i v) else none
  |some none=>some (ks++[k],vs++[v])
  |none=>none
   else none
 |_=>none
def vE(s:Nat)(ks vs:List V):V->V
 | .mp s' ks' vs'=>if s'=s then .mp s ks vs else .mp s' ks' vs'
 |v=>v
theorem Dj:∃f:Nat->List V->List V->V->V,∀s ks vs u,f s ks vs u=vE s ks vs u:=⟨vE,fun _ _ _ _=>rfl⟩
def dW:Nat->U->U->V->V:=Classical.choose Dj
theorem dc(s:Nat)(ks vs:U)(u:V):dW s ks vs u=vE s ks vs u:=ad7 Dj s ks vs u
def rD(s:Nat)(ks vs:U)(t:Nat->V):Nat->V:=fun i=>dW s ks vs (t i)
def aW(E:Env)(op:Op)(e:Operand->V):Option V:=
 match op with
 | .move x| .assign x=>some (e x)
 | .pick c a b=>match e c with
   | .x (.bool t)=>some (vD t (e a) (e b))
   |_=>none
 | .nilCheck x=>match e x with
   | .ptr s off=>some (.ptr s off)
   | .ip cs=>some (.ip cs)
   |_=>none
 | .binOp op t x y _=>Ad E.P (MQ x||MQ y) op t (e x) (e y)
 | .unOp .not _ x=>match e x with
   | .x (.bool b)=>some (.bool (!b))
   |_=>none
 | .unOp .neg _ x=>match e x with
   | .x (.int k n)=>some (.int k (az k (0-n)))
   |_=>none
 | .extract x i=>match e x with
   | .tup vs=>np vs[i]?
   |_=>none
 | .field t x f=>match e x,E.P.underlying t with
   | .agg cs,some (.struct fs)=>(fs[f]?).bind fun fd=>np (dp E.P fd.type cs fd.offset)
   |_,_=>none
 | .build t parts=>nq E.P t (parts.toList.map fun p=>(p.1,(e p.2).bare))
 | .fieldAddr t x f=>match E.P.underlying t with
   | some (.struct fs)=>match fs[f]? with
     | some fd=>match bo E.P fd.type with
       | some n=>if n=0 then none else match e x with
         | .ptr s off=>some (.ptr s (off+fd.offset))
         | .ip cs=>if fd.offset<=cs.length then some (.ip (cs.drop fd.offset)) else none
         |_=>none
       |none=>none
     |none=>none
   |_=>none
 | .convert s d x=>match E.P.underlying s,E.P.underlying d,e x with
   |some (.int _),some (.int k),.x (.int _ n)=>some (.int k (az k n))
   |some .string,some .string,.x (.string s)=>some (.str s)
   |some (.int _),some .string,.x (.int _ n)=>some (.str (Utf8.encode n))
   |_,_,_=>none
 | .indexAddr t x ix=>match E.P.underlying t,e x,e ix with
   |some (.slice elem),.sl _ sz es _,.x (.int _ i)=>if bo E.P elem=some sz∧0<=i then (es[i.toNat]?).map fun u=> .ip u.cells else none
   |some (.slice elem),.row s sz len,.x (.int _ i)=>if bo E.P elem=some sz∧0<=i∧i<len then some (.ptr s (i.toNat*sz)) else none
   |_,_,_=>none
 | .index t x ix=>match E.P.underlying t,e x,e ix with
   |some .string,.x (.string s),.x (.int _ i)=>if 0<=i∧i<s.size then some (.int .u8 (eP s i)) else none
   |_,_,_=>none
 | .slice t x lo hi none=>match E.P.underlying t,e x with
   | some .string,.x (.string s)=>match dq e 0 lo,dq e s.size hi with
     |some l,some h=>if 0<=l∧l<=h∧h<=s.size then some (.str (T5 s l h)) else none
     |_,_=>none
   | some (.slice elem),.sl nl sz es _=>match dq e 0 lo,dq e es.length hi with
     |some l,some h=>if bo E.P elem=some sz∧0<=l∧l<=h∧h<=es.length then some (.sl nl sz ((es.drop l.toNat).take (h.toNat-l.toNat)) none) else none
     |_,_=>none
   | some (.slice elem),.row s sz len=>match dq e 0 lo,dq e len hi with
     |some l,some h=>if bo E.P elem=some sz∧l=0∧0<=h∧h<=len then some (.row s sz h.toNat) else none
     |_,_=>none
   |_,_=>none
 | .call {callee:= .builtin .len,args,argTypes}=>match args.toList,argTypes.toList with
   | [x],[t]=>match E.P.underlying t,e x with
     |some .string,.x (.string s)=>some (.int .i64 s.size)
     |some (.slice _),.sl _ _ es _=>some (.int .i64 es.length)
     |some (.slice _),.row _ _ len=>some (.int .i64 len)
     |some (.map _ _),.mp _ ks _=>some (.int .i64 ks.length)
     |some (.map _ _),.fm ks _=>some (.int .i64 ks.length)
     |_,_=>none
   |_,_=>none
 | .call {callee:= .builtin .max,args,..}=>match args.toList with
   | [x,y]=>match e x,e y with
     | .x (.int k a),.x (.int _ b)=>some (.int k (Rb a b))
     |_,_=>none
   |_=>none
 | .call {callee:= .builtin .min,args,..}=>match args.toList with
   | [x,y]=>match e x,e y with
     | .x (.int k a),.x (.int _ b)=>some (.int k (EO a b))
     |_,_=>none
   |_=>none
 |_=>none
def Rs(m:Lim)(w:World)(β:Nat->Nat)(v:Value)(u:V):Prop:=Rd m w v u∨(∃s off,u= .ptr s off∧v= .pointer (some ⟨β s,off,none⟩))∨(∃s sz len cap,u= .row s sz len∧v= .slice (some ⟨β s,0,none⟩) len cap∧len<=cap)∨∃s ks vs,u= .mp s ks vs∧v= .map (some (β s))
section
variable{P:Program}{m:Lim}{w:World}{β:Nat->Nat}
variable{s off:Nat}
theorem Rd.not_ptr(h:Rd m w v (.ptr s off)):False:=by cases h
variable{l:Nat}
theorem Rd.not_row{z:Nat}(h:Rd m w v (.row s z l)):False:=by cases h
variable{vs:U}
theorem Rd.not_mp{ks:U}(h:Rd m w v (.mp s ks vs)):False:=by cases h
theorem Rs.rd(h:Rs m w β v u)(hu:u.nm=none):Rd m w v u:=by
 rcases h with h|⟨s,off,rfl,_⟩|⟨s,sz,len,cap,rfl,_⟩|⟨s,ks,vs,rfl,_⟩
 . exact h
 . cases hu
 . cases hu
 . cases hu
theorem Rs.ptr(h:Rs m w β v (.ptr s off)):v= .pointer (some ⟨β s,off,none⟩):=by
 rcases h with h|⟨s',off',he,rfl⟩|⟨s',sz,len,cap,he,_⟩|⟨s',ks,vs,he,_⟩
 . exact h.not_ptr.elim
 . cases he;rfl
 . cases he
 . cases he
variable{sz:Nat}
theorem Rs.row{len:Nat}(h:Rs m w β v (.row s sz len)):∃cap,v= .slice (some ⟨β s,0,none⟩) len cap∧len<=cap:=by
 rcases h with h|⟨s',off',he,rfl⟩|⟨s',sz',len',cap,he,hv⟩|⟨s',ks,vs,he,_⟩
 . exact h.not_row.elim
 . cases he
 . cases he;exact⟨cap,hv⟩
 . cases he
theorem Rs.mp{ks:U}(h:Rs m w β v (.mp s ks vs)):v= .map (some (β s)):=by
 rcases h with h|⟨s',off',he,rfl⟩|⟨s',sz',len',cap,he,hv⟩|⟨s',ks',vs',he,hv⟩
 . exact h.not_mp.elim
 . cases he
 . cases he
 . cases he;exact hv
theorem Rs.ofMp(s:Nat)(ks vs:U):Rs m w β (.map (some (β s))) (.mp s ks vs):= .inr (.inr (.inr ⟨s,ks,vs,rfl,rfl⟩))
theorem Rs.ofPtr(s off:Nat):Rs m w β (.pointer (some ⟨β s,off,none⟩)) (.ptr s off):= .inr (.inl ⟨s,off,rfl,rfl⟩)
theorem Rs.ofRow(s sz:Nat){len cap:Nat}(h:len<=cap):Rs m w β (.slice (some ⟨β s,0,none⟩) len cap) (.row s sz len):= .inr (.inr (.inl ⟨s,sz,len,cap,rfl,rfl,h⟩))
theorem Rs.dat(h:Rs m w β v u)(hu:u.dat=true):Rd m w v u:=h.rd (by cases u<;>first|rfl|(simp[V.dat] at hu))
theorem Rs.x{u:Value}(h:Rs m w β v (.x u)):v=u:=Rd.x_iff.1 (h.rd (by intros;simp))
variable{us:U}
theorem Rs.agg(h:Rs m w β v (.agg us)):∃cs:Array Value,v= .agg cs∧RdL m w cs.toList us:=Rd.agg_iff.1 (h.rd (by intros;simp))
theorem Rs.tup(h:Rs m w β v (.tup us)):∃cs:Array Value,v= .tuple cs∧RdL m w cs.toList us:=Rd.tup_iff.1 (h.rd (by intros;simp))
theorem Rs.of(h:Rd m w v u):Rs m w β v u:= .inl h
variable{nl:Bool}{es:U}{tok:Option Nat}
theorem Rs.sl(h:Rs m w β v (.sl nl sz es tok)):∃a cap,v= .slice a es.length cap∧(nl=a.isNone)∧(nl=true->es=[]):=by
 have h:=h.rd (by intros;simp);cases h with
 |nil sz tok=>exact⟨none,0,rfl,rfl,fun _=>rfl⟩
 |emp a cap sz=>exact⟨some a,cap,rfl,rfl,fun _=>rfl⟩
 |sl blk off cap sz es tok c hb hcap hsz hc hm hr=>exact⟨_,cap,rfl,rfl,fun h=>by cases h⟩
theorem Rd.bare(h:Rd m w v u):Rd m w v u.bare:=by
 rw[bA];cases h with
 |nil sz tok=>exact .nil sz none
 |emp a cap sz=>exact .emp a cap sz
 |sl blk off cap sz es tok c hb hcap hsz hc hm hr=>exact .sl blk off cap sz es none c hb hcap hsz hc hm hr
 |undef v=>exact .undef v
 |x v=>exact .x v
 |dyn t v=>exact .dyn t v
 |fm blk ks vs ents clock hb hh hm hk hv hkey hbn hd hr=>exact .fm blk ks vs ents clock hb hh hm hk hv hkey hbn hd hr
 |agg cs Cs hl h=>exact .agg cs Cs hl h
 |tup cs Cs hl h=>exact .tup cs Cs hl h
 |ip blk off cs c hb hc hm hr=>exact .ip blk off cs c hb hc hm hr
theorem Rd.pc(h:Rd m w v u):Rd m w v u.pc:=by
 rw[oa];unfold Y4;split
 . cases h with
   |nil sz tok=>exact .nil 0 none
 . rw[<-bA];exact h.bare
theorem Rd.strip(h:Rd m w v u):Rd m w v (cK s u):=by
 rw[bj];cases h with
 |nil sz tok=>cases tok<;>exact .nil sz _
 |emp a cap sz=>exact .emp a cap sz
 |sl blk off cap sz es tok c hb hcap hsz hc hm hr=>cases tok<;>exact .sl blk off cap sz es _ c hb hcap hsz hc hm hr
 |undef v=>exact .undef v
 |x v=>exact .x v
 |dyn t v=>exact .dyn t v
 |fm blk ks vs ents clock hb hh hm hk hv hkey hbn hd hr=>exact .fm blk ks vs ents clock hb hh hm hk hv hkey hbn hd hr
 |agg cs Cs hl h=>exact .agg cs Cs hl h
 |tup cs Cs hl h=>exact .tup cs Cs hl h
 |ip blk off cs c hb hc hm hr=>exact .ip blk off cs c hb hc hm hr
theorem Rs.bare(h:Rs m w β v u):Rs m w β v u.bare:=by
 rcases h with h|⟨s,off,rfl,rfl⟩|⟨s,sz,len,cap,rfl,rfl,hl⟩|⟨s,ks,vs,rfl,rfl⟩
 . exact .inl h.bare
 . rw[pa];exact .ofPtr _ _
 . rw[pb];exact .ofRow _ _ hl
 . rw[oO];exact .ofMp _ _ _
theorem Rs.strip(h:Rs m w β v u):Rs m w β v (cK s u):=by
 rcases h with h|⟨s,off,rfl,rfl⟩|⟨s,sz,len,cap,rfl,rfl,hl⟩|⟨s,ks,vs,rfl,rfl⟩
 . exact .inl h.strip
 . rw[bj];exact .ofPtr _ _
 . rw[bj];exact .ofRow _ _ hl
 . rw[bj];exact .ofMp _ _ _
theorem Rs.kill(h:Rs m w β v u):Rs m w β v (fB s u):=by
 rcases mq s u with⟨e,_⟩|⟨e,_⟩
 . rw[e];exact h
 . rw[e];exact .of (.undef _)
theorem Rs.beta{β':Nat->Nat}(h:Rs m w β v u)(hb:∀s,u.nm=some s->β' s=β s):Rs m w β' v u:=by
 rcases h with h|⟨s,off,rfl,rfl⟩|⟨s,sz,len,cap,rfl,rfl,hl⟩|⟨s,ks,vs,rfl,rfl⟩
 . exact .inl h
 . rw[<-hb s rfl];exact .ofPtr _ _
 . rw[<-hb s rfl];exact .ofRow _ _ hl
 . rw[<-hb s rfl];exact .ofMp _ _ _
variable{t:TypeId}
theorem bN{n:Nat}(h:bo P t=some n):(sizeOf t).run P w= .ok n w:=by
 unfold bo at h;cases hi:P.info? t with
 |none=>simp[hi] at h
 |some i=>simp[hi] at h;subst h;simp[sizeOf,typeInfo,hi]
variable{d:TypeDesc}
theorem aC(h:P.underlying t=some d):(underlying t).run P w= .ok d w:=by simp[underlying,h]
theorem gE{b:Bool}(h:aR P t=some b):(isAgg t).run P w= .ok b w:=by
 unfold aR at h;cases hd:P.underlying t with
 |none=>simp[hd] at h
 |some d=>rw[hd] at h;simp only[isAgg,Gc,aC hd,Ge];cases d<;>simp at h<;>subst h<;>rfl
variable{cs:U}
theorem ib{vs:Array Value}(hr:RdL m w vs.toList cs)(h:dp P t cs off=some u):
 ∃v,(part t vs off).run P w= .ok v w∧Rd m w v u:=by
 unfold dp at h;cases ha:aR P t with
 |none=>simp[ha] at h
 | some b=>
   cases hs:bo P t with
   |none=>cases b<;>simp[ha,hs] at h
   | some n=>
     cases b with
     | true=>
       simp only[ha,hs] at h;split at h
       . rename_i hle;cases h;refine⟨_,by simp only[part,Gc,gE ha,Ge,adB,bN hs,Gd];rfl,?_⟩;rw[Rd.agg_iff];refine⟨_,rfl,RdL.of_get ?_ ?_⟩
         . have:=hr.length;simp at this⊢;omega
         . intro i v u hv hu;simp only[Array.toList_extract,List.extract_eq_take_drop] at hv;rw[ad6] at hv hu;split at hv
           . rename_i hi;rw[adl (by omega)] at hu;rw[aeA] at hv hu;exact hr.get _ v u hv hu
           . simp at hv
       . simp at h
     | false=>
       simp only[ha,hs] at h;have hl:=hr.length;have hlt:off<cs.length:=by
        rcases aeb off cs.length with h'|h'
        . exact h'
        . simp[adM h'] at h
       have hv:vs[off]?=some (vs[off]'(by simp at hl;omega)):=adG _;refine⟨_,by simp only[part,Gc,gE ha,Ge,adI,adw,hv,Gd];rfl,?_⟩;exact hr.get off _ u (by simp) h
theorem se(a b:ByteArray):(a.toList==b.toList)=decide (a=b):=by rw[<-beq_toListBytes];obtain⟨⟨x⟩⟩:=a;obtain⟨⟨y⟩⟩:=b;show((⟨x⟩:Array UInt8)==⟨y⟩)=_;rw[ae3];simp
theorem Ae(a b:Int):(a==b)=decide (a=b):=by rw[ae3];simp
theorem Rc(a b:Int):(a !=b)= !decide (a=b):=by rw[ae3];simp
theorem kA(P:Program):∀(d:Nat) (t:TypeId) (x y:Value) (u v:V) (b:Bool),vp P d t u v=some b->Rd m w x u->Rd m w y v->∀D,d<=D->(Op.equalIn D t x y).run P w= .ok b w:=by
 intro d
 induction d with
 |zero=>intro t x y u v b h;simp[vp] at h
 | succ d ih =>
   intro t x y u v b h hx hy D hD;obtain⟨D,rfl⟩:∃D',D=D'+1:=⟨D-1,by omega⟩;unfold vp at h;split at h
   . rename_i a c ht;obtain rfl:=Rd.x_iff.1 hx;obtain rfl:=Rd.x_iff.1 hy;cases h;exact run_equalIn_bool' w D t a c ht
   . rename_i k' k a k'' c ht;obtain rfl:=Rd.x_iff.1 hx;obtain rfl:=Rd.x_iff.1 hy;split at h
     . rename_i hk;cases hk;cases h;rw[<-Ae];exact run_equalIn_int w D t _ _ a c ht
     . simp at h
   . rename_i a c ht;obtain rfl:=Rd.x_iff.1 hx;obtain rfl:=Rd.x_iff.1 hy;cases h;rw[<-se];exact run_equalIn_string w D t a c ht
   . rename_i fs xs ys ht;obtain⟨xa,rfl,hxa⟩:=Rd.agg_iff.1 hx;obtain⟨ya,rfl,hya⟩:=Rd.agg_iff.1 hy;split at h
     . simp at h
     . rename_i hst;have hf:P.fieldsOf t=fs:=by simp[Program.fieldsOf,ht]
       rw[run_equalIn_struct w D t xa ya (by rw[hf];exact ht) (by simp at hst;exact hst),hf];generalize fs.toList=l at h;clear hf ht hst
       induction l generalizing b with
       |nil=>simp[T4] at h;subst h;simp[Op.eqFields]
       | cons f l ihl=>
         unfold T4 at h;split at h
         . simp at h
         . rename_i hn;split at h
           . rename_i p q hp hq;split at h
             . rename_i r1 r2 h1 h2;cases h;obtain⟨pv,hpr,hpd⟩:=ib hxa hp;obtain⟨qv,hqr,hqd⟩:=ib hya hq;have h3:=ih _ _ _ _ _ _ h1 hpd hqd D (by omega);have h4:=ihl _ h2;simp only[Op.eqFields,ne_eq,hn,afM,adB,Gc,hpr,hqr,Ge,h3,Sem.run_ite];cases r1
               . simp
               . simp[h4]
             . simp at h
           . simp at h
   . simp at h
variable{op:BinOp}
theorem Af{k:IntKind}{a b:Int}(hop:op≠ .shl∧op≠ .shr)(h:Ab op k a b=some u):∃v,(binOp op t (.int k a) (.int k b)).run P w= .ok v w∧Rd m w v u:=by
 obtain⟨h1,h2⟩:=hop;cases op<;>simp only[Ab] at h
 all_goals first
  |exact absurd rfl h1
  |exact absurd rfl h2
  |(simp at h;done)
  |(cases h;exact⟨_,by simp[binOp,Op.intArith,Op.intBits,Op.intCmp,Ae,Rc,MZ,Ra,M0,Aa,iP],.x _⟩)
  | (split at h
     . simp at h
     . rename_i hb;cases h;exact⟨_,by simp[binOp,Op.intDiv,hb,iP],.x _⟩)
theorem Ag{a b:ByteArray}(h:Ac op a b=some u):∃v,(binOp op t (.string a) (.string b)).run P w= .ok v w∧Rd m w v u:=by
 cases op<;>simp only[Ac,Ib] at h
 all_goals first
  |(simp at h;done)
  |(cases h;exact⟨_,by simp only[binOp,Op.stringOp,se,Gd],.x _⟩)
  | (split at h
     . simp at h
     . rename_i hb;cases h;exact⟨_,by simp only[binOp,Op.stringOp,hb,adw,Gd],.x _⟩)
end
section
variable{P:Program}{m:Lim}{w:World}{β:Nat->Nat}
theorem jT(v:Value):Rd m w v (eO v):=by
 unfold eO;split
 . exact .nil 0 none
 . exact .x _
variable{us:U}
theorem RdL.take{vs:List Value}(h:RdL m w vs us)(n:Nat):RdL m w (vs.take n) (us.take n):=by
 refine RdL.of_get (by simp[h.length]) (fun i v u hv hu=>?_);rw[ad6] at hv hu;split at hv
 . rename_i hi;rw[adl hi] at hu;exact h.get i v u hv hu
 . simp at hv
theorem RdL.drop{vs:List Value}(h:RdL m w vs us)(n:Nat):RdL m w (vs.drop n) (us.drop n):=by refine RdL.of_get (by simp[h.length]) (fun i v u hv hu=>?_);rw[aeA] at hv hu;exact h.get _ v u hv hu
theorem RdL.append{vs vs':List Value}{us':U}(h:RdL m w vs us)(h':RdL m w vs' us'):RdL m w (vs++vs') (us++us'):=by
 induction vs generalizing us with
 | nil=>cases us with
   |nil=>exact h'
   |cons u us=>exact h.elim
 | cons v vs ih=>cases us with
   |nil=>exact h.elim
   |cons u us=>exact⟨h.1,ih h.2⟩
theorem vF(l:List Value):∀(off j:Nat) (cs:Array Value),off+j+l.length<=cs.size->
 ((l.zipIdx j).foldl (fun cs (p:Value×Nat)=>cs.setIfInBounds (off+p.2) p.1) cs).toList=cs.toList.take (off+j)++l++cs.toList.drop (off+j+l.length):=by
 induction l with
 |nil=>intro off j cs h;simp
 | cons c l ih=>
   intro off j cs h;simp only[adm] at h;rw[List.zipIdx_cons,aeh,ih off (j+1) _ (by simp;omega)];simp only[af6,adm];have hlt:off+j<cs.toList.length:=by simp;omega
   apply aeB;intro k;simp only[af8,adh,adz,adV,ad6,aeA,adX,adm];simp only[adD];by_cases h1:k<off+j
   . rw[adl (by omega),adl (by omega),adl (by omega),adq (by omega),adl (by omega),adl (by omega),adl (by omega)]
   . by_cases h2:k=off+j
     . subst h2;rw[adl (by omega),adl (by omega),adl (by omega),adl rfl,adl (by omega),adl (by omega),adq (by omega)];have:off+j-min (off+j) cs.size=0:=by omega
       simp[this]
     . by_cases h3:k<off+j+1+l.length
       . rw[adl (by omega),adq (by omega),adl (by omega),adq (by omega)];have:k-min (off+j) cs.size=(k-min (off+(j+1)) cs.size)+1:=by omega
         rw[this,aeV]
       . rw[adq (by omega),adq (by omega),adq (by omega)];congr 1;omega
theorem ic{place:Nat->Option (Nat×Nat)}:∀{parts:List (Nat×V)} {vs:List (Nat×Value)} {cells:U} {cs:Array Value} {us:U},
 RdL m w cs.toList cells->(vs.map (·.1)=parts.map (·.1))->(∀(i:Nat) (v:Nat×Value) (u:Nat×V),vs[i]?=some v->parts[i]?=some u->Rs m w β v.2 u.2)->
 mr place cells parts=some us->∃cs',Instr.fill place cs vs=some cs'∧RdL m w cs'.toList us
 | [],vs,cells,cs,us,hr,hm,_,h=>by
   cases vs with
   |nil=>simp[mr] at h;subst h;exact⟨cs,rfl,hr⟩
   |cons v vs=>simp at hm
 | (i, u)::parts,vs,cells,cs,us,hr,hm,hv,h=>by
   cases vs with
   |nil=>simp at hm
   | cons v vs=>
     obtain⟨i',v⟩:=v;simp only[adL,adW] at hm;obtain⟨rfl,hm⟩:=hm;unfold mr at h;split at h
     . simp at h
     . rename_i off size hp;split at h
       . simp at h
       . rename_i hc;simp only[not_or,Bool.not_eq_false,ne_eq,Decidable.not_not,ad0] at hc;obtain⟨hd,hl,hle⟩:=hc;have hru:Rd m w v u:=(hv 0 _ _ rfl rfl).dat hd;have hcells:=hru.cells (by rintro rfl;simp[V.dat] at hd) (by rintro a rfl;simp[V.dat] at hd);have hlen:=hcells.length;have hlc:=hr.length;simp at hlen hlc;have hset:=vF v.cells.toList off 0 cs (by simp;omega);simp only[aeq] at hset;unfold Instr.fill;rw[hp];simp only;rw[adq (by simp;omega)];rw[<-Array.foldl_toList,Array.toList_zipIdx];refine ic ?_ hm (fun k a b ha hb=>hv (k+1) a b (by simpa using ha) (by simpa using hb)) h;rw[hset];have:=((hr.take off).append hcells).append (hr.drop (off+size));simpa[hlen,hl] using this
variable{t:TypeId}
theorem ie{z:U}(h:aB P t=some z):∃v:Value,(zeroValue t).run P w= .ok v w∧RdL m w v.cells.toList z:=by
 unfold aB at h;cases hi:P.info? t with
 |none=>simp[hi] at h
 | some i=>
   cases hz:i.zero with
   |none=>simp[hi,hz] at h
   |some v=>simp[hi,hz] at h;subst h;refine⟨v,by simp[zeroValue,typeInfo,hi,hz],RdL.of_get (by simp) (fun k a u ha hu=>?_)⟩;exact wY
theorem vG(fs:List Field)(l:List (Nat×Nat))(h:fs.mapM (fun f=>(bo P f.type).map fun n=>(f.offset,n))=some l):
 (fs.mapM (fun f=>(do pure (f.offset,<-sizeOf f.type):Sem (Nat×Nat)))).run P w= .ok l w:=by
 induction fs generalizing l with
 |nil=>simp at h;subst h;simp
 | cons f fs ih=>
   simp only[afk] at h⊢;cases hs:bo P f.type with
   |none=>simp[hs] at h
   | some n=>
     cases hr:fs.mapM (fun f=>(bo P f.type).map fun n=>(f.offset,n)) with
     |none=>simp[hs,hr] at h
     |some r=>simp[hs,hr] at h;subst h;simp only[Gc,bN hs,Ge,Gd,ih r hr]
theorem jL(d:Nat){t e:TypeId}(ht:P.underlying t=some (.slice e))(a:Option Addr)(n c n' c':Nat):
 (Op.equalIn (d+1) t (.slice a n c) (.slice none n' c')).run P w= .ok a.isNone w:=by
 cases a<;>simp only[Op.equalIn,Gc,aC ht,Ge,Gd,Option.isNone_none,Option.isNone_some]
theorem jM(d:Nat){t t1:TypeId}{ms:Array (String×TypeId)}(ht:P.underlying t=some (.interface ms))(v:Value):(Op.equalIn (d+1) t (.iface t1 v) .nilIface).run P w= .ok false w:=by simp only[Op.equalIn,Gc,aC ht,Ge,Gd]
theorem iQ(d:Nat){t:TypeId}{ms:Array (String×TypeId)}(ht:P.underlying t=some (.interface ms)):(Op.equalIn (d+1) t .nilIface .nilIface).run P w= .ok true w:=by simp only[Op.equalIn,Gc,aC ht,Ge,Gd]
theorem jN(d:Nat){t e:TypeId}(ht:P.underlying t=some (.pointer e))(a:Addr):(Op.equalIn (d+1) t (.pointer (some a)) (.pointer none)).run P w= .ok false w:=by simp only[Op.equalIn,Gc,aC ht,Ge,Gd]
variable{op:BinOp}{xo yo:Operand}
theorem Dk {x:Value} {ad:Addr} (hx:x= .pointer (some ad)) (h:(match op,P.underlying t with
 | .eql,some (.pointer _)=>some (V.bool false)
 | .neq,some (.pointer _)=>some (V.bool true)
 |_,_=>none)=some u):∃v,((do eqGuard op t xo yo x (.pointer none);binOp op t x (.pointer none):Sem Value)).run P w= .ok v w∧Rd m w v u:=by
 subst hx;have hg:(eqGuard op t xo yo (.pointer (some ad)) (.pointer none)).run P w= .ok () w:=by cases op<;>simp[eqGuard]
 simp only[Gc,hg,Ge];split at h
 . rename_i e ht;cases h;have heq:(Op.equal t (.pointer (some ad)) (.pointer none)).run P w= .ok false w:=jN 9999 ht ad;exact yx
 . rename_i e ht;cases h;have heq:(Op.equal t (.pointer (some ad)) (.pointer none)).run P w= .ok false w:=jN 9999 ht ad;exact yx
 . cases h
theorem nt(h:(MQ xo||MQ yo)=true):(eqGuard op t xo yo .nilIface .nilIface).run P w= .ok () w:=by
 cases xo with
 |const v=>cases op<;>simp[eqGuard]
 | tmp i=>cases yo with
   |const v=>cases op<;>simp[eqGuard]
   |_=>simp[MQ] at h
 | global i=>cases yo with
   |const v=>cases op<;>simp[eqGuard]
   |_=>simp[MQ] at h
 | func i=>cases yo with
   |const v=>cases op<;>simp[eqGuard]
   |_=>simp[MQ] at h
variable{y:Value}
theorem Ah{x:Value}{a b:V}(hx:Rs m w β x a)(hy:Rs m w β y b)(h:Ad P (MQ xo||MQ yo) op t a b=some u):
 ∃v,((do eqGuard op t xo yo x y;binOp op t x y:Sem Value)).run P w= .ok v w∧Rd m w v u:=by
 unfold Ad at h;split at h
 . rename_i k p k' q;obtain rfl:=hx.x;obtain rfl:=hy.x;have hg:(eqGuard op t xo yo (.int k p) (.int k' q)).run P w= .ok () w:=by cases op<;>simp[eqGuard]
   simp only[Gc,hg,Ge];split at h
   . split at h
     . simp at h
     . rename_i hb;cases h;exact⟨_,by simp[binOp,Op.shift,hb,M1],.x _⟩
   . split at h
     . simp at h
     . rename_i hb;cases h;exact⟨_,by simp[binOp,Op.shift,hb,M2],.x _⟩
   . split at h
     . rename_i h1 h2 hk;subst hk;exact Af ⟨h1,h2⟩ h
     . simp at h
 . obtain rfl:=hx.x;obtain rfl:=hy.x;rename_i p q;have hg:(eqGuard op t xo yo (.string p) (.string q)).run P w= .ok () w:=by cases op<;>simp[eqGuard]
   simp only[Gc,hg,Ge];exact Ag h
 . obtain rfl:=hx.x;obtain rfl:=hy.x;rename_i p q;have hg:(eqGuard op t xo yo (.bool p) (.bool q)).run P w= .ok () w:=by cases op<;>simp[eqGuard]
   simp only[Gc,hg,Ge];split at h
   . exact xg
   . exact xg
   . simp at h
 . rename_i xs ys;obtain⟨xa,rfl,hxa⟩:=hx.agg;obtain⟨ya,rfl,hya⟩:=hy.agg;split at h
   . simp at h
   . rename_i hgt;have hg:=run_eqGuard_agg (P:=P) w op t xo yo xa ya (by simpa using hgt);simp only[Gc,hg,Ge];split at h
     . rename_i r hr;cases h;have:=kA (w:=w) (m:=m) P 20 t _ _ _ _ _ hr (Rd.agg_iff.2 ⟨xa,rfl,hxa⟩) (Rd.agg_iff.2 ⟨ya,rfl,hya⟩) 10000 (by decide);exact⟨_,by rw[run_eql_struct,this];rfl,.x _⟩
     . rename_i r hr;cases h;have:=kA (w:=w) (m:=m) P 20 t _ _ _ _ _ hr (Rd.agg_iff.2 ⟨xa,rfl,hxa⟩) (Rd.agg_iff.2 ⟨ya,rfl,hya⟩) 10000 (by decide);exact⟨_,by rw[run_neq_struct,this];rfl,.x _⟩
     . simp at h
 . rename_i na Ud es1 tk nb sz2 es tk2;obtain⟨a1,c1,rfl,hn1,_⟩:=hx.sl;obtain⟨a2,c2,rfl,hn2,_⟩:=hy.sl;have hg:(eqGuard op t xo yo (.slice a1 es1.length c1) (.slice a2 es.length c2)).run P w= .ok () w:=by cases op<;>simp[eqGuard]
   simp only[Gc,hg,Ge];split at h
   . rename_i e ht;split at h
     . rename_i hb;cases h;simp only[ado] at hb;obtain⟨hb,_⟩:=hb;subst hb;have h2:a2=none:=by simpa using hn2.symm
       subst h2;have heq:(Op.equal t (.slice a1 es1.length c1) (.slice none es.length c2)).run P w= .ok na w:=by rw[hn1];exact jL 9999 ht _ _ _ _ _
       exact yx
     . simp at h
   . rename_i e ht;split at h
     . rename_i hb;cases h;simp only[ado] at hb;obtain⟨hb,_⟩:=hb;subst hb;have h2:a2=none:=by simpa using hn2.symm
       subst h2;have heq:(Op.equal t (.slice a1 es1.length c1) (.slice none es.length c2)).run P w= .ok na w:=by rw[hn1];exact jL 9999 ht _ _ _ _ _
       exact yx
     . simp at h
   . simp at h
 . rename_i t1;obtain rfl:=hy.x;have hd:=hx.rd (by intros;simp);cases hd with
   | dyn _ v=>
     have hg:(eqGuard op t xo yo (.iface t1 v) .nilIface).run P w= .ok () w:=by cases op<;>simp[eqGuard]
     simp only[Gc,hg,Ge];split at h
     . rename_i ms ht;cases h;have heq:(Op.equal t (.iface t1 v) .nilIface).run P w= .ok false w:=jM 9999 ht v;exact yx
     . rename_i ms ht;cases h;have heq:(Op.equal t (.iface t1 v) .nilIface).run P w= .ok false w:=jM 9999 ht v;exact yx
     . simp at h
 . obtain rfl:=hy.x;have hd:=hx.rd (by intros;simp);cases hd with
   |ip blk off cs c hb hc hm hr=>exact Dk rfl h
 . obtain rfl:=hy.x;exact Dk hx.ptr h
 . obtain rfl:=hx.x;obtain rfl:=hy.x;split at h
   . rename_i hlit;have hg:(eqGuard op t xo yo .nilIface .nilIface).run P w= .ok () w:=nt hlit;simp only[Gc,hg,Ge];split at h
     . rename_i ms ht;cases h;have heq:(Op.equal t .nilIface .nilIface).run P w= .ok true w:=iQ 9999 ht;exact yx
     . rename_i ms ht;cases h;have heq:(Op.equal t .nilIface .nilIface).run P w= .ok true w:=iQ 9999 ht;exact yx
     . simp at h
   . simp at h
 . simp at h
end
def MapRd(m:Lim)(w:World):List MapEntry->U->U->Prop
 |[],[],[]=>True
 |e::es,k::ks,v::vs=>(plainK k=true∧k.val=some e.key)∧(v.dat=true∧Rd m w e.val v)∧MapRd m w es ks vs
 |_,_,_=>False
def MapAt(m:Lim)(w:World)(g:Nat)(ks vs:U):Prop:=
 ∃ents clock,w.heap[g]?=some (.map ents clock)∧MapRd m w ents.toList ks vs∧(∀e∈ents.toList,e.born<clock)∧(ents.toList.map (·.born)).Nodup∧m g=some 0
section
variable{P:Program}{m:Lim}{w:World}{β:Nat->Nat}
theorem MapRd.mono{m':Lim}{w':World}(he:Ext m w m' w'):∀{es:List MapEntry} {ks vs:U},MapRd m w es ks vs->MapRd m' w' es ks vs
 |[],[],[],_=>trivial
 |_::_,_::_,_::_,h=>⟨h.1,⟨h.2.1.1,h.2.1.2.mono he⟩,MapRd.mono he h.2.2⟩
theorem MapRd.len:∀{es:List MapEntry} {ks vs:U},MapRd m w es ks vs->es.length=ks.length∧es.length=vs.length
 |[],[],[],_=>⟨rfl,rfl⟩
 |_::_,_::_,_::_,h=>by obtain⟨h1,h2⟩:=MapRd.len h.2.2;exact⟨by simp[h1],by simp[h2]⟩
theorem MapRd.get:∀{es:List MapEntry} {ks vs:U},MapRd m w es ks vs->∀(i:Nat) (e:MapEntry),es[i]?=some e->∃k v,ks[i]?=some k∧vs[i]?=some v∧(plainK k=true∧k.val=some e.key)∧v.dat=true∧Rd m w e.val v
 |[],[],[],_,i,e,he=>by simp at he
 |e0::es,k0::ks,v0::vs,h,0,e,he=>by simp at he;subst he;exact⟨k0,v0,rfl,rfl,h.1,h.2.1⟩
 |e0::es,k0::ks,v0::vs,h,i+1,e,he=>MapRd.get h.2.2 i e (by simpa using he)
theorem MapRd.snoc:∀{es:List MapEntry} {ks vs:U},MapRd m w es ks vs->∀{e:MapEntry} {k v:V},(plainK k=true∧k.val=some e.key)->(v.dat=true∧Rd m w e.val v)->MapRd m w (es++[e]) (ks++[k]) (vs++[v])
 |[],[],[],_,_,_,_,h1,h2=>⟨h1,h2,trivial⟩
 |_::_,_::_,_::_,h,_,_,_,h1,h2=>⟨h.1,h.2.1,MapRd.snoc h.2.2 h1 h2⟩
theorem MapRd.set:∀{es:List MapEntry} {ks vs:U},MapRd m w es ks vs->∀(i:Nat) {e:MapEntry} {v:V},(∃e0,es[i]?=some e0∧e0.key=e.key)->(v.dat=true∧Rd m w e.val v)->MapRd m w (es.set i e) ks (vs.set i v)
 |[],[],[],_,i,_,_,⟨e0,h0,_⟩,_=>by simp at h0
 |e1::_,_::_,_::_,h,0,e,_,⟨e0,h0,hk⟩,h2=>by simp at h0;subst h0;exact⟨⟨h.1.1,by rw[h.1.2,hk]⟩,h2,h.2.2⟩
 |_::_,_::_,_::_,h,i+1,_,_,⟨e0,h0,hk⟩,h2=>⟨h.1,h.2.1,MapRd.set h.2.2 i ⟨e0,by simpa using h0,hk⟩ h2⟩
theorem Rd.one_is{x:Value}(h:Rd m w v u)(hu:u.one=some x):v=x:=by
 cases u with
 |x u=>cases hu;exact Rd.x_iff.1 h
 |_=>simp[V.one] at hu
theorem Rd.ones:∀{vs:List Value} {us:U} {xs:List Value},RdL m w vs us->us.mapM V.one=some xs->vs=xs
 |[],[],xs,_,h=>by simp at h;exact h.symm
 | v ::vs,u::us,xs,hr,h=>by
   rw[afk] at h;cases ho:u.one with
   |none=>rw[ho] at h;cases h
   | some y=>
     rw[ho] at h;simp only[afY,afB,aeL] at h;cases hm:us.mapM V.one with
     |none=>rw[hm] at h;cases h
     |some r=>rw[hm] at h;cases h;rw[Rd.ones hr.2 hm,hr.1.one_is ho]
theorem Rd.val_is{x:Value}(h:Rd m w v u)(hu:u.val=some x):v=x:=by
 cases u with
 |x u=>cases hu;exact Rd.x_iff.1 h
 |agg cs=>obtain⟨a,rfl,hr⟩:=Rd.agg_iff.1 h;simp only[V.val,adn] at hu;obtain⟨l,hl,rfl⟩:=hu;have:=Rd.ones hr hl;rw[<-this]
 |_=>simp[V.val] at hu
theorem EP(h:plainK u=true):∃x,u.val=some x:=by
 cases u with
 |x v=>exact⟨v,rfl⟩
 | agg cs=>
   have key:∀cs:U,(cs.all fun c=>match c with| .x (.int _ _)=>true| .x (.string _)=>true| .bool _=>true|_=>false)=true->∃l,cs.mapM V.one=some l:=by
    intro cs
    induction cs with
    |nil=>intro _;exact⟨[],rfl⟩
    | cons c cs ih=>
      intro h;simp only[aeo,ado] at h;obtain⟨l,hl⟩:=ih h.2;have:∃v,c= .x v:=by have:=h.1;split at this<;>first|exact⟨_,rfl⟩|cases this
      obtain⟨v,rfl⟩:=this;exact⟨v::l,by rw[afk,hl];rfl⟩
   obtain⟨l,hl⟩:=key cs h;exact⟨.agg l.toArray,by simp[V.val,hl]⟩
 |_=>simp[plainK] at h
theorem k9(h:(match v with| .int _ _=>true| .string _=>true| .bool _=>true|_=>false)=true)(n:Nat):Instr.sameBits n v v=true:=by cases v<;>simp[Instr.sameBits,MapKept.bytes_beq] at h⊢
theorem pg{x:Value}(h:plainK u=true)(hx:u.val=some x):Instr.sameBits 10000 x x=true:=by
 cases u with
 |x v=>cases hx;exact k9 (by revert h;cases x<;>simp[plainK]) _
 | agg cs=>
   simp only[V.val,adn] at hx;obtain⟨l,hl,rfl⟩:=hx;simp only[Instr.sameBits,beq_self_eq_true,ae1,adr];have key:∀(cs:U) (l:List Value),cs.mapM V.one=some l->(cs.all fun c=>match c with| .x (.int _ _)=>true| .x (.string _)=>true| .bool _=>true|_=>false)=true->∀p∈l.zip l,Instr.sameBits 9999 p.1 p.2=true:=by
    intro cs
    induction cs with
    |nil=>intro l hl _ p hp;simp at hl;subst hl;simp at hp
    | cons c cs ih=>
      intro l hl h p hp;simp only[aeo,ado] at h;obtain⟨h1,h2⟩:=h;rw[afk] at hl;have:∃v,c= .x v∧(match v with| .int _ _=>true| .string _=>true| .bool _=>true|_=>false)=true:=by split at h1<;>first|exact⟨_,rfl,rfl⟩|cases h1
      obtain⟨v,rfl,hv⟩:=this;simp only[V.one,afY,afB,aeL] at hl;cases hm:cs.mapM V.one with
      |none=>rw[hm] at hl;cases hl
      | some r=>
        rw[hm] at hl;cases hl;simp only[List.zip_cons_cons,adA] at hp;rcases hp with rfl|hp
        . exact k9 hv _
        . exact ih r hm h2 p hp
   rintro⟨a,b⟩ hp;exact key cs l hl h (a,b) (by simpa using hp)
 |_=>simp[plainK] at h
theorem EQ{x:Value}(h:plainK u=true)(hx:u.val=some x):(Instr.keyThatStays x x).run P w= .ok x w:=by simp[Instr.keyThatStays,pg h hx]
theorem lE(em:Bool):∀(d:Nat) (t:TypeId) (v:Value) (u:V),rB P d t u=true->Rd m w v u->∀n,d<=n->(Instr.checkKey em n t v).run P w= .ok () w:=by
 intro d
 induction d with
 |zero=>intro t v u h;simp[rB] at h
 | succ d ih=>
   intro t v u h hr n hn;obtain⟨n,rfl⟩:∃n',n=n'+1:=⟨n-1,by omega⟩;unfold rB at h;split at h
   . exact xh
   . exact xh
   . exact xh
   . rename_i fs cs ht;obtain⟨xa,rfl,hxa⟩:=Rd.agg_iff.1 hr;rw[Instr.checkKey];simp only[Gc,aC ht,Ge];rw[<-Array.forIn_toList];generalize fs.toList=l at h;clear ht hr
     induction l with
     |nil=>simp
     | cons f l ihl=>
       simp only[aeo,ado,adS] at h;obtain⟨⟨h1,h2⟩,h3⟩:=h;split at h2
       case h_2=>cases h2
       rename_i p hp;obtain⟨pv,hpr,hpd⟩:=ib (w:=w) hxa hp;have h4:=ih _ _ _ h2 hpd n (by omega);simp only[List.forIn_cons,Gc,ne_eq,h1,afM,adB,hpr,Ge,h4,Gd];exact ihl h3
   . cases h
theorem ig{kt:TypeId}{x:Value}{k:V}(hx:Rd m w x k):∀(es:List MapEntry) (ks vs:U) (i:Nat) (r:Option Nat),MapRd m w es ks vs->iF P kt k ks i=some r->(∀(k':V),k'∈ks->∀x',k'.val=some x'->Rd m w x' k')->
 (Instr.findAsking kt x es i).run P w= .ok (r.map fun j=>(j,((es[j-i]?).map (·.val)).getD undef)) w∧∀j,r=some j->i<=j∧j-i<es.length
 |[],[],[],i,r,_,h,_=>by simp[iF] at h;subst h;exact⟨by simp[Instr.findAsking],fun j h=>by cases h⟩
 | e ::es,k'::ks,v::vs,i,r,hm,h,hk=>by
   obtain⟨⟨hp,hkv⟩,hv,hm'⟩:=hm;unfold iF at h;split at h
   . rename_i he;cases h;have:=kA (w:=w) (m:=m) P 20 kt x e.key k k' true he hx (hk k' (by simp) _ hkv) Op.maxDepth (by decide);refine⟨?_,fun j hj=>by cases hj;exact⟨adp _,by simp⟩⟩;simp[Instr.findAsking,Op.equal,this]
   . rename_i he;have hf:=kA (w:=w) (m:=m) P 20 kt x e.key k k' false he hx (hk k' (by simp) _ hkv) Op.maxDepth (by decide);obtain⟨h1,h2⟩:=ig hx es ks vs (i+1) r hm' h (fun k'' hk''=>hk k'' (adE _ hk''));refine⟨?_,fun j hj=>by have:=h2 j hj;simp only[adm];omega⟩;simp only[Instr.findAsking,Op.equal,Gc,hf,Ge,adI,adw,h1];congr 1;cases r with
     |none=>rfl
     |some j=>exact wQ
   . cases h
variable{kt:TypeId}{d:TypeDesc}
theorem Dl(ht:P.underlying kt=some d){k k':V}{x y:Value}{b:Bool}(h:vp P 20 kt k k'=some b)(hk:k.val=some x)(hk':k'.val=some y)(hd:∀fs,d≠ .struct fs):Instr.sameNow d x y=some b:=by
 unfold vp at h;rw[ht] at h;split at h
 . rename_i a c hd';cases hd';cases hk;cases hk';cases h;simp only[Instr.sameNow]
 . rename_i kk k1 a k2 c hd';cases hd';cases hk;cases hk';split at h
   . rename_i he;cases h;simp[Instr.sameNow,he,Ae]
   . cases h
 . rename_i a c hd';cases hd';cases hk;cases hk';cases h;simp only[Instr.sameNow,adO];rw[ae3,MapKept.bytes_beq,adS]
 . rename_i fs xs ys hd';cases hd';exact absurd rfl (hd fs)
 . cases h
theorem vH{kt:TypeId}{d:TypeDesc}(ht:P.underlying kt=some d)(hd:∀fs,d≠ .struct fs){x:Value}{k:V}(hx:k.val=some x):∀(es:List MapEntry) (ks vs:U) (i:Nat) (r:Option Nat),MapRd m w es ks vs->iF P kt k ks i=some r->
 Instr.findNow d x es i=some (r.map fun j=>(j,((es[j-i]?).map (·.val)).getD undef))∧∀j,r=some j->i<=j∧j-i<es.length
 |[],[],[],i,r,_,h=>by simp[iF] at h;subst h;exact⟨rfl,fun j h=>by cases h⟩
 | e ::es,k'::ks,v::vs,i,r,hm,h=>by
   obtain⟨⟨hp,hkv⟩,hv,hm'⟩:=hm;unfold iF at h;split at h
   . rename_i he;cases h;refine⟨?_,fun j hj=>by cases hj;exact⟨adp _,by simp⟩⟩;simp[Instr.findNow,Dl ht he hx hkv hd]
   . rename_i he;obtain⟨h1,h2⟩:=vH ht hd hx es ks vs (i+1) r hm' h;refine⟨?_,fun j hj=>by have:=h2 j hj;simp only[adm];omega⟩;simp only[Instr.findNow,Dl ht he hx hkv hd,h1];cases r with
     |none=>rfl
     |some j=>exact wQ
   . cases h
theorem Ai:∀{u:V} {x:Value},u.val=some x->Rd m w x u
 | .x v,x,h=>by cases h;exact .x _
 | .agg cs,x,h=>by
   simp only[V.val,adn] at h;obtain⟨l,hl,rfl⟩:=h;refine Rd.agg_iff.2 ⟨_,rfl,?_⟩;have key:∀(cs:U) (l:List Value),cs.mapM V.one=some l->RdL m w l cs:=by
    intro cs
    induction cs with
    |nil=>intro l hl;simp at hl;subst hl;trivial
    | cons c cs ih=>
      intro l hl;rw[afk] at hl;cases ho:c.one with
      |none=>rw[ho] at hl;cases hl
      | some y=>
        rw[ho] at hl;simp only[afY,afB,aeL] at hl;cases hm:cs.mapM V.one with
        |none=>rw[hm] at hl;cases hl
        | some r=>
          rw[hm] at hl;cases hl;refine⟨?_,ih r hm⟩;cases c with
          |x v=>cases ho;exact .x _
          |_=>simp[V.one] at ho
   exact key cs l hl
 | .tup _,x,h=>by simp[V.val] at h
 | .sl ..,x,h=>by simp[V.val] at h
 | .ptr ..,x,h=>by simp[V.val] at h
 | .ip _,x,h=>by simp[V.val] at h
 | .dyn _,x,h=>by simp[V.val] at h
 | .row ..,x,h=>by simp[V.val] at h
 | .bx _,x,h=>by simp[V.val] at h
 | .mp ..,x,h=>by simp[V.val] at h
 | .undef,x,h=>by simp[V.val] at h
variable{k:V}
theorem jt{x:Value}(hok:fg P kt k=true)(hx:Rd m w x k){es:List MapEntry}{ks vs:U}{r:Option Nat}(hm:MapRd m w es ks vs)(h:iF P kt k ks 0=some r):
 (Instr.findKey kt x es).run P w= .ok (r.map fun j=>(j,((es[j]?).map (·.val)).getD undef)) w∧(∀j,r=some j->j<es.length)∧k.val=some x∧plainK k=true:=by
 simp only[fg,ado] at hok;obtain⟨hpl,hkb⟩:=hok;obtain⟨x',hx'⟩:=EP hpl;obtain rfl:=hx.val_is hx';refine⟨?_,?_,hx',hpl⟩
 . cases hu:P.underlying kt with
   |none=>unfold rB at hkb;rw[hu] at hkb;cases hkb
   | some d=>
     by_cases hs:∃fs,d= .struct fs
     . obtain⟨fs,rfl⟩:=hs;have h1:=(ig hx es ks vs 0 r hm h (fun k' _ x' hx'=>Ai hx')).1;simp only[Nat.sub_zero] at h1;cases es with
       | nil=>
         have h2:=(ig hx [] ks vs 0 r hm h (fun k' _ x' hx'=>Ai hx')).2;cases r with
         |none=>simp[Instr.findKey,aC hu,Instr.findNow]
         |some j=>have:=h2 j rfl;simp at this
       |cons e es=>simp only[Instr.findKey,Gc,aC hu,Ge,Instr.findNow,Instr.sameNow];exact h1
     . have h1:=(vH hu (fun fs e=>hs ⟨fs,e⟩) hx' es ks vs 0 r hm h).1;simp only[Nat.sub_zero] at h1;simp only[Instr.findKey,Gc,aC hu,Ge,h1,Gd]
 . intro j hj;cases hu:P.underlying kt with
   |none=>unfold rB at hkb;rw[hu] at hkb;cases hkb
   |some d=>have:=(ig hx es ks vs 0 r hm h (fun k' _ x' hx'=>Ai hx')).2 j hj;simpa using this.2
variable{t:TypeId}
theorem vI(h:aO P t=some u):∃v:Value,(zeroValue t).run P w= .ok v w∧Rd m w v u:=by
 unfold aO at h;cases hi:P.info? t with
 |none=>simp[hi] at h
 | some i=>
   cases hz:i.zero with
   |none=>simp[hi,hz] at h
   | some v=>
     refine⟨v,by simp[zeroValue,typeInfo,hi,hz],?_⟩;simp only[hi,hz,aeL] at h;split at h
     . rename_i cs he;cases he;cases h;refine Rd.agg_iff.2 ⟨_,rfl,RdL.of_get (by simp) (fun k a u ha hu=>?_)⟩;exact wY
     . rename_i he;cases he;cases h;exact jT _
     . cases h
variable{g:Nat}
theorem lF{ents ents':Array MapEntry}{clock clock':Nat}(hh:w.heap[g]?=some (.map ents clock))(hlim:m g=some 0):Ext m w m {w with heap:=w.heap.setIfInBounds g (.map ents' clock')}:=by
 refine⟨by simp,fun blk off v hb _ hc=>?_,fun blk hb fr hf=>⟨fr,hf,adp _⟩,fun blk es c hm hc=>?_⟩
 rotate_left
 . rw[(MapKept.heap_set hh).2 blk (by rintro rfl;rw[hlim] at hm;cases hm)];exact hc
 by_cases e:blk=g
 . subst e;simp[World.cell?,hh] at hc
 . simp only[World.cell?] at hc⊢;rw[(MapKept.heap_set hh).2 blk e];exact hc
variable{vs:U}{y:Value}
theorem ph{ks ks' vs':U}{x:Value}{v:V}(hm:MapAt m w g ks vs)(hx:Rd m w x k)(hy:Rd m w y v)(h:ns P t ks vs k v=some (ks',vs')):
 ∃ents clock,(Instr.mapUpdate t (.map (some g)) x y).run P w= .ok () {w with heap:=w.heap.setIfInBounds g (.map ents clock)}∧MapAt m {w with heap:=w.heap.setIfInBounds g (.map ents clock)} g ks' vs'∧(∃e0 c0,w.heap[g]?=some (.map e0 c0)):=by
 obtain⟨ents,clock,hh,hrd,hborn,hnd,hlim⟩:=hm;unfold ns at h;split at h
 case h_2=>cases h
 rename_i kt et hu;split at h
 case isFalse=>cases h
 rename_i hc;obtain⟨hok,hvd⟩:=hc;have hck:(Instr.checkKey false 10000 kt x).run P w= .ok () w:=by simp only[fg,ado] at hok;exact lE _ 20 kt x k hok.2 hx 10000 (by omega)
 split at h
 . rename_i i hg;split at h
   case isFalse=>cases h
   rename_i hki;cases h;obtain⟨hf,hlt,hxv,hpl⟩:=jt hok hx hrd hg;have hlt:=hlt i rfl;have he:ents.toList[i]?=some (ents.toList[i]):=io hlt;have he':ents[i]?=some (ents.toList[i]):=by rw[<-adF];exact he
   obtain⟨k',v',hk',hv',⟨_,hkv⟩,_,hrv⟩:=hrd.get i _ he;rw[hki] at hk';cases hk';have hkey:(ents.toList[i]).key=x:=by rw[hxv] at hkv;exact(afo hkv).symm
   refine⟨ents.modify i fun e=>{e with key:=x,val:=y},clock,?_,⟨_,_,(MapKept.heap_set hh).1,?_,?_,?_,hlim⟩,ents,clock,hh⟩
   . simp only[aea,he,aeI] at hf;have hst:(Instr.keyThatStays (((ents[i]?).map (·.key)).getD x) x).run P w= .ok x w:=by rw[he',aea,aeI,hkey];exact EQ hpl hxv
     simp only[Instr.mapUpdate,Gc,aC hu,Ge,MapKept.run_getObj_map hh,hck,hf,hst,MapKept.run_setObj_map _ hh]
   . have e1:(ents.modify i fun e=>{e with key:=x,val:=y}).toList=ents.toList.set i {(ents.toList[i]) with key:=x,val:=y}:=by
      apply aeB;intro j;rw[adF,afF,adX];by_cases hj:i=j
      . subst hj;simp[he'];simpa using hlt
      . simp[hj]
     rw[e1];exact(hrd.set i ⟨_,he,hkey⟩ ⟨hvd,hy⟩).mono (lF hh hlim)
   . intro e hm';rw[ad8] at hm';obtain⟨j,hj⟩:=hm';rw[adF,afF] at hj;split at hj
     . rename_i hij;cases hc':ents[i]? with
       |none=>rw[<-hij,hc'] at hj;cases hj
       |some e0=>rw[<-hij,hc'] at hj;cases hj;exact hborn e0 (adg (by rw[adF];exact hc'))
     . exact hborn e (adg (by rw[adF];exact hj))
   . have e1:(ents.modify i fun e=>{e with key:=x,val:=y}).toList.map (·.born)=ents.toList.map (·.born):=by
      apply aeB;intro j;rw[ac9,ac9,adF,afF,adF];split
      . cases ents[j]?<;>rfl
      . rfl
     rw[e1];exact hnd
 . rename_i hg;cases h;obtain⟨hf,_,hxv,hpl⟩:=jt hok hx hrd hg;refine⟨ents.push {key:=x,val:=y,born:=clock},clock+1,?_,⟨_,_,(MapKept.heap_set hh).1,?_,?_,?_,hlim⟩,ents,clock,hh⟩
   . simp only[afp] at hf;simp only[Instr.mapUpdate,Gc,aC hu,Ge,MapKept.run_getObj_map hh,hck,hf,MapKept.run_setObj_map _ hh]
   . rw[Array.toList_push];exact(hrd.snoc ⟨hpl,hxv⟩ ⟨hvd,hy⟩).mono (lF hh hlim)
   . intro e hm';rw[Array.toList_push,adv] at hm';rcases hm' with hm'|hm'
     . have:=hborn e hm';omega
     . simp at hm';subst hm';exact Nat.lt_succ_self _
   . rw[Array.toList_push,adK];refine aeH.2 ⟨hnd,by simp,fun a ha b hb e=>?_⟩;simp at hb;obtain⟨e',he',rfl⟩:=ads.1 ha;have:=hborn e' he';omega
 . cases h
theorem MapRd.of_get:∀{es:List MapEntry} {ks vs:U},es.length=ks.length->es.length=vs.length->(∀(i:Nat) (e:MapEntry) (k:V),es[i]?=some e->ks[i]?=some k->plainK k=true∧k.val=some e.key)->
 (∀(i:Nat) (d:V),vs[i]?=some d->d.dat=true)->(∀(i:Nat) (e:MapEntry) (d:V),es[i]?=some e->vs[i]?=some d->Rd m w e.val d)->MapRd m w es ks vs
 |[],[],[],_,_,_,_,_=>trivial
 |e::es,k::ks,v::vs,h1,h2,h3,h4,h5=>⟨h3 0 e k rfl rfl,⟨h4 0 v rfl,h5 0 e v rfl rfl⟩,MapRd.of_get (by simpa using h1) (by simpa using h2) (fun i e k he hk=>h3 (i+1) e k (by simpa using he) (by simpa using hk)) (fun i d hd=>h4 (i+1) d (by simpa using hd)) (fun i e d he hd=>h5 (i+1) e d (by simpa using he) (by simpa using hd))⟩
 |[],_::_,_,h1,_,_,_,_=>by simp at h1
 |[],[],_::_,_,h2,_,_,_=>by simp at h2
 |_::_,[],_,h1,_,_,_,_=>by simp at h1
 |_::_,_::_,[],_,h2,_,_,_=>by simp at h2
theorem Rd.fm_at{ks:U}(h:Rd m w v (.fm ks vs)):∃g ents clock,v= .map (some g)∧w.heap[g]?=some (.map ents clock)∧MapRd m w ents.toList ks vs∧(∀e∈ents.toList,e.born<clock)∧(ents.toList.map (·.born)).Nodup∧m g=none:=by
 cases h with
 |fm blk ks vs ents clock hb hh hm hk hv hkey hbn hd hr=>exact⟨blk,ents,clock,rfl,hh,MapRd.of_get (by simpa using hk) (by simpa using hv) (fun i e k he hk=>hkey i e k (by simpa using he) hk) hd (fun i e d he hd=>hr i e d (by simpa using he) hd),hbn.1,hbn.2,hm⟩
theorem MapAt.freeze{ks:U}(h:MapAt m w g ks vs){m':Lim}(he:Ext m w m' w)(hm:m' g=none):Rd m' w (.map (some g)) (.fm ks vs):=by
 obtain⟨ents,clock,hh,hrd,h1,h2,_⟩:=h;have hl:=hrd.len;have get:=fun(i:Nat) (e:MapEntry) (he:ents[i]?=some e)=>hrd.get i e (by simpa using he)
 refine .fm g ks vs ents clock (eA hh) hh hm (by simpa using hl.1) (by simpa using hl.2) (fun i e k hi hk=>?_) ⟨h1,h2⟩ (fun i d hd=>?_) (fun i e d hi hd=>?_)
 . obtain⟨k',v',hk',_,h3,_⟩:=get i e hi;rw[hk] at hk';cases hk';exact h3
 . have hi:i<ents.size:=by have:=(iO.1 hd).1;have:=hl.2;simp at this;omega
   obtain⟨k',v',_,hv',_,h3,_⟩:=get i ents[i] (by simp[hi]);rw[hd] at hv';cases hv';exact h3
 . obtain⟨k',v',_,hv',_,_,h3⟩:=get i e hi;rw[hd] at hv';cases hv';exact h3.mono he
theorem vJ{mv:V}{ks:U}{x:Value}{ok:Bool}(hkv:mv.kv=some (ks,vs))(hm:∃ents clock,w.heap[g]?=some (.map ents clock)∧MapRd m w ents.toList ks vs)(hx:Rd m w x k)(h:ia P t mv k ok=some u):
 ∃v,(Instr.lookup t (.map (some g)) x ok).run P w= .ok v w∧Rd m w v u:=by
 obtain⟨ents,clock,hh,hrd⟩:=hm;unfold ia at h;rw[hkv] at h;split at h
 case h_2=>cases h
 rename_i m' kt et ks' vs' hu hmp;cases hmp;split at h
 case isFalse=>cases h
 rename_i hok;split at h
 . rename_i i hg;obtain⟨hf,hlt,_,_⟩:=jt hok hx hrd hg;have hlt:=hlt i rfl;have he:ents.toList[i]?=some (ents.toList[i]):=io hlt;obtain⟨k',v',_,hv',_,_,hrv⟩:=hrd.get i _ he;rw[hv'] at h;simp only[aea,adO] at h;have hck:(Instr.checkKey ents.isEmpty 10000 kt x).run P w= .ok () w:=by simp only[fg,ado] at hok;exact lE _ 20 kt x k hok.2 hx 10000 (by omega)
   have hrun:(Instr.lookup t (.map (some g)) x ok).run P w= .ok (if ok then .tuple #[(ents.toList[i]).val,.bool true] else (ents.toList[i]).val) w:=by simp only[aea,he,aeI] at hf;simp only[Instr.lookup,Gc,aC hu,Ge,MapKept.run_getObj_map hh,Gd,hck,hf]
   refine⟨_,hrun,?_⟩;cases ok with
   |false=>simp only[adI,adw] at h⊢;rw[<-h];exact hrv
   |true=>simp only[adB] at h⊢;rw[<-h];exact Rd.tup_iff.2 ⟨_,rfl,hrv,.x _,trivial⟩
 . rename_i hg;obtain⟨hf,_,_,_⟩:=jt hok hx hrd hg;have hck:(Instr.checkKey ents.isEmpty 10000 kt x).run P w= .ok () w:=by simp only[fg,ado] at hok;exact lE _ 20 kt x k hok.2 hx 10000 (by omega)
   obtain⟨v',hz,h⟩:=adn.1 h;obtain⟨zv,hzr,hzd⟩:=vI (w:=w) (m:=m) hz;have hrun:(Instr.lookup t (.map (some g)) x ok).run P w= .ok (if ok then .tuple #[zv,.bool false] else zv) w:=by simp only[afp] at hf;simp only[Instr.lookup,Gc,aC hu,Ge,MapKept.run_getObj_map hh,Gd,hck,hf,hzr]
   refine⟨_,hrun,?_⟩;cases ok with
   |false=>simp only[adI,adw] at h⊢;rw[<-h];exact hzd
   |true=>simp only[adB] at h⊢;rw[<-h];exact Rd.tup_iff.2 ⟨_,rfl,hzd,.x _,trivial⟩
 . cases h
end
section
variable{m:Lim}{w:World}{β:Nat->Nat}{E:Env}
theorem Aj{t:Bool}{v1 v2:Value}{u1 u2:V}(h1:Rs m w β v1 u1)(h2:Rs m w β v2 u2):Rs m w β (if t then v1 else v2) (vD t u1 u2):=by
 unfold vD;cases t
 . simp only[adI,adw];split<;>exact h2
 . simp only[adB];split<;>exact h1
theorem aP(b off k:Nat):Addr.add ⟨b,off,none⟩ k=⟨b,off+k,none⟩:=by
 unfold Addr.add;split
 . rename_i h;subst h;rfl
 . rfl
variable{cs:U}
theorem Rd.ip_drop{k:Nat}(h:Rd m w v (.ip cs))(hk:k<=cs.length):∃b off,v= .pointer (some ⟨b,off,none⟩)∧Rd m w (.pointer (some ⟨b,off+k,none⟩)) (.ip (cs.drop k)):=by
 cases h with
 | ip blk off cs c hb hc hm hr=>
   refine⟨blk,off,rfl,.ip blk (off+k) _ (fun i=>c (k+i)) hb (fun i hi=>?_) (fun fr hf=>?_) (fun i d hd=>?_)⟩
   . simp at hi;have:=hc (k+i) (by omega)
     rwa [<-afR] at this
   . have:=hm fr hf;simp;omega
   . rw[aeA] at hd;exact hr _ d hd
variable{nl:Bool}{sz:Nat}{es:U}{tok:Option Nat}
theorem Rd.sl_at{i:Nat}(h:Rd m w v (.sl nl sz es tok))(hi:es[i]?=some u):
 ∃blk off cap,v= .slice (some ⟨blk,off,none⟩) es.length cap∧Rd m w (.pointer (some ⟨blk,off+i*sz,none⟩)) (.ip u.cells):=by
 cases h with
 |nil sz tok=>simp at hi
 |emp a cap sz=>simp at hi
 | sl blk off cap sz es tok c hb hcap hsz hc hm hr=>
   have hlt:i<es.length:=by
    rcases aeb i es.length with h'|h'
    . exact h'
    . simp[adM h'] at hi
   have hl:=hsz i u hi;have hle:(i+1)*sz<=es.length*sz:=ad9 _ hlt;rw[aek,afu] at hle;refine⟨blk,off,cap,rfl,.ip blk (off+i*sz) _ (fun k=>c (i*sz+k)) hb (fun k hk=>?_) (fun fr hf=>?_) (fun k d hd=>hr i u hi k d hd)⟩
   . rw[hl] at hk;have:=hc (i*sz+k) (by omega)
     rwa [<-afR] at this
   . have:=hm fr hf;rw[hl];omega
theorem Rd.sl_sub(h:Rd m w v (.sl nl sz es tok)){l k:Nat}(hlk:l<=k)(hk:k<=es.length):
 ∃a cap,v= .slice a es.length cap∧es.length<=cap∧Rd m w (.slice (if cap=l then a else a.map (·.add (l*sz))) (k-l) (cap-l)) (.sl nl sz ((es.drop l).take (k-l)) none):=by
 cases h with
 | nil sz tok=>
   simp at hk;obtain rfl:k=0:=hk;obtain rfl:l=0:=by omega
   exact⟨none,0,rfl,adp _,by simpa using Rd.nil sz none⟩
 | emp a cap sz=>
   simp at hk;obtain rfl:k=0:=hk;obtain rfl:l=0:=by omega
   exact⟨some a,cap,rfl,adN _,by split<;>exact .emp _ _ _⟩
 | sl blk off cap sz es tok c hb hcap hsz hc hm hr=>
   refine⟨_,cap,rfl,hcap,?_⟩;have hlen:((es.drop l).take (k-l)).length=k-l:=by simp;omega
   have hle:k*sz<=es.length*sz:=ad9 _ hk;have hadd:l*sz+(k-l)*sz=k*sz:=by rw[<-aek];congr 1;omega
   by_cases hcl:cap=l
   . rw[adl hcl];have h0:k-l=0:=by omega
     have:=Rd.sl (m:=m) (w:=w) blk off (cap-l) sz ((es.drop l).take (k-l)) none c hb (by rw[hlen];omega) (fun i e he=>by rw[h0] at he;simp at he) (fun j hj=>by rw[hlen,h0] at hj;omega)
      (fun fr hf=>by have:=hm fr hf;rw[hlen,h0];omega) (fun i e he=>by rw[h0] at he;simp at he)
     rwa [hlen] at this
   . rw [adq hcl];have:=Rd.sl (m:=m) (w:=w) blk (off+l*sz) (cap-l) sz ((es.drop l).take (k-l)) none (fun j=>c (l*sz+j)) hb (by rw[hlen];omega) (fun i e he=>by
      rw[ad6] at he;split at he
      . rw[aeA] at he;exact hsz _ e he
      . simp at he) (fun j hj=>by
      rw[hlen] at hj;have:=hc (l*sz+j) (by omega)
      rwa [<-afR] at this)
      (fun fr hf=>by have:=hm fr hf;rw[hlen];omega) (fun i e he j d hd=>by
       rw[ad6] at he;split at he
       . rw[aeA] at he;have:=hr _ e he j d hd
         rwa [aek,afR] at this
       . simp at he)
     rw[hlen] at this;simpa[aP] using this
variable{ρ:Operand->Value}{e:Operand->V}
theorem mu(hρ:∀x,Rs m w β (ρ x) (e x)){d l:Int}{o:Option Operand}(h:dq e d o=some l):
 (o=none∧l=d)∨∃x k,o=some x∧ρ x= .int k l:=by
 cases o with
 |none=>simp only[dq,adO] at h;exact .inl ⟨rfl,h.symm⟩
 | some x=>
   simp only[dq] at h;split at h
   . rename_i k i hx;cases h;exact .inr ⟨x,k,rfl,(hx▸hρ x).x⟩
   . simp at h
variable{P:Program}{l:Nat}
theorem cT{k:IntKind}{y:Nat}(code:BoundsCode)(h:l<=y):(Instr.sliceBound (.int k (l:Int)) y code).run P w= .ok l w:=by simp only[Instr.sliceBound,asIntOf,Gc,Gd,Ge,Sem.run_ite];rw[adl ⟨by omega,by omega⟩];simp
theorem ga(hρ:∀x,Rs m w β (ρ x) (e x)){P:Program}{isS:Bool}{len cap l h:Nat}{lo hi:Option Operand}
 (hl:dq e 0 lo=some (l:Int)) (hh:dq e len hi=some (h:Int)) (h1:l<=h) (h2:h<=cap):
 (Instr.sliceBounds isS len cap (lo.map ρ) (hi.map ρ) none).run P w= .ok (l,h,cap) w:=by
 have hs:∀code,(match hi.map ρ with|some v=>Instr.sliceBound v cap code|none=>pure len:Sem Nat).run P w= .ok h w:=by
  intro code;rcases mu hρ hh with⟨rfl,he⟩|⟨x,k,rfl,hx⟩
  . have:h=len:=by omega
    subst this;rfl
  . simp only[aea,hx];exact cT code h2
 have ls:∀code,(match lo.map ρ with|some v=>Instr.sliceBound v h code|none=>pure 0:Sem Nat).run P w= .ok l w:=by
  intro code;rcases mu hρ hl with⟨rfl,he⟩|⟨x,k,rfl,hx⟩
  . have:l=0:=by omega
    subst this;rfl
  . simp only[aea,hx];exact cT code h1
 rcases mu hρ hh with⟨rfl,he⟩|⟨x,k,rfl,hx⟩<;>rcases mu hρ hl with⟨rfl,he'⟩|⟨x',k',rfl,hx'⟩
 . have e1:h=len:=by omega
   have e2:l=0:=by omega
   subst e1 e2;simp[Instr.sliceBounds]
 . have e1:h=len:=by omega
   subst e1;simp[Instr.sliceBounds,hx',cT _ h1]
 . have e2:l=0:=by omega
   subst e2;simp[Instr.sliceBounds,hx,cT _ h2]
 . simp[Instr.sliceBounds,hx,hx',cT _ h1,cT _ h2]
variable{o:Oper}
theorem Ak(hρ:∀x,Rs m w β (ρ x) (e x))(hm:jS o.op=true)(h:aW E o.op e=some u):
 ∃x,(execOp ρ o).run P w= .ok (.value (ρ x)) w∧u=e x:=by
 unfold aW at h;split at h
 . exact wR
 . exact wR
 . rename_i c x y ho;split at h
   . rename_i t hc;cases h;have hct:=(hc▸hρ c).x;cases t
     . refine⟨y,by simp only[execOp,ho,hct,asBool,Gc,Gd,Ge];rfl,?_⟩;unfold vD;split<;>simp_all
     . refine⟨x,by simp only[execOp,ho,hct,asBool,Gc,Gd,Ge];rfl,?_⟩;unfold vD;split<;>simp_all
   . simp at h
 all_goals first
  |(simp at h;done)
  |(rename_i ho;rw[ho] at hm;simp[jS] at hm)
theorem oc(hρ:∀x,Rs m w β (ρ x) (e x))(hM:∀x s ks vs,e x= .mp s ks vs->MapAt m w (β s) ks vs)(h:aW E o.op e=some u):
 ∃v,(execOp ρ o).run E.P w= .ok (.value v) w∧Rs m w β v u:=by
 unfold aW at h;split at h
 . exact wV
 . exact wV
 . rename_i c x y ho;split at h
   . rename_i t hc;cases h;have hct:=(hc▸hρ c).x;refine⟨_,by simp only[execOp,ho,hct,asBool,Gc,Gd,Ge],Aj (hρ x) (hρ y)⟩
   . simp at h
 . rename_i x ho;split at h
   . rename_i s off hx;cases h;have hv:=(hx▸hρ x:Rs m w β (ρ x) (.ptr s off)).ptr;refine⟨.pointer (some ⟨β s,off,none⟩),?_,.ofPtr _ _⟩;simp only[execOp,ho,hv,Gd]
   . rename_i cs hx;cases h;obtain⟨b,off,hv,hd⟩:=((hx▸hρ x:Rs m w β (ρ x) (.ip cs)).rd (by intros;simp)).ip_drop (k:=0) (adN _);refine⟨.pointer (some ⟨b,off,none⟩),?_,.of (by simpa using hd)⟩;simp only[execOp,ho,hv,Gd]
   . simp at h
 . rename_i op t x y yt ho;obtain⟨v,hr,hd⟩:=Ah (m:=m) (β:=β) (w:=w) (P:=E.P) (xo:=x) (yo:=y) (hρ x) (hρ y) h;exact⟨v,by simp only[execOp,ho];rw[Gc,hr];rfl,.of hd⟩
 . rename_i t x ho;split at h
   . rename_i b hb;cases h;have hbt:=(hb▸hρ x).x;exact⟨_,by simp only[execOp,ho,hbt,Op.unary,Gc,Gd,Ge],.of (.x _)⟩
   . simp at h
 . rename_i t x ho;split at h
   . rename_i k n hb;cases h;have hbt:=(hb▸hρ x).x;exact⟨_,by simp only[execOp,ho,hbt,Op.unary,Op.intArith,iP,Gc,Gd,Ge],.of (.x _)⟩
   . simp at h
 . rename_i x i ho;split at h
   . rename_i vs hv;replace h:=(f9 h).1;obtain⟨cs,hcs,hl⟩:=(hv▸hρ x).tup;have hlt:i<vs.length:=by
      rcases aeb i vs.length with h'|h'
      . exact h'
      . simp[adM h'] at h
     have hlen:=hl.length;simp at hlen;have hget:cs[i]?=some (cs[i]'(by omega)):=adG _;exact⟨cs[i]'(by omega),by simp only[execOp,ho,hcs,Instr.extract,hget,Gc,Gd,Ge],.of (hl.get i _ u (by simp) h)⟩
   . simp at h
 . rename_i t x f ho;split at h
   . rename_i cs fs hx ht;obtain⟨vs,hvs,hl⟩:=(hx▸hρ x).agg;cases hf:fs[f]? with
     |none=>simp[hf] at h
     |some fd=>simp only[hf,aeL] at h;replace h:=(f9 h).1;obtain⟨v,hr,hd⟩:=ib hl h;exact⟨v,by simp only[execOp,ho,hvs,Instr.field,Gc,aC ht,Ge,hf,asAgg,Gd,hr],.of hd⟩
   . simp at h
 . rename_i t parts ho;unfold nq at h;split at h
   . rename_i z fs hz ht;split at h
     . rename_i l hl;split at h
       . rename_i us hus;cases h;obtain⟨zv,hzr,hzd⟩:=ie (w:=w) (m:=m) hz
         have hfill:=ic (m:=m) (w:=w) (β:=β) (parts:=parts.toList.map fun p=>(p.1,(e p.2).bare)) (vs:=parts.toList.map fun p=>(p.1,ρ p.2)) hzd (by simp) (by intro i v u hv hu;simp only[ac9,adn] at hv hu;obtain⟨p,hp,rfl⟩:=hv;obtain⟨q,hq,rfl⟩:=hu;rw[hp] at hq;cases hq;exact(hρ _).bare) hus
         obtain⟨cs',hcs',hd⟩:=hfill;have hm:=vG (P:=E.P) (w:=w) fs.toList l hl;refine⟨.agg cs',?_,.of (Rd.agg_iff.2 ⟨cs',rfl,hd⟩)⟩;simp only[execOp,ho,Instr.build,Gc,hzr,Ge,aC ht];rw[agb];simp only[Sem.run_map,hm,Ge];have hq:(Array.map (fun(x:Nat×Operand)=>(x.fst,ρ x.snd)) parts).toList=parts.toList.map fun p=>(p.1,ρ p.2):=by simp
         rw[hq];have hpl:(fun(i:Nat)=>(l.toArray)[i]?)=(fun(i:Nat)=>l[i]?):=by funext i;simp
         rw[hpl,hcs'];rfl
       . simp at h
     . simp at h
   . simp at h
 . rename_i t x f ho;split at h
   . rename_i fs ht;split at h
     . rename_i fd hf;split at h
       . rename_i n hn;split at h
         . simp at h
         . rename_i hn0;split at h
           . rename_i s off hx;cases h;have hv:=(hx▸hρ x:Rs m w β (ρ x) (.ptr s off)).ptr
             . refine⟨.pointer (some ⟨β s,off+fd.offset,none⟩),?_,.ofPtr _ _⟩;exact yu
           . rename_i cs hx;split at h
             . rename_i hle;cases h;obtain⟨b,off,hv,hd⟩:=((hx▸hρ x:Rs m w β (ρ x) (.ip cs)).rd (by intros;simp)).ip_drop hle;refine⟨.pointer (some ⟨b,off+fd.offset,none⟩),?_,.of hd⟩;exact yu
             . simp at h
           . simp at h
       . simp at h
     . simp at h
   . simp at h
 . rename_i s d x ho;split at h
   . rename_i k0 k k1 n hs hd hx;cases h;have hxv:=(hx▸hρ x).x;exact⟨_,by simp only[execOp,ho,hxv,convert,Gc,aC hs,aC hd,Ge,Conv.intToInt,iP,Gd],.of (.x _)⟩
   . rename_i s' hs hd hx;cases h;have hxv:=(hx▸hρ x).x;exact⟨_,by simp only[execOp,ho,hxv,convert,Gc,aC hs,aC hd,Ge,Gd],.of (.x _)⟩
   . rename_i k0 k1 n hs hd hx;cases h;have hxv:=(hx▸hρ x).x;exact⟨_,by simp only[execOp,ho,hxv,convert,Gc,aC hs,aC hd,Ge,Conv.intToString,Gd],.of (.x _)⟩
   . simp at h
 . rename_i t x ix ho;split at h
   . rename_i elem nl sz es tok k i ht hx hix;split at h
     . rename_i hc;obtain⟨hsz,h0⟩:=hc;obtain⟨u',hu,rfl⟩:=adn.1 h;obtain⟨blk,off,cap,hv,hd⟩:=((hx▸hρ x:Rs m w β (ρ x) (.sl nl sz es tok)).rd (by intros;simp)).sl_at hu;have hi:=(hix▸hρ ix).x;have hlt:i.toNat<es.length:=by
        rcases aeb i.toNat es.length with h'|h'
        . exact h'
        . simp[adM h'] at hu
       refine⟨.pointer (some ⟨blk,off+i.toNat*sz,none⟩),?_,.of hd⟩;simp only[execOp,ho,hv,hi,Instr.indexAt,asIntOf,Gc,Gd,Ge,aC ht,Sem.run_ite];rw[adl ⟨h0,by omega⟩];simp only[bN hsz,Ge,aP]
     . simp at h
   . rename_i elem s sz len k i ht hx hix;split at h
     . rename_i hc;obtain⟨hsz,h0,hlt⟩:=hc;cases h;obtain⟨cap,hv,hcap⟩:=(hx▸hρ x:Rs m w β (ρ x) (.row s sz len)).row;have hi:=(hix▸hρ ix).x;have he:Rs m w β (.pointer (some ⟨β s,i.toNat*sz,none⟩)) (.ptr s (i.toNat*sz)):= .ofPtr _ _;refine⟨_,?_,he⟩;simp only[execOp,ho,hv,hi,Instr.indexAt,asIntOf,Gc,Gd,Ge,aC ht,Sem.run_ite];rw[adl ⟨h0,hlt⟩];simp only[bN hsz,Ge,aP,adi]
     . simp at h
   . simp at h
 . rename_i t x ix ho;split at h
   . rename_i s k i ht hx hix;split at h
     . rename_i hc;cases h;have hs:=(hx▸hρ x).x;have hi:=(hix▸hρ ix).x;have hlt:i.toNat<s.size:=by omega
       have hget:s[i.toNat]?=some s[i.toNat]:=getElem?_pos s i.toNat hlt;have hb:eP s i=(s[i.toNat].toNat:Int):=by unfold eP;have:s.data[i.toNat]?=some s[i.toNat]:=adG (by exact hlt);rw[this];rfl
       rw[hb];refine⟨_,?_,.of (.x _)⟩;simp only[execOp,ho,hs,hi,Instr.index,asIntOf,Gc,Gd,Ge,aC ht,hc.1,adB,hget]
     . simp at h
   . simp at h
 . rename_i t x lo hi ho;split at h
   . rename_i s ht hx;have hs:=(hx▸hρ x).x;split at h
     . rename_i l k hl hk;split at h
       . rename_i hc;cases h;obtain⟨l,rfl⟩:=aev hc.1;obtain⟨k,rfl⟩:=aev (show 0<=k by omega);have hb:=ga (P:=E.P) (isS:=false) (len:=s.size) (cap:=s.size) hρ hl hk (by omega) (by omega);refine⟨.string (s.extract l k),?_,by simpa[T5] using Rs.of (Rd.x (.string (s.extract l k)))⟩;simp only[execOp,ho,Instr.sliceAt,Gc,aC ht,Ge,Instr.slice,hs,afp,Option.isSome_none,adI,adw,Gd,hb]
       . simp at h
     . simp at h
   . rename_i elem nl sz es tok ht hx;split at h
     . rename_i l k hl hk;split at h
       . rename_i hc;cases h;obtain⟨hsz,hl0,hlk,hke⟩:=hc;obtain⟨l,rfl⟩:=aev hl0;obtain⟨k,rfl⟩:=aev (show 0<=k by omega);obtain⟨a',cap,hv,hcap,hd⟩:=((hx▸hρ x:Rs m w β (ρ x) (.sl nl sz es tok)).rd (by intros;simp)).sl_sub (l:=l) (k:=k) (by omega) (by omega);have hb:=ga (P:=E.P) (isS:=true) (len:=es.length) (cap:=cap) hρ hl hk (by omega) (by omega);refine⟨_,?_,by simpa using Rs.of hd⟩;simp only[execOp,ho,Instr.sliceAt,Gc,aC ht,Ge,Instr.slice,hv,afp,hb,bN hsz,Gd]
       . simp at h
     . simp at h
   . rename_i elem s sz len ht hx;split at h
     . rename_i l k hl hk;split at h
       . rename_i hc;cases h;obtain⟨hsz,rfl,h0,hke⟩:=hc;obtain⟨k,rfl⟩:=aev h0;obtain⟨cap,hv,hcap⟩:=(hx▸hρ x:Rs m w β (ρ x) (.row s sz len)).row;have hb:=ga (P:=E.P) (isS:=true) (len:=len) (cap:=cap) (l:=0) hρ hl hk (by omega) (by omega);refine⟨.slice (some ⟨β s,0,none⟩) k cap,?_,.ofRow _ _ (by omega)⟩;simp only[execOp,ho,Instr.sliceAt,Gc,aC ht,Ge,Instr.slice,hv,afp,hb,bN hsz,Gd];congr 2;cases cap<;>simp[aP]
       . simp at h
     . simp at h
   . simp at h
 . rename_i args argTypes ho;split at h
   . rename_i x t ha ht;have hargs:args= #[x]:=by apply aed.1;simpa using ha
     have hts:argTypes= #[t]:=by apply aed.1;simpa using ht
     subst hargs hts;split at h
     . rename_i s hu hx;cases h;have hxv:=(hx▸hρ x).x;refine⟨.int .i64 s.size,?_,.of (.x _)⟩;exact xj
     . rename_i e' nl sz es tok hu hx;cases h;obtain⟨a,cap,hxv,_,_⟩:=(hx▸hρ x).sl;refine⟨.int .i64 es.length,?_,.of (.x _)⟩;exact xj
     . rename_i e' s sz len hu hx;cases h;obtain⟨cap,hxv,_⟩:=(hx▸hρ x:Rs m w β (ρ x) (.row s sz len)).row;refine⟨.int .i64 len,?_,.of (.x _)⟩;exact xj
     . rename_i kt et s ks vs hu hx;cases h;have hxv:=(hx▸hρ x:Rs m w β (ρ x) (.mp s ks vs)).mp;obtain⟨ents,clock,hh,hrd,_,_⟩:=hM x s ks vs hx;have hl:ents.size=ks.length:=by rw[<-adD];exact hrd.len.1
       exact yw
     . rename_i kt et ks vs hu hx;cases h;obtain⟨g,ents,clock,hxv,hh,hrd,_⟩:=((hx▸hρ x:Rs m w β (ρ x) (.fm ks vs)).rd rfl).fm_at;have hl:ents.size=ks.length:=by rw[<-adD];exact hrd.len.1
       exact yw
     . simp at h
   . simp at h
 . rename_i args argTypes ho;split at h
   . rename_i x y ha;have hargs:args= #[x,y]:=by apply aed.1;simpa using ha
     subst hargs;split at h
     . rename_i k a k' b hx hy;cases h;have hxv:=(hx▸hρ x).x;have hyv:=(hy▸hρ y).x;refine⟨.int k (Rb a b),?_,.of (.x _)⟩;simp[execOp,ho,resolve,invoke,builtin,Builtin.max_,Builtin.max2,hxv,hyv,Rb]
     . simp at h
   . simp at h
 . rename_i args argTypes ho;split at h
   . rename_i x y ha;have hargs:args= #[x,y]:=by apply aed.1;simpa using ha
     subst hargs;split at h
     . rename_i k a k' b hx hy;cases h;have hxv:=(hx▸hρ x).x;have hyv:=(hy▸hρ y).x;refine⟨.int k (EO a b),?_,.of (.x _)⟩;simp[execOp,ho,resolve,invoke,builtin,Builtin.min_,Builtin.min2,hxv,hyv,EO]
     . simp at h
   . simp at h
 . simp at h
end
theorem A0a{p:Prop}(h:p:=by kernel_rfl):p:=h
theorem A0b{p:Prop}(h:p:=by omega):p:=h
theorem A0c{p:Prop}(h:p:=by decide):p:=h
theorem A0d{p:Prop}(h:p:=by simp +decide (maxDischargeDepth:=200) only[go_sem,Nat.reduceBEq]<;>(repeat' first|rfl|constructor)):p:=h
theorem A0e{p:Prop}(h:p:=by simp +decide only[go_sem]<;>(repeat' first|rfl|constructor)):p:=h
theorem A0f{p:Prop}(h:p:=by simp +decide only[go_sem,Nat.reduceBEq,adt]<;>(repeat' first|rfl|constructor)):p:=h
theorem A0g{p:Prop}(h:p:=by simp only[go_sem,Nat.reduceEqDiff,adw,adB,bX,aq]):p:=h
theorem A0h{p:Prop}(h:p:=by simp +decide (maxDischargeDepth:=200) only[go_sem,Nat.reduceBEq,l13,t13]<;>(repeat' first|rfl|constructor)):p:=h
theorem A0i{p:Prop}(h:p:=by simp only[go_sem,St.put,Nat.reduceEqDiff,adw,adB,bX,aq]):p:=h
theorem A0j{p:Prop}(h:p:=by unfold inR;omega):p:=h
theorem A0k{p:Prop}(h:p:=by simp):p:=h
theorem A0l{p:Prop}(h:p:=by simp +decide (maxDischargeDepth:=200) only[go_sem,ba,Nat.reduceBEq]<;>(repeat' first|rfl|constructor)):p:=h
theorem A0m{p:Prop}(h:p:=by simpa using hi):p:=h
theorem A0n{p:Prop}(h:p:=by simp +decide (maxDischargeDepth:=200) only[go_sem,Nat.reduceBEq]):p:=h
theorem A0o{p:Prop}(h:p:=by simp +decide (maxDischargeDepth:=200) only[go_sem,X1,X2,X3,bC]):p:=h
theorem A0p{p:Prop}(h:p:=by simp +decide (maxDischargeDepth:=200) only[go_sem,ba,Nat.reduceBEq,St.put]<;>(repeat' first|rfl|constructor)):p:=h
theorem A0q{p:Prop}(h:p:=by rw[hval];rfl):p:=h
theorem A0r{p:Prop}(h:p:=by simp +decide (maxDischargeDepth:=200) only[go_sem,ba,Nat.reduceBEq,c1]<;>(repeat' first|rfl|constructor)):p:=h
theorem A0s{p:Prop}(h:p:=by simp +decide (maxDischargeDepth:=200) only[go_sem,Nat.reduceBEq,c4]<;>(repeat' first|rfl|constructor)):p:=h
theorem A0t{p:Prop}(h:p:=by simp[Op.operands]):p:=h
theorem A0u{p:Prop}(h:p:=by unfold Region.wanted;rw[hg]):p:=h
theorem A0v{p:Prop}(h:p:=by simp +decide only[go_sem,ad5,afm]<;>(repeat' first|rfl|constructor)):p:=h
theorem A0w{p:Prop}(h:p:=by rw[eq];omega):p:=h
theorem A0x{p:Prop}(h:p:=by simpa using hj):p:=h
theorem A0y{p:Prop}(h:p:=by simp +decide only[go_sem,adt]<;>(repeat' first|rfl|constructor)):p:=h
theorem A0z{p:Prop}(h:p:=by simp +decide (maxDischargeDepth:=200) only[go_sem,Nat.reduceBEq,c1]<;>(repeat' first|rfl|constructor)):p:=h
theorem A0A{p:Prop}(h:p:=by rw[hW'];kernel_rfl):p:=h
theorem A0B{p:Prop}(h:p:=by rw[show k+(i+1)=k+1+i from by omega];rw[show 1000+(k+1+i)=1000+(k+1+i) from rfl];exact ht):p:=h
theorem A0C{p:Prop}(h:p:=by simp +decide only[go_sem,ad5,aV]<;>(repeat' first|rfl|constructor)):p:=h
theorem A0D{p:Prop}(h:p:=by simp +decide (maxDischargeDepth:=200) only[go_sem,ba,Nat.reduceBEq,eq,c1',c2,q2,tl]<;>(repeat' first|rfl|constructor)):p:=h
theorem A0E{p:Prop}(h:p:=by simp +decide (maxDischargeDepth:=200) only[go_sem,ba,Nat.reduceBEq,St.put,eq,adt]<;>(repeat' first|rfl|constructor)):p:=h
theorem A0F{p:Prop}(h:p:=by simp;omega):p:=h
theorem A0G{p:Prop}(h:p:=by simp +decide (maxDischargeDepth:=200) only[go_sem,ba,Nat.reduceBEq,c4]<;>(repeat' first|rfl|constructor)):p:=h
theorem A0H{p:Prop}(h:p:=by simp +decide (maxDischargeDepth:=200) only[go_sem,Nat.reduceBEq,aa]<;>(repeat' first|rfl|constructor)):p:=h
theorem A0I{p:Prop}(h:p:=by intro e;cases e):p:=h
theorem A0J{p:Prop}(h:p:=by rw[hop];intro c e;cases e):p:=h
theorem A0K{p:Prop}(h:p:=by rw[adz];omega):p:=h
theorem A0L{p:Prop}(h:p:=by intro c e;cases e):p:=h
theorem A0M{p:Prop}(h:p:=by rw[hg];exact fun h=>by cases h):p:=h
theorem A0N{p:Prop}(h:p:=by simp only[adh,adz,aeE,adm,adT];omega):p:=h
theorem A0O{p:Prop}(h:p:=by simp only[go_sem];rfl):p:=h
theorem A0P{p:Prop}(h:p:=by simp +decide (maxDischargeDepth:=200) only[go_sem,X1,X2,X3,bC,c1]):p:=h
theorem A0Q{p:Prop}(h:p:=by simp +decide (maxDischargeDepth:=200) only[go_sem,Nat.reduceBEq,l13,t13,rgV,aeg,afT,aep]<;>(repeat' first|rfl|constructor)):p:=h
theorem A0R{p:Prop}(h:p:=by simpa using(show(directV _).contains 8=true by kernel_rfl)):p:=h
theorem A0S{p:Prop}(h:p:=by simp +decide (maxDischargeDepth:=200) only[go_sem,Nat.reduceBEq,hcc,rgV,g2,adx,d5]<;>(repeat' first|rfl|constructor)):p:=h
theorem A0T{p:Prop}(h:p:=by simp +decide (maxDischargeDepth:=200) only[go_sem,ba,Nat.reduceBEq,adm,adh,lN,lT]<;>(repeat' first|rfl|constructor)):p:=h
theorem A0U{p:Prop}(h:p:=by simp only[go_sem,St.put,Nat.reduceEqDiff,adw,adB,vq,aq]):p:=h
theorem A0V{p:Prop}(h:p:=by simp +decide (maxDischargeDepth:=200) only[go_sem,ba,Nat.reduceBEq,St.put,eq]<;>(repeat' first|rfl|constructor)):p:=h
theorem A0W{p:Prop}(h:p:=by simp +decide (maxDischargeDepth:=200) only[go_sem,Nat.reduceBEq,l13,t13,hput]<;>(repeat' first|rfl|constructor)):p:=h
theorem A0X{p:Prop}(h:p:=by simp +decide (maxDischargeDepth:=200) only[go_sem,Nat.reduceBEq,hc2,c2,c1,eq]<;>(repeat' first|rfl|constructor)):p:=h
theorem A0Y{p:Prop}(h:p:=by simpa using hn):p:=h
theorem A0Z{p:Prop}(h:p:=by simp +decide (maxDischargeDepth:=200) only[go_sem,Nat.reduceBEq,l13,t13,c1]<;>(repeat' first|rfl|constructor)):p:=h
theorem A00{p:Prop}(h:p:=by simp[hl]):p:=h
theorem A01{p:Prop}(h:p:=by simp +decide (maxDischargeDepth:=200) only[go_sem,Nat.reduceBEq,g2,adx,d5]<;>(repeat' first|rfl|constructor)):p:=h
theorem A02{p:Prop}(h:p:=by simp +decide only[go_sem]):p:=h
theorem A03{p:Prop}(h:p:=by simp +decide (maxDischargeDepth:=200) only[go_sem,Nat.reduceBEq,hcc,rgV]<;>(repeat' first|rfl|constructor)):p:=h
theorem A04{p:Prop}(h:p:=by simp +decide (maxDischargeDepth:=200) only[go_sem,Nat.reduceBEq,St.put]<;>(repeat' first|rfl|constructor)):p:=h
theorem A05{p:Prop}(h:p:=by simp +decide (maxDischargeDepth:=200) only[go_sem,Nat.reduceBEq,eq,c4]<;>(repeat' first|rfl|constructor)):p:=h
theorem A06{p:Prop}(h:p:=by simp +decide (maxDischargeDepth:=200) only[go_sem,Nat.reduceBEq,eq,c1]<;>(repeat' first|rfl|constructor)):p:=h
theorem A07{p:Prop}(h:p:=by simp +decide (maxDischargeDepth:=200) only[go_sem,Nat.reduceBEq,rgV]<;>(repeat' first|rfl|constructor)):p:=h
theorem A08{p:Prop}(h:p:=by rw[e]):p:=h
theorem A09{p:Prop}(h:p:=by cases h):p:=h
theorem A1a{p:Prop}(h:p:=by rw[hsh k i];exact hs):p:=h
theorem A1b{p:Prop}(h:p:=by rw[adz] at hfl;omega):p:=h
theorem A1c{p:Prop}(h:p:=by simp +decide (maxDischargeDepth:=200) only[go_sem,X1,X2,X3,bC,w1,w2]):p:=h
theorem A1d{p:Prop}(h:p:=by simp +decide only[go_sem,ad5,adt]<;>(repeat' first|rfl|constructor)):p:=h
theorem A1e{p:Prop}(h:p:=by simp +decide (maxDischargeDepth:=200) only[go_sem,X1,X2,X3,bC,w1]):p:=h
theorem A1f{p:Prop}(h:p:=by simp +decide (maxDischargeDepth:=200) only[go_sem,X1,X2,X3,bC,s0]):p:=h
theorem A1g{p:Prop}(h:p:=by simp +decide (maxDischargeDepth:=200) only[go_sem,X1,X2,X3,bC,c2]):p:=h
theorem A1h{p:Prop}(h:p:=by simpa using hk):p:=h
theorem A1i{p:Prop}(h:p:=by simp +decide only[go_sem];rfl):p:=h
theorem A1j{p:Prop}(h:p:=by rw[hR,hD,hx];exact⟨r1,r2⟩):p:=h
theorem A1k{p:Prop}(h:p:=by simpa using(show(directV _).contains 10=true by kernel_rfl)):p:=h
theorem A1l{p:Prop}(h:p:=by simp +decide (maxDischargeDepth:=200) only[go_sem];rfl):p:=h
theorem A1m{p:Prop}(h:p:=by simp only[execOp,he10,Gc,lU];rw[hrun];rfl):p:=h
theorem A1n{p:Prop}(h:p:=by rw[hg];simp):p:=h
theorem A1o{p:Prop}(h:p:=by rw[hb];simp):p:=h
theorem A1p{p:Prop}(h:p:=by intros;simp):p:=h
theorem A1q{p:Prop}(h:p:=by simp only[execOp,he5,Gc,ir];rw[hrun];rfl):p:=h
theorem A1r{p:Prop}(h:p:=by simp +decide (maxDischargeDepth:=200) only[go_sem]):p:=h
theorem A1s{p:Prop}(h:p:=by simpa using hsz):p:=h
theorem A1t{p:Prop}(h:p:=by simpa using hil):p:=h
theorem A1u{p:Prop}(h:p:=by show H g≠none;rw[show H g=some ob from e];simp):p:=h
theorem A1v{p:Prop}(h:p:=by simp only[Op.operands,ads];exact⟨p,hpm,rfl⟩):p:=h
theorem A1w{p:Prop}(h:p:=by simpa using hq):p:=h
theorem A1x{p:Prop}(h:p:=by unfold MX at hN;omega):p:=h
theorem A1y{p:Prop}(h:p:=by rw[hi,e];rfl):p:=h
theorem A1z{p:Prop}(h:p:=by rw[hR,hD];exact h87):p:=h
theorem A1A{p:Prop}(h:p:=by show inR (cE c r c' r');unfold inR;omega):p:=h
theorem A1B{p:Prop}(h:p:=by rw[<-hnl2,adh,hol,hnl,hmul];exact adp _):p:=h

/- Formulas: one node's own fields: package tree and the reference, as functions of plain data. -/
import Derived.Test.YtfmdcgakkijkdaaGreatDoorTrA
namespace Go.Proofs.YtfmdcgakkijkdaaGreatDoor
open Go Go.RowKit
set_option linter.unusedSimpArgs false
/-- A node with whatever kids. -/
abbrev KR := Bool × Nat × List V
def rawV (p : Hd × KR) : V := .agg (cellsH p.1 (.sl p.2.1 p.2.2.1 p.2.2.2 none))
theorem rawV_inj (p q : Hd × KR) (e : rawV p = rawV q) : p = q := by
  obtain ⟨h, a, b, c⟩ := p
  obtain ⟨h', a', b', c'⟩ := q
  obtain ⟨h1, h2⟩ := cellsH_inj (V.agg.inj e)
  have h1 : h = h' := h1
  have h2 : V.sl a b c none = V.sl a' b' c' none := h2
  cases h1
  cases h2
  rfl
def enc1 (p : Hd × KR) : List V := [rawV p]
def enc2 (p : (Hd × KR) × (Hd × KR)) : List V := [rawV p.1, rawV p.2]
theorem enc1_inj (p q : Hd × KR) (e : enc1 p = enc1 q) : p = q := rawV_inj _ _ (List.cons.inj e).1
theorem enc2_inj (p q : (Hd × KR) × (Hd × KR)) (e : enc2 p = enc2 q) : p = q := by
  obtain ⟨h1, h2⟩ := List.cons.inj e
  exact Prod.ext (rawV_inj _ _ h1) (rawV_inj _ _ (List.cons.inj h2).1)
noncomputable def FAlike : List V → Option V := FE enc2 fun p => some (.x (.bool (alikeB p.1.1 p.1.2.2.2.length p.2.1 p.2.2.2.2.length)))
theorem FAlike_eq (k : Int) (op : ByteArray) (nm : ByteArray) (vk : Int) (vn : Int) (vs : ByteArray) (cs : ByteArray) (cc : Int) (cr : Int) (ts : ByteArray) (tc : Int) (tr : Int) (nl : Bool) (sz : Nat) (es : List V) (k' : Int) (op' : ByteArray) (nm' : ByteArray) (vk' : Int) (vn' : Int) (vs' : ByteArray) (cs' : ByteArray) (cc' : Int) (cr' : Int) (ts' : ByteArray) (tc' : Int) (tr' : Int) (nl' : Bool) (sz' : Nat) (es' : List V) :
    FAlike [.agg [.x (.int .i64 k), .x (.string op), .x (.string nm), .x (.int .i64 vk), .x (.int .i64 vn), .x (.string vs), .x (.string cs), .x (.int .i64 cc), .x (.int .i64 cr), .x (.string ts), .x (.int .i64 tc), .x (.int .i64 tr), .sl nl sz es none], .agg [.x (.int .i64 k'), .x (.string op'), .x (.string nm'), .x (.int .i64 vk'), .x (.int .i64 vn'), .x (.string vs'), .x (.string cs'), .x (.int .i64 cc'), .x (.int .i64 cr'), .x (.string ts'), .x (.int .i64 tc'), .x (.int .i64 tr'), .sl nl' sz' es' none]] = some (.x (.bool (alikeB ⟨k, op, nm, vk, vn, vs, cs, cc, cr, ts, tc, tr⟩ es.length ⟨k', op', nm', vk', vn', vs', cs', cc', cr', ts', tc', tr'⟩ es'.length))) :=
  FE_at enc2_inj _ ((⟨k, op, nm, vk, vn, vs, cs, cc, cr, ts, tc, tr⟩, nl, sz, es), (⟨k', op', nm', vk', vn', vs', cs', cc', cr', ts', tc', tr'⟩, nl', sz', es'))
/-- The fields that a node's kind names. -/
def onlyH (h : Hd) : Hd :=
  bif decide (h.k = 1) then ⟨h.k, ⟨#[]⟩, ⟨#[]⟩, h.vk, h.vn, h.vs, ⟨#[]⟩, 0, 0, ⟨#[]⟩, 0, 0⟩ else bif decide (h.k = 2) then ⟨h.k, ⟨#[]⟩, ⟨#[]⟩, 0, 0, ⟨#[]⟩, h.cs, h.cc, h.cr, ⟨#[]⟩, 0, 0⟩ else
  bif decide (h.k = 3) then ⟨h.k, ⟨#[]⟩, ⟨#[]⟩, 0, 0, ⟨#[]⟩, h.cs, h.cc, h.cr, h.ts, h.tc, h.tr⟩ else bif decide (h.k = 4) then ⟨h.k, h.op, ⟨#[]⟩, 0, 0, ⟨#[]⟩, ⟨#[]⟩, 0, 0, ⟨#[]⟩, 0, 0⟩ else
  bif decide (h.k = 5) then ⟨h.k, h.op, ⟨#[]⟩, 0, 0, ⟨#[]⟩, ⟨#[]⟩, 0, 0, ⟨#[]⟩, 0, 0⟩ else bif decide (h.k = 6) then ⟨h.k, ⟨#[]⟩, h.nm, 0, 0, ⟨#[]⟩, ⟨#[]⟩, 0, 0, ⟨#[]⟩, 0, 0⟩ else ⟨h.k, ⟨#[]⟩, ⟨#[]⟩, 0, 0, ⟨#[]⟩, ⟨#[]⟩, 0, 0, ⟨#[]⟩, 0, 0⟩
def onlyN (h : Hd) (n : Nat) : Nat := bif decide (h.k = 1) then 0 else bif decide (h.k = 2) then 0 else bif decide (h.k = 3) then 0 else bif decide (h.k = 4) then n else bif decide (h.k = 5) then n else bif decide (h.k = 6) then n else 0
/-- What a kind asks of the fields it names. -/
def okF (h : Hd) (n : Nat) : Bool :=
  bif decide (h.k = 1) then writtenV h.vk h.vn h.vs else bif decide (h.k = 2) then rightC h.cs h.cc h.cr else
  bif decide (h.k = 3) then rangeB h.cs h.cc h.cr h.ts h.tc h.tr else bif decide (h.k = 4) then decide (h.op = ⟨#[45]⟩) && decide ((n : Int) = 1) else
  bif decide (h.k = 5) then opB h.op && decide ((n : Int) = 2) else bif decide (h.k = 6) then callB h.nm && decide ((n : Int) ≤ 20) else decide (h.k = 7)
def fitsB (h : Hd) (n : Nat) : Bool := okF h n && alikeB h n (onlyH h) (onlyN h n)
noncomputable def FFits : List V → Option V := FE enc1 fun p => some (.x (.bool (fitsB p.1 p.2.2.2.length)))
theorem FFits_eq (k : Int) (op : ByteArray) (nm : ByteArray) (vk : Int) (vn : Int) (vs : ByteArray) (cs : ByteArray) (cc : Int) (cr : Int) (ts : ByteArray) (tc : Int) (tr : Int) (nl : Bool) (sz : Nat) (es : List V) : FFits [.agg [.x (.int .i64 k), .x (.string op), .x (.string nm), .x (.int .i64 vk), .x (.int .i64 vn), .x (.string vs), .x (.string cs), .x (.int .i64 cc), .x (.int .i64 cr), .x (.string ts), .x (.int .i64 tc), .x (.int .i64 tr), .sl nl sz es none]] = some (.x (.bool (fitsB ⟨k, op, nm, vk, vn, vs, cs, cc, cr, ts, tc, tr⟩ es.length))) :=
  FE_at enc1_inj _ (⟨k, op, nm, vk, vn, vs, cs, cc, cr, ts, tc, tr⟩, nl, sz, es)
/-- A node has but what its kind names (the reference). -/
def bareB (h : Hd) (n : Nat) : Bool :=
  bif decide (h.k = 1) then decide (h.op = ⟨#[]⟩) && (decide (h.nm = ⟨#[]⟩) && ((decide (h.cs = ⟨#[]⟩) && (decide (h.cc = 0) && decide (h.cr = 0))) && ((decide (h.ts = ⟨#[]⟩) && (decide (h.tc = 0) && decide (h.tr = 0))) && (decide ((n : Int) = 0))))) else
  bif decide (h.k = 2) then decide (h.op = ⟨#[]⟩) && (decide (h.nm = ⟨#[]⟩) && ((decide (h.vk = 0) && (decide (h.vn = 0) && decide (h.vs = ⟨#[]⟩))) && ((decide (h.ts = ⟨#[]⟩) && (decide (h.tc = 0) && decide (h.tr = 0))) && (decide ((n : Int) = 0))))) else
  bif decide (h.k = 3) then decide (h.op = ⟨#[]⟩) && (decide (h.nm = ⟨#[]⟩) && ((decide (h.vk = 0) && (decide (h.vn = 0) && decide (h.vs = ⟨#[]⟩))) && (decide ((n : Int) = 0)))) else
  bif decide (h.k = 4) then decide (h.nm = ⟨#[]⟩) && ((decide (h.vk = 0) && (decide (h.vn = 0) && decide (h.vs = ⟨#[]⟩))) && ((decide (h.cs = ⟨#[]⟩) && (decide (h.cc = 0) && decide (h.cr = 0))) && ((decide (h.ts = ⟨#[]⟩) && (decide (h.tc = 0) && decide (h.tr = 0)))))) else
  bif decide (h.k = 5) then decide (h.nm = ⟨#[]⟩) && ((decide (h.vk = 0) && (decide (h.vn = 0) && decide (h.vs = ⟨#[]⟩))) && ((decide (h.cs = ⟨#[]⟩) && (decide (h.cc = 0) && decide (h.cr = 0))) && ((decide (h.ts = ⟨#[]⟩) && (decide (h.tc = 0) && decide (h.tr = 0)))))) else
  bif decide (h.k = 6) then decide (h.op = ⟨#[]⟩) && ((decide (h.vk = 0) && (decide (h.vn = 0) && decide (h.vs = ⟨#[]⟩))) && ((decide (h.cs = ⟨#[]⟩) && (decide (h.cc = 0) && decide (h.cr = 0))) && ((decide (h.ts = ⟨#[]⟩) && (decide (h.tc = 0) && decide (h.tr = 0)))))) else
  bif decide (h.k = 7) then decide (h.op = ⟨#[]⟩) && (decide (h.nm = ⟨#[]⟩) && ((decide (h.vk = 0) && (decide (h.vn = 0) && decide (h.vs = ⟨#[]⟩))) && ((decide (h.cs = ⟨#[]⟩) && (decide (h.cc = 0) && decide (h.cr = 0))) && ((decide (h.ts = ⟨#[]⟩) && (decide (h.tc = 0) && decide (h.tr = 0))) && (decide ((n : Int) = 0)))))) else false
noncomputable def FBare : List V → Option V := FE enc1 fun p => some (.x (.bool (bareB p.1 p.2.2.2.length)))
theorem FBare_eq (k : Int) (op : ByteArray) (nm : ByteArray) (vk : Int) (vn : Int) (vs : ByteArray) (cs : ByteArray) (cc : Int) (cr : Int) (ts : ByteArray) (tc : Int) (tr : Int) (nl : Bool) (sz : Nat) (es : List V) : FBare [.agg [.x (.int .i64 k), .x (.string op), .x (.string nm), .x (.int .i64 vk), .x (.int .i64 vn), .x (.string vs), .x (.string cs), .x (.int .i64 cc), .x (.int .i64 cr), .x (.string ts), .x (.int .i64 tc), .x (.int .i64 tr), .sl nl sz es none]] = some (.x (.bool (bareB ⟨k, op, nm, vk, vn, vs, cs, cc, cr, ts, tc, tr⟩ es.length))) :=
  FE_at enc1_inj _ (⟨k, op, nm, vk, vn, vs, cs, cc, cr, ts, tc, tr⟩, nl, sz, es)
set_option maxHeartbeats 8000000 in
set_option maxRecDepth 100000 in
theorem bare_fun : FunV 37 FBare := by
  refine fun_of_run (E := envOf []) (k := 1) (envOK_of _ trivial) (by kernel_rfl) Tryz.func37 rfl (fun a w => Tryz.call37 a w) Tryz.ntmps37 (by kernel_rfl) (by decide) (by decide) ?_
  intro us r hF hdat
  obtain ⟨⟨⟨k, op, nm, vk, vn, vs, cs, cc, cr, ts, tc, tr⟩, nl, sz, es⟩, hus, hG⟩ := FE_out hF
  clear hF
  subst hus
  have hF := hG
  clear hG
  cases hF
  refine ⟨rfl, ?_⟩
  simp only [enc1, rawV, cellsH]
  simp (decide := true) (maxDischargeDepth := 200) only [go_sem, Tryz.results37]
  repeat' first
    | simp (decide := true) (maxDischargeDepth := 200) only [go_sem, Tryz.results37, *]
    | refine guardK_openF (fun _ => ?_) (fun _ => ?_)
    | refine guardK_openN (fun _ => ?_) (fun _ => ?_)
    | refine guardK_openT (fun _ => ?_) (fun _ => ?_)
    | refine guardK_open (fun _ => ?_) (fun _ => ?_)
    | refine condK_openN (fun _ => ?_) (fun _ => ?_)
    | refine condK_open (fun _ => ?_) (fun _ => ?_)
  all_goals simp (decide := true) only [bareB, go_sem, *]

end Go.Proofs.YtfmdcgakkijkdaaGreatDoor

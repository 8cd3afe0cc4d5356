/- Chapter 10's laws: of several values the one that is asked; a row that is made of values and grows. -/
import Derived.Test.YtakcoalbidjahaaDoorGoT
namespace Go.Proofs.YtakcoalbidjahaaDoor
open Go Go.RowKit
set_option linter.unusedSimpArgs false
theorem one_lit {E : Env} {n : Nat} {B : Bs} {w : World} {st : St} {a : Act} {r : Option Nat} (hE : EnvOK E) {ops : List Oper} {Q : Exit → Act → World → Prop} {i : Nat} {rest : List Nat} {o : Oper} {d : Tmp} {t el : TypeId} {len k : Nat} {parts : Array (Nat × Operand)} {z : List V} (us : List (Nat × V))
    (hi : ops[i]? = some o) (hop : o.op = .buildSlice t len parts) (hd : o.dst = some d) (hg : o.guard = none) (hdn : d < n) (ht : E.P.underlying t = some (.slice el)) (hsz : szB E.P el = some k) (hz : zeroB E.P el = some z)
    (hus : (parts.toList.map fun p => (p.1, (ev E st p.2).bare)) = us) (hr : us.map (·.1) = List.range len) (hmax : len * k ≤ 16777216) (hp : (us.all fun p => p.2.dat && decide (p.2.cells.length = k)) = true) (h : One E n B st a w)
    (hK : ∀ a' w', One E n B ⟨upd (strip d st.t) d (.sl false k (us.map (·.2)) (some d)), stripB E d st.b⟩ a' w' → wpOpsIn (fen r) 0 E.P ⟨ops⟩ Q rest a' w') (hW : B.W d = true := by rfl) : wpOpsIn (fen r) 0 E.P ⟨ops⟩ Q (i :: rest) a w := by
  obtain ⟨m, O, h1, h2, h3, h4, h5, h6⟩ := h
  have hlt := h1.lt
  obtain ⟨b, β, hrel⟩ := h1.rel
  obtain ⟨ρ, hrw⟩ := hrel.rows
  have hvs : ∀ (i : Nat) (x : Nat × Value) (u : Nat × V), (parts.toList.map fun p => (p.1, a.eval p.2))[i]? = some x → us[i]? = some u → Rs m w β x.2 u.2 := by
    intro i x u hx hu'
    rw [← hus] at hu'
    simp only [List.getElem?_map, Option.map_eq_some_iff] at hx hu'
    obtain ⟨p, hp, rfl⟩ := hx
    obtain ⟨q, hq, rfl⟩ := hu'
    rw [hp] at hq; cases hq
    exact (ev_sound hrel _).bare
  have hpa : (parts.map fun (i, x) => (i, a.eval x)) = (parts.toList.map fun p => (p.1, a.eval p.2)).toArray := by apply Array.toList_inj.1; simp
  obtain ⟨cs', hrun, hrd, hlen⟩ := row_run (m := m) (w := w) (β := β) (P := E.P) (vs := parts.toList.map fun p => (p.1, a.eval p.2)) (parts := us) (by rw [← hus]; simp) hvs ht hsz hz hr hmax hp
  have hrun' : (execOp a.eval o).run E.P w = .ok (.value (.slice (some ⟨w.heap.size, 0, none⟩) len len)) (w.alloc (.cells cs' el)) := by
    simp only [execOp, hop, Sem.run_bind]
    rw [hpa, hrun]
    simp
  have hul : us.length = len := by have := congrArg List.length hr; simpa using this
  have hp' : ∀ p ∈ us, p.2.dat = true ∧ p.2.cells.length = k := fun p hpm => by
    have := List.all_eq_true.1 hp p hpm
    simpa using this
  rw [wpOpsIn_cons]
  unfold wpOpIn
  have hi' : (⟨ops⟩ : Array Oper)[i]? = some o := by simpa using hi
  rw [hi']
  simp only
  rw [if_pos (by unfold Region.wanted; rw [hg])]
  refine ⟨fun _ _ => trivial, ?_⟩
  rw [Oper.semAt_eq _ _ _ (by rw [hop]; intro c e; cases e), hrun']
  show wpOpsIn (fen r) 0 E.P ⟨ops⟩ Q rest (a.put o.dst _) _
  rw [hd]
  have hb : Below w.heap.size w (w.alloc (.cells cs' el)) := (Below.refl _ w).alloc (Nat.le_refl _) _
  have hm : ∀ blk, blk < w.heap.size → (upd m w.heap.size (some (len * k))) blk = m blk := fun blk hb => upd_ne _ _ (Nat.ne_of_lt hb)
  have hc := hrel.call hb hm
  have hnew : (w.alloc (.cells cs' el)).heap[w.heap.size]? = some (.cells cs' el (0, 0)) := World.heap_new w _
  have hbox : ∀ s cs, st.b s = some cs → β s < w.heap.size := fun s cs hs => by
    obtain ⟨⟨_, _, _, _, _, hh, _⟩, _⟩ := hrel.boxes s cs hs
    exact heap_lt hh
  have hB : ∀ v sz es s, Bear E (w.alloc (.cells cs' el)) β st (fun i => a.tmps.getD i Go.undef) v (.sl false sz es (some s)) → Bear E w β st (fun i => a.tmps.getD i Go.undef) v (.sl false sz es (some s)) := fun v sz es s hi =>
    hi.from (fun i hi => .inl ⟨i, hi, rfl⟩) (fun k cs j h1 h2 h3 h4 => by
      rw [cell_block (hb.block _ (hbox k cs h2))] at h4
      exact .inr ⟨k, cs, j, h1, h2, h3, h4⟩)
  have hrl : ∀ v sz es s, Bear E w β st (fun i => a.tmps.getD i Go.undef) v (.sl false sz es (some s)) → ρ s < w.heap.size := fun v sz es s hi => by
    obtain ⟨_, _, _, _, _, _, hh, _⟩ := hrw.row _ _ _ _ hi
    exact heap_lt hh
  have hrw' := hrw.to (m' := upd m w.heap.size (some (len * k))) hB (fun v sz es s hi => ⟨hb.block _ (hrl _ _ _ _ hi), hm _ (hrl _ _ _ _ hi)⟩) (fun v sz es s k cs hi hk => hrw.box _ _ _ _ _ _ hi hk)
  have hfl : Flat m w cs'.toList k (us.map (·.2)) := flat_of_rdl _ _ (fun e he => by
    obtain ⟨p, hpm, rfl⟩ := List.mem_map.1 he
    exact (hp' p hpm).2) (by rw [List.flatMap_map]; exact hrd)
  have hv : Rd (upd m w.heap.size (some (len * k))) (w.alloc (.cells cs' el)) (.slice (some ⟨w.heap.size, 0, none⟩) len len) (.sl false k (us.map (·.2)) (some 0)) := by
    have := Rd.of_flat (hfl.mono (Ext.fresh0 m w (.cells cs' el) (some (len * k)))) hnew (fun j x hj => by simpa using hj) (cap := len) (by rw [List.length_map, hul]; exact Nat.le_refl _) (fun fr hf => by rw [upd_same] at hf; cases hf; rw [List.length_map, hul]; exact Nat.le_refl _) (some 0)
    rwa [List.length_map, hul] at this
  have hcs : cs'.size = len * k := by
    have h1 := hrd.length
    rw [hlen] at h1
    simpa using h1
  have hfin : ∃ m' β', Rel E n ⟨lst O w.heap.size, b, lst O w.heap.size, B.D⟩ m w m' β' (resP E st (some d) (.sl false k (us.map (·.2)) (some 0))) (a.put (some d) (.slice (some ⟨w.heap.size, 0, none⟩) len len)) (w.alloc (.cells cs' el)) := by
    refine EnvX.res (K := fun a' w' => ∃ m' β', Rel E n ⟨lst O w.heap.size, b, lst O w.heap.size, B.D⟩ m w m' β' (resP E st (some d) (.sl false k (us.map (·.2)) (some 0))) a' w') (hE.x (pm := ⟨lst O w.heap.size, b, lst O w.heap.size, B.D⟩)) (d := some d) (fun j e => by cases e; exact hdn) hv hc hrw' (fun sz es j e => ?_) (fun a' w' m' β' h' => ⟨m', β', h'⟩)
    cases e
    refine ⟨w.heap.size, ⟨by rw [List.length_map, hul]; exact upd_same _ _ _, len, cs', el, by rw [List.length_map, hul], hnew, by rw [List.length_map, hul]; exact Nat.le_refl _, hcs⟩, .inl (Nat.le_refl _), fun v sz es s hi e => ?_, fun s cs hs e => ?_⟩
    · have := hrl _ _ _ _ (hB _ _ _ _ hi); omega
    · have := hbox s cs hs; omega
  obtain ⟨m2, β2, hr2⟩ := hfin
  obtain ⟨hn, hst⟩ := Now.of_rel hE hlt hr2
  exact hK _ _ (One.grown h2 h3 h4 h5 (h6.put (fun j e => by cases e; exact hW)) hn hst)
theorem one_Rs {E : Env} {n : Nat} {B : Bs} {w : World} {st : St} {a : Act} {r : Option Nat} (hE : EnvOK E) (hm : E.P.follows .mixedOrders = true) {c : Code} (ts : List (Nat × V)) (bs : List (Nat × List V)) (hok : okCode E.any n c = true) (h : One E n B st a w) (hr : run E c st (endR ts bs)) {Q : Exit → Act → World → Prop}
    (hQ : ∀ a' w', One E n B (stOf ts bs) a' w' → Q .ret a' w') (hW : B.W = fun _ => true := by rfl) : c.wpIn (fen r) 0 E.P Q a w := by
  refine wpIn_mono (run_one hE hm hok (by rw [hW]; exact wrC_all c) h hr) ?_
  rintro e a' w' ⟨o, st', ho, hK, ht⟩
  cases o with
  | normal => exact hK.elim
  | exit id => exact hK.elim
  | ret =>
    cases e <;> simp only [outE, Option.some.injEq, reduceCtorEq] at ho
    exact hQ _ _ (ht.le (le_stOf hK.1 hK.2))
def encRI (p : RW × Int) : List V := [rwV p.1, .x (.int .i64 p.2)]
theorem encRI_inj (p q : RW × Int) (e : encRI p = encRI q) : p = q := by
  obtain ⟨a, b⟩ := p
  obtain ⟨a', b'⟩ := q
  simp only [encRI, List.cons.injEq, V.x.injEq, Value.int.injEq, true_and, and_true] at e
  obtain ⟨h1, h2⟩ := e
  rw [rwV_inj _ _ h1, h2]
open Classical in
noncomputable def GChoose10 (p : RW × Int) : Option V := if ((p.1.2.2 ≠ [] → p.1.2.1 = 3) ∧ ∀ v ∈ p.1.2.2, inR v.2.1) ∧ inR p.2 then some (.x (.bool true)) else none
def okT (v : T3) : Prop := rightB v.1 v.2.1 v.2.2 = true ∧ v.1 ≠ 4
theorem rowsOf_snoc (c : List T3) (v : T3) : (rowsOf (c ++ [v])).map rwV = (rowsOf c).map rwV ++ [.sl false 3 [tv v] none] := by
  unfold rowsOf
  rw [List.map_append, List.map_append]
  rfl
theorem call_choose {l : List T3} {n : Int} (hl : l ≠ []) (hr : ∀ v ∈ l, okT v) : callW ⟨#[67, 72, 79, 79, 83, 69]⟩ (rowsOf ((1, n, ⟨#[]⟩) :: l)) = if n < 1 ∨ (l.length : Int) < n then (4, 7, ⟨#[]⟩) else l.getD (n - 1).toNat (0, 0, ⟨#[]⟩) := by
  have hcall : callW ⟨#[67, 72, 79, 79, 83, 69]⟩ (rowsOf ((1, n, ⟨#[]⟩) :: l)) = if oneL (rowsOf ((1, n, ⟨#[]⟩) :: l)) ((rowsOf ((1, n, ⟨#[]⟩) :: l)).length : Int) = true then chooseW (allL (rowsOf ((1, n, ⟨#[]⟩) :: l))) else (4, 6, ⟨#[]⟩) := rfl
  have hlen : (rowsOf ((1, n, ⟨#[]⟩) :: l)).length = ((1, n, ⟨#[]⟩) :: l : List T3).length := by unfold rowsOf; rw [List.length_map]
  rw [hcall, hlen, if_pos (rowsOf_one _), rowsOf_all]
  cases l with
  | nil => exact absurd rfl hl
  | cons v1 rest =>
    show (match faultL [(1, n, ⟨#[]⟩)] with
      | some e => e
      | none => match numE 1 n ⟨#[]⟩ with
        | some w => w
        | none => if n < 1 ∨ ((rest.length + 2 : Nat) : Int) ≤ n then (4, 7, ⟨#[]⟩) else plainT ((((1, n, ⟨#[]⟩) : T3) :: v1 :: rest).getD n.toNat (0, 0, ⟨#[]⟩))) = _
    rw [(fault_num n 0).1, numE_num]
    simp only
    by_cases h : n < 1 ∨ ((rest.length + 2 : Nat) : Int) ≤ n
    · rw [if_pos h, if_pos (by rw [List.length_cons]; omega)]
    · rw [if_neg h, if_neg (by rw [List.length_cons]; omega)]
      have e : n.toNat = (n - 1).toNat + 1 := by omega
      have hlt : (n - 1).toNat < (v1 :: rest).length := by rw [List.length_cons]; omega
      rw [e, List.getD_cons_succ, List.getD_eq_getElem?_getD, List.getElem?_eq_getElem hlt, Option.getD_some]
      exact plain_right (hr _ (List.getElem_mem hlt)).1
theorem mL_found {v : T3} (hv : rightB v.1 v.2.1 v.2.2 = true) : ∀ (l : List T3) (j i : Nat), (∀ x ∈ l, okT x) → l[i]? = some v → ∃ p, p ≤ i ∧ mL v j l = (1, ((j + p + 1 : Nat) : Int), ⟨#[]⟩) ∧ l[p]? = some v
  | [], j, i, _, h => by cases h
  | x :: l, j, i, hr, h => by
    have hx := (hr x (List.mem_cons_self ..)).1
    by_cases e : x = v
    · subst e
      refine ⟨0, Nat.zero_le _, ?_, rfl⟩
      unfold mL
      rw [if_pos ⟨hv, (cmpV_eq hv hv).2 ⟨rfl, rfl, rfl⟩⟩]
    · cases i with
      | zero => exact absurd (Option.some.inj h) e
      | succ i =>
        obtain ⟨p, h1, h2, h3⟩ := mL_found hv l (j + 1) i (fun y hy => hr y (List.mem_cons_of_mem _ hy)) h
        refine ⟨p + 1, by omega, ?_, h3⟩
        unfold mL
        rw [if_neg (fun hc => e (by
          obtain ⟨a1, a2, a3⟩ := (cmpV_eq hx hv).1 hc.2
          obtain ⟨xa, xb, xc⟩ := x
          obtain ⟨va, vb, vc⟩ := v
          simp only at a1 a2 a3
          rw [a1, a2, a3])), h2]
        congr 2
        omega
theorem call_match {v : T3} {nl : Bool} {sz : Nat} {l : List T3} (hv : okT v) : callW ⟨#[77, 65, 84, 67, 72]⟩ [(false, 3, [v]), (nl, sz, l)] = mL v 0 l := by
  show (match faultL [v] with
    | some e => e
    | none => mL v 0 l) = _
  have : faultL [v] = none := by
    unfold faultL
    rw [if_neg (by rw [hv.1]; decide), if_neg hv.2]
    rfl
  rw [this]
set_option maxHeartbeats 64000000 in
set_option maxRecDepth 100000 in
theorem choose10_fun : FunV 8 (FE encRI GChoose10) := by
  have hE : EnvOK (envOf [(9, FAlive10), (10, (FE encAw GFew)), (11, (FE encNA GCall)), (12, FRight)]) := envOK_of _ ⟨alive10_fun, few10_fun, gcall_fun, rright_fun, trivial⟩
  have hm : (envOf [(9, FAlive10), (10, (FE encAw GFew)), (11, (FE encNA GCall)), (12, FRight)]).P.follows .mixedOrders = true := by kernel_rfl
  refine fun_of_one (E := envOf [(9, FAlive10), (10, (FE encAw GFew)), (11, (FE encNA GCall)), (12, FRight)]) (n := 121) (k := 2) hE Tryd.func8 rfl (fun a w => Tryd.call8 a w) Tryd.ntmps8 (by decide) (by decide) ?_
  intro us r m w a hF hdat h1
  obtain ⟨⟨⟨nl, sz, l⟩, n⟩, hus, hG⟩ := FE_out hF
  clear hF hdat
  subst hus
  unfold GChoose10 at hG
  split at hG
  case isFalse => cases hG
  rename_i hok
  cases hG
  obtain ⟨⟨hsz, hin⟩, hn⟩ := hok
  simp only at hsz hin hn
  replace h1 := h1 rfl
  refine ⟨rfl, ?_⟩
  simp only [encRI, rwV] at h1
  have e1 : FAlive10 [] = some (.x (.bool true)) := rfl
  have fin : ∀ a' w', One (envOf [(9, FAlive10), (10, (FE encAw GFew)), (11, (FE encNA GCall)), (12, FRight)]) 121 ⟨[], Kno.top, fun _ => true, #[], fun _ => False, m, w⟩ (stOf [(4, .x (.bool true))] []) a' w' → ((Exit.ret = .normal ∨ Exit.ret = .ret) ∧ ∃ D' Kn W' t' st', One (envOf [(9, FAlive10), (10, (FE encAw GFew)), (11, (FE encNA GCall)), (12, FRight)]) 121 ⟨D', Kn, W', t', fun _ => False, m, w⟩ st' a' w' ∧ resV (envOf [(9, FAlive10), (10, (FE encAw GFew)), (11, (FE encNA GCall)), (12, FRight)]) st' Tryd.f8.results.toList = some (.x (.bool true))) := fun a' w' h2 => ⟨.inr rfl, _, _, _, _, _, h2, by simp (decide := true) (maxDischargeDepth := 200) only [go_sem, Nat.reduceBEq, Tryd.results8]⟩
  by_cases g1 : (l.length : Int) < 1
  · have d1 := decide_eq_true g1
    exact one_Rs hE hm [(4, .x (.bool true))] [] (by kernel_rfl) h1 (by simp (decide := true) (maxDischargeDepth := 200) only [go_sem, Nat.reduceBEq, e1, List.length_map, d1] <;> (repeat' first | rfl | constructor)) fin
  have d1 := decide_eq_false g1
  by_cases g2 : (18 : Int) < (l.length : Int)
  · have d2 := decide_eq_true g2
    exact one_Rs hE hm [(4, .x (.bool true))] [] (by kernel_rfl) h1 (by simp (decide := true) (maxDischargeDepth := 200) only [go_sem, Nat.reduceBEq, e1, List.length_map, d1, d2] <;> (repeat' first | rfl | constructor)) fin
  have d2 := decide_eq_false g2
  by_cases g3 : n < -5
  · have d3 := decide_eq_true g3
    exact one_Rs hE hm [(4, .x (.bool true))] [] (by kernel_rfl) h1 (by simp (decide := true) (maxDischargeDepth := 200) only [go_sem, Nat.reduceBEq, e1, List.length_map, d1, d2, d3] <;> (repeat' first | rfl | constructor)) fin
  have d3 := decide_eq_false g3
  by_cases g4 : (30 : Int) < n
  · have d4 := decide_eq_true g4
    exact one_Rs hE hm [(4, .x (.bool true))] [] (by kernel_rfl) h1 (by simp (decide := true) (maxDischargeDepth := 200) only [go_sem, Nat.reduceBEq, e1, List.length_map, d1, d2, d3, d4] <;> (repeat' first | rfl | constructor)) fin
  have d4 := decide_eq_false g4
  have hfw : okFew (false, 1, [(nl, sz, l)]) := ⟨fun _ => rfl, fun r hr => by rw [List.mem_singleton.1 hr]; exact ⟨hsz, hin, by simp only; omega⟩⟩
  have hfew : FE encAw GFew [.sl false 1 [.sl nl sz (l.map tv) none] none] = some (.x (.bool (fewB [(nl, sz, l)]))) := GFew_of hfw
  cases hf : fewB [(nl, sz, l)] with
  | false =>
    rw [hf] at hfew
    exact one_Rs hE hm [(4, .x (.bool true))] [] (by kernel_rfl) h1 (by simp (decide := true) (maxDischargeDepth := 200) only [go_sem, Nat.reduceBEq, e1, List.length_map, d1, d2, d3, d4, hfew] <;> (repeat' first | rfl | constructor)) fin
  | true =>
  rw [hf] at hfew
  refine wpIn_seq (one_T hE hm [(0, .sl nl sz (l.map tv) none), (1, .x (.int .i64 n))] [] (by kernel_rfl) h1 (by simp (decide := true) (maxDischargeDepth := 200) only [go_sem, Nat.reduceBEq] <;> (repeat' first | rfl | constructor)) ?_)
  clear h1 a
  intro a w1 h1
  refine wpIn_seq (one_T hE hm [(0, .sl nl sz (l.map tv) none), (1, .x (.int .i64 n)), (5, .x (.bool true))] [] (by kernel_rfl) h1 (by simp (decide := true) (maxDischargeDepth := 200) only [go_sem, Nat.reduceBEq, e1] <;> (repeat' first | rfl | constructor)) ?_)
  clear h1 a w1
  intro a w1 h1
  refine wpIn_seq (one_T hE hm [(0, .sl nl sz (l.map tv) none), (1, .x (.int .i64 n))] [] (by kernel_rfl) h1 (by simp (decide := true) (maxDischargeDepth := 200) only [go_sem, Nat.reduceBEq, List.length_map, d1, d2, d3, d4, hfew] <;> (repeat' first | rfl | constructor)) ?_)
  clear h1 a w1
  intro a w1 h1
  refine wpIn_seq (wpIn_region ?_)
  refine one_S hE 0 3 [(0, .sl nl sz (l.map tv) none), (1, .x (.int .i64 n)), (40, .sl false 3 [vl 1 n ⟨#[]⟩] none)] [] [3, 4] (by decide) (by kernel_rfl) h1 (by simp (decide := true) (maxDischargeDepth := 200) only [go_sem, Nat.reduceBEq, vl] <;> (repeat' first | rfl | constructor)) ?_
  clear h1 a w1
  intro a w1 h1
  refine one_lit (i := 3) (rest := [4]) (d := 41) (t := 27) (el := 22) (len := 1) (k := 1) hE [(0, .sl false 3 [vl 1 n ⟨#[]⟩] none)] rfl rfl rfl rfl (by decide) (by kernel_rfl) sz22 ze22 (by simp (decide := true) (maxDischargeDepth := 200) only [go_sem, Nat.reduceBEq, vl, stOf, tOf] <;> (repeat' first | rfl | constructor)) rfl (by decide) (by rfl) h1 ?_
  clear h1 a w1
  intro a w1 h1
  replace h1 := h1.le (st' := stOf [(0, .sl nl sz (l.map tv) none), (1, .x (.int .i64 n)), (41, .sl false 1 [.sl false 3 [vl 1 n ⟨#[]⟩] none] (some 41))] []) (le_stOf (by simp (decide := true) (maxDischargeDepth := 200) only [go_sem, Nat.reduceBEq, vl] <;> (repeat' first | rfl | constructor)) (by simp (decide := true) (maxDischargeDepth := 200) only [go_sem, Nat.reduceBEq, vl] <;> (repeat' first | rfl | constructor)))
  refine one_S hE 4 1 [(0, .sl nl sz (l.map tv) none), (1, .x (.int .i64 n)), (6, .sl false 1 [.sl false 3 [vl 1 n ⟨#[]⟩] none] (some 41))] [] [] (by decide) (by kernel_rfl) h1 (by simp (decide := true) (maxDischargeDepth := 200) only [go_sem, Nat.reduceBEq, vl] <;> (repeat' first | rfl | constructor)) ?_
  clear h1 a w1
  intro a w1 h1
  refine one_Rs hE hm [(4, .x (.bool true))] [] (by kernel_rfl) h1 ?_ fin
  clear h1 a w1 fin
  simp (decide := true) (maxDischargeDepth := 200) only [go_sem, Nat.reduceBEq]
  refine loop_of (X := {p : Nat × Bool // p.1 ≤ l.length ∧ ∀ v ∈ l.take p.1, okT v}) (fun p => [(0, .sl nl sz (l.map tv) none), (1, .x (.int .i64 n)), (6, .sl false 1 ((rowsOf ((1, n, ⟨#[]⟩) :: l.take p.1.1)).map rwV) (some (if p.1.2 = true then 41 else 69))), (7, .x (.int .i64 ((p.1.1 : Nat) : Int)))]) (fun _ => []) (fun p => l.length - p.1.1) ⟨(0, true), Nat.zero_le _, (fun v hv => by cases hv)⟩ (by simp (decide := true) (maxDischargeDepth := 200) only [go_sem, Nat.reduceBEq, List.take_zero, rowsOf, rwV, tv, vl, Int.natCast_zero] <;> (repeat' first | rfl | constructor)) (by simp (decide := true) (maxDischargeDepth := 200) only [go_sem, Nat.reduceBEq] <;> (repeat' first | rfl | constructor)) (fun ⟨(i, tk), hi0, hall⟩ => ?_)
  simp only at hi0 hall ⊢
  by_cases hi : i < l.length
  · have c1 : decide ((i : Int) < (l.length : Int)) = true := decide_eq_true (by omega)
    have c2 : (0 : Int) ≤ (i : Int) := by omega
    have c4 := count_up (i := i) (by omega)
    obtain ⟨vk, vn, vs, q1, q2, q3, _⟩ := tv_at hi
    obtain rfl := hsz (List.ne_nil_of_mem q3)
    simp only [vl] at q2
    have er : FRight [.agg [.x (.int .i64 vk), .x (.int .i64 vn), .x (.string vs)]] = some (.x (.bool (rightB vk vn vs))) := rfl
    cases hrt : rightB vk vn vs with
    | false =>
      rw [hrt] at er
      cases tk with
      | true => simp (decide := true) (maxDischargeDepth := 200) only [go_sem, Nat.reduceBEq, List.length_map, c1, c2, q2, er, if_true, if_false] <;> (repeat' first | rfl | constructor)
      | false => simp (decide := true) (maxDischargeDepth := 200) only [go_sem, Nat.reduceBEq, List.length_map, c1, c2, q2, er, if_true, if_false] <;> (repeat' first | rfl | constructor)
    | true =>
      rw [hrt] at er
      by_cases h4 : vk = 4
      · have d5 := decide_eq_true h4
        cases tk with
        | true => simp (decide := true) (maxDischargeDepth := 200) only [go_sem, Nat.reduceBEq, List.length_map, c1, c2, q2, er, d5, if_true, if_false] <;> (repeat' first | rfl | constructor)
        | false => simp (decide := true) (maxDischargeDepth := 200) only [go_sem, Nat.reduceBEq, List.length_map, c1, c2, q2, er, d5, if_true, if_false] <;> (repeat' first | rfl | constructor)
      · have d5 := decide_eq_false h4
        have e : (rowsOf ((1, n, ⟨#[]⟩) :: l.take (i + 1))).map rwV = (rowsOf ((1, n, ⟨#[]⟩) :: l.take i)).map rwV ++ [.sl false 3 [tv (vk, vn, vs)] none] := by rw [take_snoc3 q1, ← rowsOf_snoc]; rfl
        have hle : ((rowsOf ((1, n, ⟨#[]⟩) :: l.take i)).map rwV).length ≤ 19 := by unfold rowsOf; rw [List.length_map, List.length_map, List.length_cons, List.length_take]; omega
        have m1 : ((rowsOf ((1, n, ⟨#[]⟩) :: l.take i)).map rwV).isEmpty = false := rfl
        generalize (rowsOf ((1, n, ⟨#[]⟩) :: l.take i)).map rwV = al at e hle m1 ⊢
        have gg := growV_row (E := (envOf [(9, FAlive10), (10, (FE encAw GFew)), (11, (FE encNA GCall)), (12, FRight)])) (el := 22) (n := 1) sz22 by22 ze22 (by decide) rfl (es := al) (es' := [.sl false 3 [vl vk vn vs] none]) (m := 1) (fun _ => rfl) rfl (by simp only [List.length_cons, List.length_nil]; omega) (by simp only [List.length_cons, List.length_nil]; omega)
        have m2 : (al ++ [V.sl false 3 [vl vk vn vs] none]).isEmpty = false := by simp
        simp only [m1, m2] at gg
        simp only [vl, tv] at gg e
        have hall' : ∀ v ∈ l.take (i + 1), okT v := fun v hv => by
          rw [take_snoc3 q1] at hv
          rcases List.mem_append.1 hv with h | h
          · exact hall v h
          · rw [List.mem_singleton.1 h]; exact ⟨hrt, h4⟩
        cases tk with
        | true =>
          simp (decide := true) (maxDischargeDepth := 200) only [go_sem, Nat.reduceBEq, List.length_map, c1, c2, c4, q2, er, d5, gg, if_true, if_false]
          refine ⟨⟨(i + 1, false), hi, hall'⟩, ?_, ?_, ?_⟩
          · simp (decide := true) (maxDischargeDepth := 200) only [go_sem, Nat.reduceBEq, e, if_true, if_false] <;> (repeat' first | rfl | constructor)
          · simp (decide := true) (maxDischargeDepth := 200) only [go_sem, Nat.reduceBEq, e, if_true, if_false] <;> (repeat' first | rfl | constructor)
          · simp only; omega
        | false =>
          simp (decide := true) (maxDischargeDepth := 200) only [go_sem, Nat.reduceBEq, List.length_map, c1, c2, c4, q2, er, d5, gg, if_true, if_false]
          refine ⟨⟨(i + 1, false), hi, hall'⟩, ?_, ?_, ?_⟩
          · simp (decide := true) (maxDischargeDepth := 200) only [go_sem, Nat.reduceBEq, e, if_true, if_false] <;> (repeat' first | rfl | constructor)
          · simp (decide := true) (maxDischargeDepth := 200) only [go_sem, Nat.reduceBEq, e, if_true, if_false] <;> (repeat' first | rfl | constructor)
          · simp only; omega
  · obtain rfl : i = l.length := by omega
    rw [List.take_length] at hall
    have c1 : decide ((l.length : Int) < (l.length : Int)) = false := decide_eq_false (by omega)
    have hl : l ≠ [] := fun e => by subst e; exact g1 (by decide)
    obtain rfl := hsz hl
    have hokc : okAw (false, 1, rowsOf ((1, n, ⟨#[]⟩) :: l)) := rowsOf_ok (fun v hv => by
      rcases List.mem_cons.1 hv with rfl | hv
      · exact hn
      · exact hin v hv) (by rw [List.length_cons]; omega)
    have cc : FE encNA GCall [.x (.string ⟨#[67, 72, 79, 79, 83, 69]⟩), .sl false 1 ((rowsOf ((1, n, ⟨#[]⟩) :: l)).map rwV) none] = some (tv (if n < 1 ∨ (l.length : Int) < n then (4, 7, ⟨#[]⟩) else l.getD (n - 1).toNat (0, 0, ⟨#[]⟩))) := (GCall_of hokc).trans (by rw [call_choose hl hall])
    by_cases k1 : n < 1
    · have dk1 := decide_eq_true k1
      rw [if_pos (.inl k1)] at cc
      cases tk with
      | true => simp (decide := true) (maxDischargeDepth := 200) only [go_sem, Nat.reduceBEq, List.take_length, List.length_map, c1, cc, dk1, tv, vl] <;> (repeat' first | rfl | constructor)
      | false => simp (decide := true) (maxDischargeDepth := 200) only [go_sem, Nat.reduceBEq, List.take_length, List.length_map, c1, cc, dk1, tv, vl] <;> (repeat' first | rfl | constructor)
    have dk1 := decide_eq_false k1
    by_cases k2 : (l.length : Int) < n
    · have dk2 := decide_eq_true k2
      rw [if_pos (.inr k2)] at cc
      cases tk with
      | true => simp (decide := true) (maxDischargeDepth := 200) only [go_sem, Nat.reduceBEq, List.take_length, List.length_map, c1, cc, dk1, dk2, tv, vl] <;> (repeat' first | rfl | constructor)
      | false => simp (decide := true) (maxDischargeDepth := 200) only [go_sem, Nat.reduceBEq, List.take_length, List.length_map, c1, cc, dk1, dk2, tv, vl] <;> (repeat' first | rfl | constructor)
    have dk2 := decide_eq_false k2
    obtain ⟨j, rfl⟩ : ∃ j : Nat, n = ((j + 1 : Nat) : Int) := ⟨(n - 1).toNat, by omega⟩
    have hj : j < l.length := by omega
    obtain ⟨vk, vn, vs, q1, q2, q3, _⟩ := tv_at hj
    have hjv : l.getD ((((j + 1 : Nat) : Int) - 1)).toNat (0, 0, ⟨#[]⟩) = (vk, vn, vs) := by
      have : (((j + 1 : Nat) : Int) - 1).toNat = j := by omega
      rw [this, List.getD_eq_getElem?_getD, q1]
      rfl
    rw [if_neg (by omega), hjv] at cc
    have hv := hall _ q3
    obtain ⟨p, hp, hmL, hlp⟩ := mL_found hv.1 l 0 j hall q1
    rw [Nat.zero_add] at hmL
    have hokm : okAw (false, 1, [(false, 3, [(vk, vn, vs)]), (nl, 3, l)]) := by
      refine ⟨fun _ => rfl, fun r hr => ?_, ?_, by simp⟩
      · simp only [List.mem_cons, List.not_mem_nil, or_false] at hr
        rcases hr with rfl | rfl
        · exact ⟨fun _ => rfl, fun v hv => by rw [List.mem_singleton.1 hv]; exact hin _ q3, by simp⟩
        · exact ⟨fun _ => rfl, hin, by simp only; omega⟩
      · simp only [allL, List.flatMap_cons, List.flatMap_nil, List.append_nil, List.length_append, List.length_cons, List.length_nil]; omega
    have cm : FE encNA GCall [.x (.string ⟨#[77, 65, 84, 67, 72]⟩), .sl false 1 [.sl false 3 [vl vk vn vs] none, .sl nl 3 (l.map tv) none] none] = some (tv (1, ((p + 1 : Nat) : Int), ⟨#[]⟩)) := (GCall_of hokm).trans (by rw [call_match hv, hmL])
    have hpl : p < l.length := by omega
    obtain ⟨pk, pn, ps, r1, r2, r3, _⟩ := tv_at hpl
    rw [hlp] at r1
    cases r1
    simp only [vl, tv] at q2 r2 cc cm
    have w2 : bWrap .i64 (((j + 1 : Nat) : Int) - 1) = (j : Int) := by rw [bwrap_of (by unfold inR; omega)]; omega
    have w3 : bWrap .i64 (((p + 1 : Nat) : Int) - 1) = (p : Int) := by rw [bwrap_of (by unfold inR; omega)]; omega
    have f1 : (0 : Int) ≤ (j : Int) := by omega
    have f2 : (0 : Int) ≤ (p : Int) := by omega
    have f3 : decide ((1 : Int) ≤ ((p + 1 : Nat) : Int)) = true := decide_eq_true (by omega)
    have f4 : decide (((p + 1 : Nat) : Int) ≤ ((j + 1 : Nat) : Int)) = true := decide_eq_true (by omega)
    have f5 : (j : Int) < (l.length : Int) := by omega
    have f6 : (p : Int) < (l.length : Int) := by omega
    cases tk with
    | true => simp (decide := true) (maxDischargeDepth := 200) only [go_sem, Nat.reduceBEq, List.take_length, List.length_map, c1, cc, cm, dk1, dk2, q2, r2, w2, w3, f1, f2, f3, f4, f5, f6] <;> (repeat' first | rfl | constructor)
    | false => simp (decide := true) (maxDischargeDepth := 200) only [go_sem, Nat.reduceBEq, List.take_length, List.length_map, c1, cc, cm, dk1, dk2, q2, r2, w2, w3, f1, f2, f3, f4, f5, f6] <;> (repeat' first | rfl | constructor)
end Go.Proofs.YtakcoalbidjahaaDoor

/- Chapter 10, the reference's small functions: rows of values. -/
import Derived.Test.YtfngpfnbhafmlaaGreatDoorMQ
import Derived.Test.YtfngpfnbhafmlaaGreatDoorMPO
namespace Go.Proofs.YtfngpfnbhafmlaaGreatDoor
open Go Go.RowKit
set_option linter.unusedSimpArgs false
abbrev RW := Bool × Nat × List T3
def rwV (p : RW) : V := .sl p.1 p.2.1 (p.2.2.map tv) none
def okRw (p : RW) : Prop := (p.2.2 ≠ [] → p.2.1 = 3) ∧ (∀ v ∈ p.2.2, inR v.2.1) ∧ p.2.2.length ≤ 1000000
theorem tv_inj {a b : T3} (e : tv a = tv b) : a = b := by
 obtain ⟨k, n, s⟩ := a
 obtain ⟨k', n', s'⟩ := b
 simp only [tv, vl, V.agg.injEq, List.cons.injEq, V.x.injEq, Value.int.injEq, Value.string.injEq, true_and, and_true] at e
 obtain ⟨rfl, rfl, rfl⟩ := e
 rfl
theorem map_inj' {α β : Type} {f : α → β} (hf : ∀ a b, f a = f b → a = b) : ∀ {l l' : List α}, l.map f = l'.map f → l = l'
 | [], [], _ => rfl
 | [], _ :: _, e => by cases e
 | _ :: _, [], e => by cases e
 | a :: l, b :: l', e => by
   rw [List.map_cons, List.map_cons, List.cons.injEq] at e
   rw [hf _ _ e.1, map_inj' hf e.2]
theorem rwV_inj (p q : RW) (e : rwV p = rwV q) : p = q := by
 obtain ⟨a, b, c⟩ := p
 obtain ⟨a', b', c'⟩ := q
 simp only [rwV, V.sl.injEq, and_true] at e
 obtain ⟨rfl, rfl, h⟩ := e
 rw [map_inj' (fun _ _ h => tv_inj h) h]
def encR (p : RW) : List V := [rwV p]
theorem encR_inj (p q : RW) (e : encR p = encR q) : p = q := rwV_inj _ _ (List.cons.inj e).1
theorem tv_at {l : List T3} {i : Nat} (h : i < l.length) : ∃ k n s, l[i]? = some (k, n, s) ∧ (l.map tv)[((i : Nat) : Int).toNat]? = some (vl k n s) ∧ (k, n, s) ∈ l ∧ l.drop i = (k, n, s) :: l.drop (i + 1) := by
 refine ⟨l[i].1, l[i].2.1, l[i].2.2, List.getElem?_eq_getElem h, ?_, List.getElem_mem h, List.drop_eq_getElem_cons h⟩
 rw [Int.toNat_natCast, List.getElem?_map, List.getElem?_eq_getElem h]
 rfl
def faultL : List T3 → Option T3
 | [] => none
 | v :: l => if rightB v.1 v.2.1 v.2.2 = false then some (4, 3, ⟨#[]⟩) else if v.1 = 4 then some v else faultL l
def faultV (l : List T3) : V := .tup [tv ((faultL l).getD (0, 0, ⟨#[]⟩)), .x (.bool (faultL l).isSome)]
open Classical in
noncomputable def GFaultL (p : RW) : Option V := if okRw p then some (faultV p.2.2) else none
open Classical in
theorem GFaultL_of {nl : Bool} {sz : Nat} {l : List T3} (h : okRw (nl, sz, l)) : FE encR GFaultL [.sl nl sz (l.map tv) none] = some (faultV l) := (FE_at encR_inj _ (nl, sz, l)).trans (if_pos h)
def FTruthV : List V → Option V
 | [.agg [.x (.int .i64 k), .x (.int .i64 n), .x (.string _)]] => some (.tup [.x (.bool (decide (k = 3 ∨ k = 0) && decide (n = 1))), .x (.bool (decide (k = 3 ∨ k = 0)))])
 | _ => none
def plainW (k n : Int) (s : ByteArray) : T3 := if rightB k n s = true then (k, n, s) else (4, 3, ⟨#[]⟩)
def FPlain : List V → Option V
 | [.agg [.x (.int .i64 k), .x (.int .i64 n), .x (.string s)]] => some (tv (plainW k n s))
 | _ => none
set_option maxHeartbeats 4000000 in
set_option maxRecDepth 100000 in
theorem rfaultl_fun : FunV 74 (FE encR GFaultL) := by
 refine fun_of_run (E := envOf [(12, FRight), (20, FFault)]) (k := 1) (envOK_of _ ⟨rvalr_fun, rerr_fun, trivial⟩) (by kernel_rfl) Tryz.func74 rfl (fun a w => Tryz.call74 a w) Tryz.ntmps74 (by kernel_rfl) (by decide) (by decide) ?_
 intro us r hF hdat
 obtain ⟨⟨nl, sz, l⟩, hus, hG⟩ := FE_out hF
 clear hF
 subst hus
 unfold GFaultL at hG
 split at hG
 case isFalse => cases hG
 rename_i hok
 cases hG
 obtain ⟨hsz, hin, hlen⟩ := hok
 simp only at hsz hin hlen
 clear hdat
 simp only [encR, rwV]
 refine ⟨rfl, ?_⟩
 simp +decide (maxDischargeDepth := 200) only [go_sem, List.length_map, Tryz.results74]
 refine loop_of (X := {i : Nat // i ≤ l.length ∧ faultL (l.drop i) = faultL l}) (fun i => [(0, .sl nl sz (l.map tv) none), (2, .ptr 2 0), (4, .x (.int .i64 ((i.1 : Nat) : Int)))]) (fun _ => [(2, [.x (.int .i64 0), .x (.int .i64 0), .x (.string ⟨#[]⟩)])]) (fun i => l.length - i.1) ⟨0, by omega, rfl⟩ (by simp +decide only [go_sem] <;> (repeat' first | rfl | constructor)) (by simp +decide only [go_sem] <;> (repeat' first | rfl | constructor)) (fun ⟨i, hi0, hfl⟩ => ?_)
 by_cases hi : i < l.length
 · obtain ⟨k, n, s, h1, h2, h3, h4⟩ := tv_at hi
   obtain rfl := hsz (List.ne_nil_of_mem h3)
   have c1 : decide ((i : Int) < (l.length : Int)) = true := decide_eq_true (by omega)
   have c2 : (0 : Int) ≤ (i : Int) := by omega
   have c4 := count_up (i := i) (by omega)
   rw [h4, faultL] at hfl
   simp only at hfl
   cases hr : rightB k n s with
   | false =>
     rw [if_pos hr] at hfl
     have e : faultV l = .tup [vl 4 3 ⟨#[]⟩, .x (.bool true)] := by unfold faultV; rw [← hfl]; rfl
     rw [e]
     simp +decide (maxDischargeDepth := 200) only [go_sem, List.length_map, c1, c2, c4, h2, FRight, FFault, hr, Tryz.results74]
   | true =>
     rw [if_neg (by rw [hr]; decide)] at hfl
     by_cases hk : k = 4
     · rw [if_pos hk] at hfl
       have e : faultV l = .tup [vl k n s, .x (.bool true)] := by unfold faultV; rw [← hfl]; rfl
       rw [e]
       have d1 := decide_eq_true hk
       simp +decide (maxDischargeDepth := 200) only [go_sem, List.length_map, c1, c2, c4, h2, FRight, FFault, hr, d1, Tryz.results74]
     · rw [if_neg hk] at hfl
       have d1 := decide_eq_false hk
       simp +decide (maxDischargeDepth := 200) only [go_sem, List.length_map, c1, c2, c4, h2, FRight, FFault, hr, d1, Tryz.results74]
       refine ⟨⟨i + 1, by omega, hfl⟩, ?_, ?_, ?_⟩
       · simp +decide (maxDischargeDepth := 200) only [go_sem]
       · simp +decide (maxDischargeDepth := 200) only [go_sem]
       · simp only; omega
 · have c1 : decide ((i : Int) < (l.length : Int)) = false := decide_eq_false (by omega)
   have e : faultV l = .tup [vl 0 0 ⟨#[]⟩, .x (.bool false)] := by
    rw [List.drop_eq_nil_of_le (by omega)] at hfl
    unfold faultV
    rw [← hfl]
    rfl
   rw [e]
   simp +decide (maxDischargeDepth := 200) only [go_sem, List.length_map, c1, Tryz.results74]
set_option maxRecDepth 100000 in
theorem rtruthv_fun : FunV 118 FTruthV := by
 refine fun_of_run (E := envOf []) (k := 1) (envOK_of _ trivial) (by kernel_rfl) Tryz.func118 rfl (fun a w => Tryz.call118 a w) Tryz.ntmps118 (by kernel_rfl) (by decide) (by decide) ?_
 intro us r hF hdat
 unfold FTruthV at hF
 split at hF
 case h_2 => cases hF
 rename_i k n s
 cases hF
 refine ⟨rfl, ?_⟩
 by_cases h3 : k = 3
 · subst h3
   have e : decide ((3 : Int) = 3 ∨ (3 : Int) = 0) = true := rfl
   rw [e, Bool.true_and]
   simp +decide (maxDischargeDepth := 200) only [go_sem, Tryz.results118]
 · by_cases h0 : k = 0
   · subst h0
     have e : decide ((0 : Int) = 3 ∨ (0 : Int) = 0) = true := rfl
     rw [e, Bool.true_and]
     simp +decide (maxDischargeDepth := 200) only [go_sem, Tryz.results118]
   · have d3 := decide_eq_false h3
     have d0 := decide_eq_false h0
     have e : decide (k = 3 ∨ k = 0) = false := decide_eq_false (fun h => h.elim h3 h0)
     rw [e, Bool.false_and]
     simp +decide (maxDischargeDepth := 200) only [go_sem, d3, d0, Tryz.results118]
set_option maxRecDepth 100000 in
theorem rplain_fun : FunV 61 FPlain := by
 refine fun_of_run (E := envOf [(12, FRight), (20, FFault)]) (k := 1) (envOK_of _ ⟨rvalr_fun, rerr_fun, trivial⟩) (by kernel_rfl) Tryz.func61 rfl (fun a w => Tryz.call61 a w) Tryz.ntmps61 (by kernel_rfl) (by decide) (by decide) ?_
 intro us r hF hdat
 unfold FPlain at hF
 split at hF
 case h_2 => cases hF
 rename_i k n s
 cases hF
 refine ⟨rfl, ?_⟩
 unfold plainW
 cases hr : rightB k n s
 · simp +decide (maxDischargeDepth := 200) only [go_sem, FRight, FFault, hr, Tryz.results61]
 · simp +decide (maxDischargeDepth := 200) only [go_sem, FRight, FFault, hr, Tryz.results61]
end Go.Proofs.YtfngpfnbhafmlaaGreatDoor
namespace Go.Proofs.YtfngpfnbhafmlaaGreatDoor
open Go Go.RowKit
set_option linter.unusedSimpArgs false
theorem take_snoc3 {α : Type} {l : List α} {i : Nat} {x : α} (h : l[i]? = some x) : l.take (i + 1) = l.take i ++ [x] := by
 rw [List.take_add_one, h]; rfl
theorem inR_0 : inR 0 := by unfold inR; omega
theorem fitV_in (x : Int) : inR (fitV x).2.1 := by
 unfold fitV
 split
 · assumption
 · show inR 1
   unfold inR; omega
theorem add_in {k n : Int} {s : ByteArray} {k' n' : Int} {s' : ByteArray} (h : inR n) (h' : inR n') : inR (pairW ⟨#[43]⟩ k n s k' n' s').2.1 := by
 have i3 : inR 3 := by unfold inR; omega
 unfold pairW
 by_cases c1 : rightB k n s = false ∨ rightB k' n' s' = false
 · rw [if_pos c1]; exact i3
 · rw [if_neg c1]
   by_cases c2 : k = 4
   · rw [if_pos c2]; exact h
   · rw [if_neg c2]
     by_cases c3 : k' = 4
     · rw [if_pos c3]; exact h'
     · rw [if_neg c3, if_pos (.inl rfl)]
       by_cases c4 : k = 2 ∨ k = 3 ∨ k' = 2 ∨ k' = 3
       · rw [if_pos c4]; exact i3
       · rw [if_neg c4]
         unfold reckonW
         rw [if_pos rfl]
         exact fitV_in _
def sumStep (a : T3 × Nat) (v : T3) : T3 × Nat := if v.1 = 1 then (pairW ⟨#[43]⟩ a.1.1 a.1.2.1 a.1.2.2 v.1 v.2.1 v.2.2, a.2 + 1) else a
def sumL (l : List T3) : T3 × Nat := l.foldl sumStep ((1, 0, ⟨#[]⟩), 0)
theorem sumL_snoc (l : List T3) (v : T3) : sumL (l ++ [v]) = sumStep (sumL l) v := by simp [sumL]
theorem sumL_in {l : List T3} (h : ∀ v ∈ l, inR v.2.1) : inR (sumL l).1.2.1 ∧ (sumL l).2 ≤ l.length := by
 have key : ∀ (l : List T3) (a : T3 × Nat), (∀ v ∈ l, inR v.2.1) → inR a.1.2.1 → inR (l.foldl sumStep a).1.2.1 ∧ (l.foldl sumStep a).2 ≤ a.2 + l.length := by
  intro l
  induction l with
  | nil => exact fun a _ h => ⟨h, Nat.le_refl _⟩
  | cons v l ih =>
    intro a hl ha
    have h1 : inR (sumStep a v).1.2.1 ∧ (sumStep a v).2 ≤ a.2 + 1 := by
     unfold sumStep
     split
     · exact ⟨add_in ha (hl v (List.mem_cons_self ..)), Nat.le_refl _⟩
     · exact ⟨ha, by omega⟩
    obtain ⟨q1, q2⟩ := ih _ (fun x hx => hl x (List.mem_cons_of_mem _ hx)) h1.1
    rw [List.foldl_cons, List.length_cons]
    exact ⟨q1, by omega⟩
 have := key l ((1, 0, ⟨#[]⟩), 0) h inR_0
 simpa [sumL] using this
open Classical in
noncomputable def GSum (p : RW) : Option V := if okRw p then some (.tup [tv (sumL p.2.2).1, .x (.int .i64 (((sumL p.2.2).2 : Nat) : Int))]) else none
open Classical in
theorem GSum_of {nl : Bool} {sz : Nat} {l : List T3} (h : okRw (nl, sz, l)) : FE encR GSum [.sl nl sz (l.map tv) none] = some (.tup [tv (sumL l).1, .x (.int .i64 (((sumL l).2 : Nat) : Int))]) := (FE_at encR_inj _ (nl, sz, l)).trans (if_pos h)
def cntA (l : List T3) : Nat := (l.filter fun v => !rightB v.1 v.2.1 v.2.2 || !decide (v.1 = 0)).length
theorem cntA_snoc (l : List T3) (v : T3) : cntA (l ++ [v]) = cntA l + (bif !rightB v.1 v.2.1 v.2.2 || !decide (v.1 = 0) then 1 else 0) := by
 unfold cntA
 rw [List.filter_append, List.length_append, List.filter_cons]
 cases !rightB v.1 v.2.1 v.2.2 || !decide (v.1 = 0) <;> rfl
theorem cntA_le (l : List T3) : cntA l ≤ l.length := List.length_filter_le _ _
open Classical in
noncomputable def GCntA (p : RW) : Option V := if okRw p then some (vl 1 ((cntA p.2.2 : Nat) : Int) ⟨#[]⟩) else none
open Classical in
theorem GCntA_of {nl : Bool} {sz : Nat} {l : List T3} (h : okRw (nl, sz, l)) : FE encR GCntA [.sl nl sz (l.map tv) none] = some (vl 1 ((cntA l : Nat) : Int) ⟨#[]⟩) := (FE_at encR_inj _ (nl, sz, l)).trans (if_pos h)
set_option maxHeartbeats 4000000 in
set_option maxRecDepth 100000 in
theorem rsum_fun : FunV 117 (FE encR GSum) := by
 refine fun_of_run (E := envOf [(62, FNumber), (36, FPair)]) (k := 1) (envOK_of _ ⟨rint_fun, rpair_fun, trivial⟩) (by kernel_rfl) Tryz.func117 rfl (fun a w => Tryz.call117 a w) Tryz.ntmps117 (by kernel_rfl) (by decide) (by decide) ?_
 intro us r hF hdat
 obtain ⟨⟨nl, sz, l⟩, hus, hG⟩ := FE_out hF
 clear hF
 subst hus
 unfold GSum at hG
 split at hG
 case isFalse => cases hG
 rename_i hok
 cases hG
 obtain ⟨hsz, hin, hlen⟩ := hok
 simp only at hsz hin hlen
 clear hdat
 simp only [encR, rwV]
 refine ⟨rfl, ?_⟩
 simp +decide (maxDischargeDepth := 200) only [go_sem, List.length_map, FNumber, Tryz.results117]
 refine loop_of (X := {i : Nat // i ≤ l.length}) (fun i => [(0, .sl nl sz (l.map tv) none), (2, .ptr 2 0), (4, .ptr 4 0), (5, .x (.int .i64 (((sumL (l.take i.1)).2 : Nat) : Int))), (6, .x (.int .i64 ((i.1 : Nat) : Int)))]) (fun i => [(2, [.x (.int .i64 0), .x (.int .i64 0), .x (.string ⟨#[]⟩)]), (4, [.x (.int .i64 (sumL (l.take i.1)).1.1), .x (.int .i64 (sumL (l.take i.1)).1.2.1), .x (.string (sumL (l.take i.1)).1.2.2)])]) (fun i => l.length - i.1) ⟨0, by omega⟩ (by simp +decide only [go_sem, List.take_zero, sumL, List.foldl_nil, Int.natCast_zero] <;> (repeat' first | rfl | constructor)) (by simp +decide only [go_sem, List.take_zero, sumL, List.foldl_nil, Int.natCast_zero] <;> (repeat' first | rfl | constructor)) (fun ⟨i, hi0⟩ => ?_)
 by_cases hi : i < l.length
 · obtain ⟨k, n, s, h1, h2, h3, _⟩ := tv_at hi
   obtain rfl := hsz (List.ne_nil_of_mem h3)
   have c1 : decide ((i : Int) < (l.length : Int)) = true := decide_eq_true (by omega)
   have c2 : (0 : Int) ≤ (i : Int) := by omega
   have c4 := count_up (i := i) (by omega)
   have e : sumL (l.take (i + 1)) = sumStep (sumL (l.take i)) (k, n, s) := by rw [take_snoc3 h1, sumL_snoc]
   obtain ⟨a1, a2⟩ := sumL_in (l := l.take i) (fun v hv => hin v (List.mem_of_mem_take hv))
   have hnn : inR n := hin _ h3
   rw [List.length_take] at a2
   simp only
   generalize sumL (l.take i) = a at e a1 a2 ⊢
   obtain ⟨⟨ak, an, az⟩, ac⟩ := a
   simp only at a1 a2 ⊢
   have c5 := count_up (i := ac) (by omega)
   by_cases hk : k = 1
   · have d1 := decide_eq_true hk
     have e' : sumL (l.take (i + 1)) = (pairW ⟨#[43]⟩ ak an az k n s, ac + 1) := by rw [e]; unfold sumStep; rw [if_pos hk]
     simp +decide (maxDischargeDepth := 200) only [go_sem, List.length_map, c1, c2, c4, c5, h2, FPair, a1, hnn, d1, Tryz.results117]
     refine ⟨⟨i + 1, by omega⟩, ?_, ?_, ?_⟩
     · simp +decide (maxDischargeDepth := 200) only [go_sem, e']
     · simp +decide (maxDischargeDepth := 200) only [go_sem, e']
     · simp only; omega
   · have d1 := decide_eq_false hk
     have e' : sumL (l.take (i + 1)) = ((ak, an, az), ac) := by rw [e]; unfold sumStep; rw [if_neg hk]
     simp +decide (maxDischargeDepth := 200) only [go_sem, List.length_map, c1, c2, c4, c5, h2, FPair, a1, hnn, d1, Tryz.results117]
     refine ⟨⟨i + 1, by omega⟩, ?_, ?_, ?_⟩
     · simp +decide (maxDischargeDepth := 200) only [go_sem, e']
     · simp +decide (maxDischargeDepth := 200) only [go_sem, e']
     · simp only; omega
 · have c1 : decide ((i : Int) < (l.length : Int)) = false := decide_eq_false (by omega)
   have e : l.take i = l := List.take_of_length_le (by omega)
   simp +decide (maxDischargeDepth := 200) only [go_sem, List.length_map, c1, e, Tryz.results117]
set_option maxHeartbeats 4000000 in
set_option maxRecDepth 100000 in
theorem rcounta_fun : FunV 71 (FE encR GCntA) := by
 refine fun_of_run (E := envOf [(12, FRight), (62, FNumber)]) (k := 1) (envOK_of _ ⟨rvalr_fun, rint_fun, trivial⟩) (by kernel_rfl) Tryz.func71 rfl (fun a w => Tryz.call71 a w) Tryz.ntmps71 (by kernel_rfl) (by decide) (by decide) ?_
 intro us r hF hdat
 obtain ⟨⟨nl, sz, l⟩, hus, hG⟩ := FE_out hF
 clear hF
 subst hus
 unfold GCntA at hG
 split at hG
 case isFalse => cases hG
 rename_i hok
 cases hG
 obtain ⟨hsz, hin, hlen⟩ := hok
 simp only at hsz hin hlen
 clear hdat
 simp only [encR, rwV]
 refine ⟨rfl, ?_⟩
 simp +decide (maxDischargeDepth := 200) only [go_sem, List.length_map, Tryz.results71]
 refine loop_of (X := {i : Nat // i ≤ l.length}) (fun i => [(0, .sl nl sz (l.map tv) none), (2, .ptr 2 0), (3, .x (.int .i64 ((cntA (l.take i.1) : Nat) : Int))), (4, .x (.int .i64 ((i.1 : Nat) : Int)))]) (fun i => [(2, [.x (.int .i64 0), .x (.int .i64 0), .x (.string ⟨#[]⟩)])]) (fun i => l.length - i.1) ⟨0, by omega⟩ (by simp +decide only [go_sem, List.take_zero, cntA, List.filter_nil, List.length_nil, Int.natCast_zero] <;> (repeat' first | rfl | constructor)) (by simp +decide only [go_sem, List.take_zero, cntA, List.filter_nil, List.length_nil, Int.natCast_zero] <;> (repeat' first | rfl | constructor)) (fun ⟨i, hi0⟩ => ?_)
 by_cases hi : i < l.length
 · obtain ⟨k, n, s, h1, h2, h3, _⟩ := tv_at hi
   obtain rfl := hsz (List.ne_nil_of_mem h3)
   have c1 : decide ((i : Int) < (l.length : Int)) = true := decide_eq_true (by omega)
   have c2 : (0 : Int) ≤ (i : Int) := by omega
   have c4 := count_up (i := i) (by omega)
   have e : cntA (l.take (i + 1)) = cntA (l.take i) + (bif !rightB k n s || !decide (k = 0) then 1 else 0) := by rw [take_snoc3 h1, cntA_snoc]
   have hle := cntA_le (l.take i)
   rw [List.length_take] at hle
   simp only
   generalize cntA (l.take i) = a at e hle ⊢
   have c5 := count_up (i := a) (by omega)
   cases hr : rightB k n s with
   | false =>
     rw [hr] at e
     have e' : cntA (l.take (i + 1)) = a + 1 := e
     simp +decide (maxDischargeDepth := 200) only [go_sem, List.length_map, c1, c2, c4, c5, h2, FRight, hr, Tryz.results71]
     refine ⟨⟨i + 1, by omega⟩, ?_, ?_, ?_⟩
     · simp +decide (maxDischargeDepth := 200) only [go_sem, e']
     · simp +decide (maxDischargeDepth := 200) only [go_sem, e']
     · simp only; omega
   | true =>
     by_cases hk : k = 0
     · have d1 := decide_eq_true hk
       have e' : cntA (l.take (i + 1)) = a := by rw [e, hr, d1]; rfl
       simp +decide (maxDischargeDepth := 200) only [go_sem, List.length_map, c1, c2, c4, c5, h2, FRight, hr, d1, Tryz.results71]
       refine ⟨⟨i + 1, by omega⟩, ?_, ?_, ?_⟩
       · simp +decide (maxDischargeDepth := 200) only [go_sem, e']
       · simp +decide (maxDischargeDepth := 200) only [go_sem, e']
       · simp only; omega
     · have d1 := decide_eq_false hk
       have e' : cntA (l.take (i + 1)) = a + 1 := by rw [e, hr, d1]; rfl
       simp +decide (maxDischargeDepth := 200) only [go_sem, List.length_map, c1, c2, c4, c5, h2, FRight, hr, d1, Tryz.results71]
       refine ⟨⟨i + 1, by omega⟩, ?_, ?_, ?_⟩
       · simp +decide (maxDischargeDepth := 200) only [go_sem, e']
       · simp +decide (maxDischargeDepth := 200) only [go_sem, e']
       · simp only; omega
 · have c1 : decide ((i : Int) < (l.length : Int)) = false := decide_eq_false (by omega)
   have e : l.take i = l := List.take_of_length_le (by omega)
   simp +decide (maxDischargeDepth := 200) only [go_sem, List.length_map, c1, e, FNumber, Tryz.results71]
end Go.Proofs.YtfngpfnbhafmlaaGreatDoor
namespace Go.Proofs.YtfngpfnbhafmlaaGreatDoor
open Go Go.RowKit
set_option linter.unusedSimpArgs false
abbrev AW := Bool × Nat × List RW
def awV (p : AW) : V := .sl p.1 p.2.1 (p.2.2.map rwV) none
def allL (l : List RW) : List T3 := l.flatMap fun r => r.2.2
def okAw (p : AW) : Prop := (p.2.2 ≠ [] → p.2.1 = 1) ∧ (∀ r ∈ p.2.2, okRw r) ∧ (allL p.2.2).length ≤ 1000000 ∧ p.2.2.length ≤ 1000000
theorem awV_inj (p q : AW) (e : awV p = awV q) : p = q := by
 obtain ⟨a, b, c⟩ := p
 obtain ⟨a', b', c'⟩ := q
 simp only [awV, V.sl.injEq, and_true] at e
 obtain ⟨rfl, rfl, h⟩ := e
 rw [map_inj' rwV_inj h]
def encAw (p : AW) : List V := [awV p]
theorem encAw_inj (p q : AW) (e : encAw p = encAw q) : p = q := awV_inj _ _ (List.cons.inj e).1
def encAn (p : AW × Int) : List V := [awV p.1, .x (.int .i64 p.2)]
theorem encAn_inj (p q : AW × Int) (e : encAn p = encAn q) : p = q := by
 obtain ⟨a, b⟩ := p
 obtain ⟨a', b'⟩ := q
 simp only [encAn, List.cons.injEq, V.x.injEq, Value.int.injEq, true_and, and_true] at e
 obtain ⟨h1, h2⟩ := e
 rw [awV_inj _ _ h1, h2]
theorem allL_snoc (l : List RW) (r : RW) : allL (l ++ [r]) = allL l ++ r.2.2 := by simp [allL]
theorem allL_take_le (l : List RW) (i : Nat) : (allL (l.take i)).length ≤ (allL l).length := by
 have h : allL l = allL (l.take i ++ l.drop i) := by rw [List.take_append_drop]
 rw [h]
 unfold allL
 rw [List.flatMap_append, List.length_append]
 omega
theorem rw_at {l : List RW} {i : Nat} (h : i < l.length) : ∃ a b c, l[i]? = some (a, b, c) ∧ (l.map rwV)[((i : Nat) : Int).toNat]? = some (.sl a b (c.map tv) none) ∧ (a, b, c) ∈ l := by
 refine ⟨l[i].1, l[i].2.1, l[i].2.2, List.getElem?_eq_getElem h, ?_, List.getElem_mem h⟩
 rw [Int.toNat_natCast, List.getElem?_map, List.getElem?_eq_getElem h]
 rfl
theorem tv_cells (l : List T3) : ((l.map tv).all fun u => u.cells.all V.cell) = true := List.all_eq_true.2 fun e he => by
 obtain ⟨v, _, rfl⟩ := List.mem_map.1 he
 rfl
theorem growV_app0 {E : Env} {el n by' : Nat} {z : List V} (h1 : szB E.P el = some n) (hby : byB E.P el = some by') (hz : zeroB E.P el = some z) (h4 : n ≠ 0) (h5 : z.length = n)
 {es : List V} (hb : es.length * by' ≤ 140737488355328) (hl : es.length ≤ 9223372036854775807) (st : St) (d tok : Nat) (nl : Bool) (m : Nat) (t' : Option Nat) :
 growV E st (some d) el (.sl es.isEmpty n es (some tok)) (.sl nl m [] t') = some ⟨upd (strip tok (strip d st.t)) d (.sl es.isEmpty n es (some d)), stripB E tok (stripB E d st.b)⟩ := by
 unfold growV
 simp only [h1, hby, hz]
 cases es with
 | nil =>
   simp only [List.isEmpty_nil]
   rw [if_pos ⟨h4, h5, .inr trivial, rfl, by simp, by simp⟩]
   rfl
 | cons e es =>
   simp only [List.isEmpty_cons]
   rw [if_pos ⟨h4, h5, trivial, .inr trivial, rfl, by simpa using hb, by simpa using hl⟩]
   simp
theorem growV_row {E : Env} {el n by' : Nat} {z : List V} (h1 : szB E.P el = some n) (hby : byB E.P el = some by') (hz : zeroB E.P el = some z) (h4 : n ≠ 0) (h5 : z.length = n)
 {es es' : List V} {m : Nat} (hm : es' ≠ [] → m = n) (hc : (es'.all fun u => u.cells.all V.cell) = true) (hb : (es.length + es'.length) * by' ≤ 140737488355328) (hl : es.length + es'.length ≤ 9223372036854775807) (st : St) (d tok : Nat) (nl : Bool) (t' : Option Nat) :
 growV E st (some d) el (.sl es.isEmpty n es (some tok)) (.sl nl m es' t') = some ⟨upd (strip tok (strip d st.t)) d (.sl (es ++ es').isEmpty n (es ++ es') (some d)), stripB E tok (stripB E d st.b)⟩ := by
 by_cases he : es' = []
 · subst he
   rw [growV_app0 h1 hby hz h4 h5 (by simpa using hb) (by simpa using hl), List.append_nil]
 · rw [hm he]
   exact growV_app h1 hby hz h4 h5 hc hb hl st d tok nl t'
def freshR (l : List T3) : V := .sl l.isEmpty 3 (l.map tv) none
open Classical in
noncomputable def GAll (p : AW) : Option V := if okAw p then some (freshR (allL p.2.2)) else none
open Classical in
theorem GAll_of {nl : Bool} {sz : Nat} {l : List RW} (h : okAw (nl, sz, l)) : FE encAw GAll [.sl nl sz (l.map rwV) none] = some (freshR (allL l)) := (FE_at encAw_inj _ (nl, sz, l)).trans (if_pos h)
def oneL (l : List RW) (n : Int) : Bool := decide ((l.length : Int) = n) && l.all fun r => decide (r.2.2.length = 1)
def onesV (l : List RW) (n : Int) : V := if oneL l n = true then .tup [freshR (allL l), .x (.bool true)] else .tup [.sl true 0 [] none, .x (.bool false)]
open Classical in
noncomputable def GOnes (p : AW × Int) : Option V := if okAw p.1 then some (onesV p.1.2.2 p.2) else none
open Classical in
theorem GOnes_of {nl : Bool} {sz : Nat} {l : List RW} {n : Int} (h : okAw (nl, sz, l)) : FE encAn GOnes [.sl nl sz (l.map rwV) none, .x (.int .i64 n)] = some (onesV l n) := (FE_at encAn_inj _ ((nl, sz, l), n)).trans (if_pos h)
set_option maxHeartbeats 4000000 in
set_option maxRecDepth 100000 in
theorem rall_fun : FunV 70 (FE encAw GAll) := by
 refine fun_of_run (E := envOf []) (k := 1) (envOK_of _ trivial) (by kernel_rfl) Tryz.func70 rfl (fun a w => Tryz.call70 a w) Tryz.ntmps70 (by kernel_rfl) (by decide) (by decide) ?_
 intro us r hF hdat
 obtain ⟨⟨nl, sz, l⟩, hus, hG⟩ := FE_out hF
 clear hF
 subst hus
 unfold GAll at hG
 split at hG
 case isFalse => cases hG
 rename_i hok
 cases hG
 have hok0 := hok
 obtain ⟨hsz, hrw, hal, hlen⟩ := hok
 simp only at hsz hrw hal hlen hok0
 clear hdat
 simp only [encAw, awV]
 refine ⟨rfl, ?_⟩
 unfold freshR
 simp +decide (maxDischargeDepth := 200) only [go_sem, List.length_map, Tryz.results70]
 refine loop_nil 3 3 16 (by simp only [go_sem]; rfl) ?_
 refine loop_of (X := {i : Nat // i ≤ l.length}) (fun i => [(0, .sl nl sz (l.map rwV) none), (3, .sl ((allL (l.take i.1)).map tv).isEmpty 3 ((allL (l.take i.1)).map tv) (some 16)), (4, .x (.int .i64 ((i.1 : Nat) : Int)))]) (fun i => []) (fun i => l.length - i.1) ⟨0, by omega⟩ (by simp +decide only [go_sem, List.take_zero, allL, List.flatMap_nil, List.map_nil, List.isEmpty_nil, Int.natCast_zero] <;> (repeat' first | rfl | constructor)) (by simp +decide only [go_sem, List.take_zero, allL, List.flatMap_nil, List.map_nil, List.isEmpty_nil, Int.natCast_zero] <;> (repeat' first | rfl | constructor)) (fun ⟨i, hi0⟩ => ?_)
 by_cases hi : i < l.length
 · obtain ⟨a, b, c, h1, h2, h3⟩ := rw_at hi
   obtain rfl := hsz (List.ne_nil_of_mem h3)
   have c1 : decide ((i : Int) < (l.length : Int)) = true := decide_eq_true (by omega)
   have c2 : (0 : Int) ≤ (i : Int) := by omega
   have c4 := count_up (i := i) (by omega)
   have e : (allL (l.take (i + 1))).map tv = (allL (l.take i)).map tv ++ c.map tv := by rw [take_snoc3 h1, allL_snoc, List.map_append]
   have hb3 : c.map tv ≠ [] → b = 3 := fun h => (hrw _ h3).1 (fun e => h (by rw [show c = [] from e]; rfl))
   have hle := allL_take_le l (i + 1)
   rw [take_snoc3 h1, allL_snoc, List.length_append] at hle
   have hcc := tv_cells c
   have hle2 : ((allL (l.take i)).map tv).length + (c.map tv).length ≤ 1000000 := by rw [List.length_map, List.length_map]; simp only at hle; omega
   simp only
   generalize (allL (l.take i)).map tv = al at e hle2 ⊢
   have g1 := growV_row (E := (envOf [])) (el := 23) (n := 3) sz23 by23 ze23 (by decide) rfl (es := al) (es' := c.map tv) hb3 hcc (by omega) (by omega)
   simp +decide (maxDischargeDepth := 200) only [go_sem, List.length_map, c1, c2, c4, h2, g1, Tryz.results70]
   refine ⟨⟨i + 1, by omega⟩, ?_, ?_, ?_⟩
   · simp +decide (maxDischargeDepth := 200) only [go_sem, e]
   · simp +decide (maxDischargeDepth := 200) only [go_sem, e]
   · simp only; omega
 · have c1 : decide ((i : Int) < (l.length : Int)) = false := decide_eq_false (by omega)
   have e : l.take i = l := List.take_of_length_le (by omega)
   have e2 : ((allL l).map tv).isEmpty = (allL l).isEmpty := by cases allL l <;> rfl
   simp +decide (maxDischargeDepth := 200) only [go_sem, List.length_map, c1, e, e2, Tryz.results70]
set_option maxHeartbeats 4000000 in
set_option maxRecDepth 100000 in
theorem rones_fun : FunV 73 (FE encAn GOnes) := by
 refine fun_of_run (E := envOf [(70, (FE encAw GAll))]) (k := 2) (envOK_of _ ⟨rall_fun, trivial⟩) (by kernel_rfl) Tryz.func73 rfl (fun a w => Tryz.call73 a w) Tryz.ntmps73 (by kernel_rfl) (by decide) (by decide) ?_
 intro us r hF hdat
 obtain ⟨⟨⟨nl, sz, l⟩, m⟩, hus, hG⟩ := FE_out hF
 clear hF
 subst hus
 unfold GOnes at hG
 split at hG
 case isFalse => cases hG
 rename_i hok
 cases hG
 have hok0 := hok
 obtain ⟨hsz, hrw, hal, hlen⟩ := hok
 simp only at hsz hrw hal hlen hok0
 clear hdat
 simp only [encAn, awV]
 refine ⟨rfl, ?_⟩
 have hall := GAll_of hok0
 unfold freshR at hall
 unfold onesV
 by_cases hm : (l.length : Int) = m
 · have d1 : (!decide ((l.length : Int) = m)) = false := by rw [decide_eq_true hm]; rfl
   have d1' : decide ((l.length : Int) = m) = true := decide_eq_true hm
   subst hm
   simp +decide (maxDischargeDepth := 200) only [go_sem, List.length_map, d1, d1', Tryz.results73]
   refine loop_of (X := {i : Nat // i ≤ l.length ∧ (l.take i).all (fun r => decide (r.2.2.length = 1)) = true}) (fun i => [(0, .sl nl sz (l.map rwV) none), (1, .x (.int .i64 (l.length : Int))), (6, .x (.int .i64 ((i.1 : Nat) : Int)))]) (fun i => []) (fun i => l.length - i.1) ⟨0, by omega, rfl⟩ (by simp +decide only [go_sem, Int.natCast_zero] <;> (repeat' first | rfl | constructor)) (by simp +decide only [go_sem] <;> (repeat' first | rfl | constructor)) (fun ⟨i, hi0, hall1⟩ => ?_)
   by_cases hi : i < l.length
   · obtain ⟨a, b, c, h1, h2, h3⟩ := rw_at hi
     obtain rfl := hsz (List.ne_nil_of_mem h3)
     have c1 : decide ((i : Int) < (l.length : Int)) = true := decide_eq_true (by omega)
     have c2 : (0 : Int) ≤ (i : Int) := by omega
     have c4 := count_up (i := i) (by omega)
     by_cases hc : c.length = 1
     · have d2 : decide ((c.length : Int) = 1) = true := decide_eq_true (by omega)
       simp +decide (maxDischargeDepth := 200) only [go_sem, List.length_map, c1, c2, c4, h2, d2, Tryz.results73]
       refine ⟨⟨i + 1, by omega, by rw [take_snoc3 h1, List.all_append, hall1]; simp [hc]⟩, ?_, ?_, ?_⟩
       · simp +decide (maxDischargeDepth := 200) only [go_sem]
       · simp +decide (maxDischargeDepth := 200) only [go_sem]
       · simp only; omega
     · have d2 : decide ((c.length : Int) = 1) = false := decide_eq_false (by omega)
       have e : oneL l (l.length : Int) = false := by
        unfold oneL
        rw [decide_eq_true rfl, Bool.true_and, List.all_eq_false]
        exact ⟨_, h3, by simp [hc]⟩
       rw [if_neg (by rw [e]; decide)]
       simp +decide (maxDischargeDepth := 200) only [go_sem, List.length_map, c1, c2, c4, h2, d2, Tryz.results73]
   · have c1 : decide ((i : Int) < (l.length : Int)) = false := decide_eq_false (by omega)
     have e : oneL l (l.length : Int) = true := by
      rw [List.take_of_length_le (by omega)] at hall1
      unfold oneL
      rw [decide_eq_true rfl, Bool.true_and, hall1]
     rw [if_pos e]
     unfold freshR
     simp +decide (maxDischargeDepth := 200) only [go_sem, List.length_map, c1, hall, Tryz.results73]
 · have d1 : decide ((l.length : Int) = m) = false := decide_eq_false hm
   have e : oneL l m = false := by unfold oneL; rw [d1]; rfl
   rw [if_neg (by rw [e]; decide)]
   simp +decide (maxDischargeDepth := 200) only [go_sem, List.length_map, d1, Tryz.results73]
end Go.Proofs.YtfngpfnbhafmlaaGreatDoor
namespace Go.Proofs.YtfngpfnbhafmlaaGreatDoor
open Go Go.RowKit
set_option linter.unusedSimpArgs false
def partS (s : ByteArray) (p n : Int) : ByteArray := if (s.size : Int) < p then ⟨#[]⟩ else subV s p (p + (if (s.size : Int) - p < n then (s.size : Int) - p else n))
def FPart : List V → Option V
 | [.x (.string s), .x (.int .i64 p), .x (.int .i64 n)] => if 0 ≤ p ∧ 0 ≤ n ∧ inR p ∧ inR n ∧ s.size ≤ 281474976710656 then some (.x (.string (partS s p n))) else none
 | _ => none
theorem FPart_of {s : ByteArray} {p n : Int} (h : 0 ≤ p ∧ 0 ≤ n ∧ inR p ∧ inR n ∧ s.size ≤ 281474976710656) : FPart [.x (.string s), .x (.int .i64 p), .x (.int .i64 n)] = some (.x (.string (partS s p n))) := if_pos h
def hitB (a b : ByteArray) (i : Nat) : Bool := decide (subV b (i : Int) ((i : Int) + (a.size : Int)) = a)
def findS (a b : ByteArray) : T3 := match (List.range (b.size + 1 - a.size)).find? (hitB a b) with
 | some i => (1, ((i + 1 : Nat) : Int), ⟨#[]⟩)
 | none => (4, 7, ⟨#[]⟩)
theorem findS_yes {a b : ByteArray} {i : Nat} (h : hitB a b i = true) (hi : i + a.size ≤ b.size) (hn : ∀ j, j < i → hitB a b j = false) : findS a b = (1, ((i + 1 : Nat) : Int), ⟨#[]⟩) := by
 have : (List.range (b.size + 1 - a.size)).find? (hitB a b) = some i := List.find?_range_eq_some.2 ⟨h, List.mem_range.2 (by omega), fun j hj => by rw [hn j hj]; rfl⟩
 unfold findS
 rw [this]
theorem findS_no {a b : ByteArray} (hn : ∀ j, j + a.size ≤ b.size → hitB a b j = false) : findS a b = (4, 7, ⟨#[]⟩) := by
 have : (List.range (b.size + 1 - a.size)).find? (hitB a b) = none := List.find?_range_eq_none.2 (fun j hj => by rw [hn j (by omega)]; rfl)
 unfold findS
 rw [this]
def FFind : List V → Option V
 | [.x (.string a), .x (.string b)] => if a.size ≤ 281474976710656 ∧ b.size ≤ 281474976710656 then some (tv (findS a b)) else none
 | _ => none
theorem FFind_of {a b : ByteArray} (h : a.size ≤ 281474976710656 ∧ b.size ≤ 281474976710656) : FFind [.x (.string a), .x (.string b)] = some (tv (findS a b)) := if_pos h
set_option maxRecDepth 100000 in
theorem rpart_fun : FunV 121 FPart := by
 refine fun_of_run (E := envOf []) (k := 3) (envOK_of _ trivial) (by kernel_rfl) Tryz.func121 rfl (fun a w => Tryz.call121 a w) Tryz.ntmps121 (by kernel_rfl) (by decide) (by decide) ?_
 intro us r hF hdat
 unfold FPart at hF
 split at hF
 case h_2 => cases hF
 rename_i s p n
 split at hF
 case isFalse => cases hF
 rename_i h
 cases hF
 obtain ⟨h1, h2, h3, h4, h5⟩ := h
 refine ⟨rfl, ?_⟩
 unfold partS
 by_cases hp : (s.size : Int) < p
 · have d1 := decide_eq_true hp
   rw [if_pos hp]
   simp +decide (maxDischargeDepth := 200) only [go_sem, d1, Tryz.results121]
 · have d1 := decide_eq_false hp
   rw [if_neg hp]
   have w1 : bWrap .i64 ((s.size : Int) - p) = (s.size : Int) - p := bwrap_of (by unfold inR; omega)
   by_cases hn : (s.size : Int) - p < n
   · have d2 := decide_eq_true hn
     rw [if_pos hn]
     have w2 : bWrap .i64 (p + ((s.size : Int) - p)) = p + ((s.size : Int) - p) := bwrap_of (by unfold inR; omega)
     have w3 : p ≤ p + ((s.size : Int) - p) := by omega
     have w4 : p + ((s.size : Int) - p) ≤ (s.size : Int) := by omega
     simp +decide (maxDischargeDepth := 200) only [go_sem, d1, d2, w1, w2, w3, w4, h1, Tryz.results121]
   · have d2 := decide_eq_false hn
     rw [if_neg hn]
     have w2 : bWrap .i64 (p + n) = p + n := bwrap_of (by unfold inR; omega)
     have w3 : p ≤ p + n := by omega
     have w4 : p + n ≤ (s.size : Int) := by omega
     simp +decide (maxDischargeDepth := 200) only [go_sem, d1, d2, w1, w2, w3, w4, h1, Tryz.results121]
set_option maxHeartbeats 4000000 in
set_option maxRecDepth 100000 in
theorem rfind_fun : FunV 120 FFind := by
 refine fun_of_run (E := envOf [(62, FNumber), (20, FFault)]) (k := 2) (envOK_of _ ⟨rint_fun, rerr_fun, trivial⟩) (by kernel_rfl) Tryz.func120 rfl (fun a w => Tryz.call120 a w) Tryz.ntmps120 (by kernel_rfl) (by decide) (by decide) ?_
 intro us r hF hdat
 unfold FFind at hF
 split at hF
 case h_2 => cases hF
 rename_i a b
 split at hF
 case isFalse => cases hF
 rename_i h
 cases hF
 obtain ⟨h1, h2⟩ := h
 refine ⟨rfl, ?_⟩
 simp +decide (maxDischargeDepth := 200) only [go_sem, Tryz.results120]
 refine loop_of (X := {i : Nat // i ≤ b.size + 1 ∧ ∀ j, j < i → hitB a b j = false}) (fun i => [(0, .x (.string a)), (1, .x (.string b)), (4, .ptr 4 0), (5, .x (.int .i64 ((i.1 : Nat) : Int)))]) (fun i => [(4, [.x (.int .i64 0), .x (.int .i64 0), .x (.string ⟨#[]⟩)])]) (fun i => b.size + 1 - i.1) ⟨0, by omega, fun j hj => by omega⟩ (by simp +decide only [go_sem, Int.natCast_zero] <;> (repeat' first | rfl | constructor)) (by simp +decide only [go_sem] <;> (repeat' first | rfl | constructor)) (fun ⟨i, hi0, hno⟩ => ?_)
 have w1 : bWrap .i64 ((i : Int) + (a.size : Int)) = (i : Int) + (a.size : Int) := bwrap_of (by unfold inR; omega)
 by_cases hi : i + a.size ≤ b.size
 · have c1 : decide ((i : Int) + (a.size : Int) ≤ (b.size : Int)) = true := decide_eq_true (by omega)
   have c1' : decide ((b.size : Int) < (i : Int) + (a.size : Int)) = false := decide_eq_false (by omega)
   have c2 : (0 : Int) ≤ (i : Int) := by omega
   have c3 : (i : Int) ≤ (i : Int) + (a.size : Int) := by omega
   have c3' : (i : Int) + (a.size : Int) ≤ (b.size : Int) := by omega
   have c4 := count_up (i := i) (by omega)
   cases hh : hitB a b i with
   | true =>
     have d1 : decide (subV b (i : Int) ((i : Int) + (a.size : Int)) = a) = true := hh
     rw [findS_yes hh hi hno]
     simp +decide (maxDischargeDepth := 200) only [go_sem, w1, c1, c1', c2, c3, c3', c4, d1, FNumber, Tryz.results120]
   | false =>
     have d1 : decide (subV b (i : Int) ((i : Int) + (a.size : Int)) = a) = false := hh
     simp +decide (maxDischargeDepth := 200) only [go_sem, w1, c1, c1', c2, c3, c3', c4, d1, FNumber, Tryz.results120]
     refine ⟨⟨i + 1, by omega, fun j hj => by rcases Nat.lt_or_eq_of_le (Nat.lt_succ_iff.1 hj) with hj | rfl; exact hno j hj; exact hh⟩, ?_, ?_, ?_⟩
     · simp +decide (maxDischargeDepth := 200) only [go_sem]
     · simp +decide (maxDischargeDepth := 200) only [go_sem]
     · simp only; omega
 · have c1 : decide ((i : Int) + (a.size : Int) ≤ (b.size : Int)) = false := decide_eq_false (by omega)
   have c1' : decide ((b.size : Int) < (i : Int) + (a.size : Int)) = true := decide_eq_true (by omega)
   have e : findS a b = (4, 7, ⟨#[]⟩) := findS_no fun j hj => hno j (by omega)
   rw [e]
   simp +decide (maxDischargeDepth := 200) only [go_sem, w1, c1, c1', FFault, Tryz.results120]
end Go.Proofs.YtfngpfnbhafmlaaGreatDoor
namespace Go.Proofs.YtfngpfnbhafmlaaGreatDoor
open Go Go.RowKit
set_option linter.unusedSimpArgs false
def turnB (great : Bool) (b : UInt8) : UInt8 := if great = true then (if 97 ≤ b ∧ b ≤ 122 then b - 32 else b) else (if 65 ≤ b ∧ b ≤ 90 then b + 32 else b)
def turnS (great : Bool) (s : ByteArray) : ByteArray := ⟨s.data.map (turnB great)⟩
def FTurn : List V → Option V
 | [.x (.string s), .x (.bool g)] => if s.size ≤ 1000000 then some (.x (.string (turnS g s))) else none
 | _ => none
def numE (k n : Int) (s : ByteArray) : Option T3 := if rightB k n s = false then some (4, 3, ⟨#[]⟩) else if k = 0 ∨ k = 1 then none else if k = 4 then some (k, n, s) else some (4, 3, ⟨#[]⟩)
theorem numW_eq (k n : Int) (s : ByteArray) : numW k n s = match numE k n s with
 | none => .tup [.x (.int .i64 n), vl 0 0 ⟨#[]⟩, .x (.bool true)]
 | some w => .tup [.x (.int .i64 0), vl w.1 w.2.1 w.2.2, .x (.bool false)] := by
 unfold numW numE
 by_cases h1 : rightB k n s = false
 · rw [if_pos h1, if_pos h1]
 · rw [if_neg h1, if_neg h1]
   by_cases h2 : k = 0 ∨ k = 1
   · rw [if_pos h2, if_pos h2]
   · rw [if_neg h2, if_neg h2]
     by_cases h3 : k = 4
     · rw [if_pos h3, if_pos h3]
     · rw [if_neg h3, if_neg h3]
theorem FNum_no {k n : Int} {s : ByteArray} {wk wn : Int} {ws : ByteArray} (h : numE k n s = some (wk, wn, ws)) : FNum [.agg [.x (.int .i64 k), .x (.int .i64 n), .x (.string s)]] = some (.tup [.x (.int .i64 0), vl wk wn ws, .x (.bool false)]) := by
 show some (numW k n s) = _
 rw [numW_eq, h]
theorem FNum_yes {k n : Int} {s : ByteArray} (h : numE k n s = none) : FNum [.agg [.x (.int .i64 k), .x (.int .i64 n), .x (.string s)]] = some (.tup [.x (.int .i64 n), vl 0 0 ⟨#[]⟩, .x (.bool true)]) := by
 show some (numW k n s) = _
 rw [numW_eq, h]
def absW (n : Int) : T3 := if n < 0 then pairW ⟨#[45]⟩ 1 0 ⟨#[]⟩ 1 n ⟨#[]⟩ else (1, n, ⟨#[]⟩)
def signW (n : Int) : T3 := if n < 0 then (1, -1, ⟨#[]⟩) else if 0 < n then (1, 1, ⟨#[]⟩) else (1, 0, ⟨#[]⟩)
def oneW (name : ByteArray) (k n : Int) (s : ByteArray) : T3 :=
 if name = ⟨#[78, 79, 84]⟩ then (if k = 3 ∨ k = 0 then boolW (!decide (n = 1)) else (4, 3, ⟨#[]⟩))
 else if name = ⟨#[76, 69, 78]⟩ then (1, ((showB k n s).size : Int), ⟨#[]⟩)
 else if name = ⟨#[85, 80, 80, 69, 82]⟩ then textW (turnS true (showB k n s))
 else if name = ⟨#[76, 79, 87, 69, 82]⟩ then textW (turnS false (showB k n s))
 else if name = ⟨#[73, 83, 66, 76, 65, 78, 75]⟩ then boolW (decide (k = 0))
 else match numE k n s with
  | some w => w
  | none => if name = ⟨#[65, 66, 83]⟩ then absW n else signW n
def FOne : List V → Option V
 | [.x (.string name), .agg [.x (.int .i64 k), .x (.int .i64 n), .x (.string s)]] => if inR n then some (tv (oneW name k n s)) else none
 | _ => none
theorem FOne_of {name : ByteArray} {k n : Int} {s : ByteArray} (h : inR n) : FOne [.x (.string name), .agg [.x (.int .i64 k), .x (.int .i64 n), .x (.string s)]] = some (tv (oneW name k n s)) := if_pos h
theorem boolW_tv (b : Bool) : tv (boolW b) = vl 3 (if b then 1 else 0) ⟨#[]⟩ := rfl
theorem show_1m {k n : Int} {s : ByteArray} (h : inR n) : (showB k n s).size ≤ 1000000 := by have := showB_size (k := k) (s := s) h; omega
set_option maxHeartbeats 8000000 in
set_option maxRecDepth 100000 in
theorem rone_fun (hturn : FunV 119 FTurn) : FunV 75 FOne := by
 refine fun_of_run (E := envOf [(118, FTruthV), (20, FFault), (68, FTruth), (67, FShowV), (62, FNumber), (119, FTurn), (66, FText), (64, FNum), (35, FMinus)]) (k := 2) (envOK_of _ ⟨rtruthv_fun, rerr_fun, rtruth_fun, rshowV_fun, rint_fun, hturn, rtext_fun, rnum_fun, rminus_fun, trivial⟩) (by kernel_rfl) Tryz.func75 rfl (fun a w => Tryz.call75 a w) Tryz.ntmps75 (by kernel_rfl) (by decide) (by decide) ?_
 intro us r hF hdat
 unfold FOne at hF
 split at hF
 case h_2 => cases hF
 rename_i name k n s
 split at hF
 case isFalse => cases hF
 rename_i hn
 cases hF
 have hs1 := show_1m (k := k) (s := s) hn
 refine ⟨rfl, ?_⟩
 by_cases h0 : name = ⟨#[78, 79, 84]⟩
 · subst h0
   have e : oneW ⟨#[78, 79, 84]⟩ k n s = if k = 3 ∨ k = 0 then boolW (!decide (n = 1)) else (4, 3, ⟨#[]⟩) := rfl
   rw [e]
   by_cases hk : k = 3 ∨ k = 0
   · have dk := decide_eq_true hk
     rw [if_pos hk, boolW_tv]
     cases hn1 : decide (n = 1)
     · simp +decide (maxDischargeDepth := 200) only [go_sem, FTruthV, FTruth, FFault, dk, hn1, Bool.true_and, Tryz.results75]
     · simp +decide (maxDischargeDepth := 200) only [go_sem, FTruthV, FTruth, FFault, dk, hn1, Bool.true_and, Tryz.results75]
   · have dk := decide_eq_false hk
     rw [if_neg hk]
     simp +decide (maxDischargeDepth := 200) only [go_sem, FTruthV, FTruth, FFault, dk, Bool.false_and, Tryz.results75]
 · have d0 := decide_eq_false h0
   by_cases h1 : name = ⟨#[76, 69, 78]⟩
   · subst h1
     have e : oneW ⟨#[76, 69, 78]⟩ k n s = (1, ((showB k n s).size : Int), ⟨#[]⟩) := rfl
     rw [e]
     simp +decide (maxDischargeDepth := 200) only [go_sem, FShowV, hn, FNumber, Tryz.results75]
   · have d1 := decide_eq_false h1
     by_cases h2 : name = ⟨#[85, 80, 80, 69, 82]⟩
     · subst h2
       have e : oneW ⟨#[85, 80, 80, 69, 82]⟩ k n s = textW (turnS true (showB k n s)) := rfl
       rw [e]
       simp +decide (maxDischargeDepth := 200) only [go_sem, FShowV, hn, FTurn, hs1, FText, Tryz.results75]
     · have d2 := decide_eq_false h2
       by_cases h3 : name = ⟨#[76, 79, 87, 69, 82]⟩
       · subst h3
         have e : oneW ⟨#[76, 79, 87, 69, 82]⟩ k n s = textW (turnS false (showB k n s)) := rfl
         rw [e]
         simp +decide (maxDischargeDepth := 200) only [go_sem, FShowV, hn, FTurn, hs1, FText, Tryz.results75]
       · have d3 := decide_eq_false h3
         by_cases h4 : name = ⟨#[73, 83, 66, 76, 65, 78, 75]⟩
         · subst h4
           have e : oneW ⟨#[73, 83, 66, 76, 65, 78, 75]⟩ k n s = boolW (decide (k = 0)) := rfl
           rw [e, boolW_tv]
           simp +decide (maxDischargeDepth := 200) only [go_sem, FTruth, Tryz.results75]
         · have d4 := decide_eq_false h4
           cases hE : numE k n s with
           | some w =>
             obtain ⟨wk, wn, ws⟩ := w
             have eN := FNum_no hE
             have e : oneW name k n s = (wk, wn, ws) := by unfold oneW; rw [if_neg h0, if_neg h1, if_neg h2, if_neg h3, if_neg h4, hE]
             rw [e]
             simp +decide (maxDischargeDepth := 200) only [go_sem, d0, d1, d2, d3, d4, eN, Tryz.results75]
           | none =>
             have eN := FNum_yes hE
             have e : oneW name k n s = if name = ⟨#[65, 66, 83]⟩ then absW n else signW n := by unfold oneW; rw [if_neg h0, if_neg h1, if_neg h2, if_neg h3, if_neg h4, hE]
             rw [e]
             by_cases h5 : name = ⟨#[65, 66, 83]⟩
             · have d5 := decide_eq_true h5
               rw [if_pos h5]
               unfold absW
               by_cases hneg : n < 0
               · have d6 := decide_eq_true hneg
                 rw [if_pos hneg]
                 simp +decide (maxDischargeDepth := 200) only [go_sem, d0, d1, d2, d3, d4, eN, d5, d6, FNumber, FMinus, hn, Tryz.results75]
               · have d6 := decide_eq_false hneg
                 rw [if_neg hneg]
                 simp +decide (maxDischargeDepth := 200) only [go_sem, d0, d1, d2, d3, d4, eN, d5, d6, FNumber, Tryz.results75]
             · have d5 := decide_eq_false h5
               rw [if_neg h5]
               unfold signW
               by_cases hneg : n < 0
               · have d6 := decide_eq_true hneg
                 rw [if_pos hneg]
                 simp +decide (maxDischargeDepth := 200) only [go_sem, d0, d1, d2, d3, d4, eN, d5, d6, FNumber, Tryz.results75]
               · have d6 := decide_eq_false hneg
                 rw [if_neg hneg]
                 by_cases hpos : 0 < n
                 · have d7 := decide_eq_true hpos
                   rw [if_pos hpos]
                   simp +decide (maxDischargeDepth := 200) only [go_sem, d0, d1, d2, d3, d4, eN, d5, d6, d7, FNumber, Tryz.results75]
                 · have d7 := decide_eq_false hpos
                   rw [if_neg hpos]
                   simp +decide (maxDischargeDepth := 200) only [go_sem, d0, d1, d2, d3, d4, eN, d5, d6, d7, FNumber, Tryz.results75]
end Go.Proofs.YtfngpfnbhafmlaaGreatDoor
namespace Go.Proofs.YtfngpfnbhafmlaaGreatDoor
open Go Go.RowKit
set_option linter.unusedSimpArgs false
def leftW (name s : ByteArray) (n : Int) : T3 := if name = ⟨#[76, 69, 70, 84]⟩ ∨ (s.size : Int) ≤ n then textW (partS s 0 n) else textW (partS s ((s.size : Int) - n) n)
def modW (x y : Int) : T3 := if y = 0 then (4, 2, ⟨#[]⟩) else if y = -1 then (1, 0, ⟨#[]⟩) else (1, x.tmod y, ⟨#[]⟩)
def twoW (name : ByteArray) (a b : T3) : T3 :=
 if name = ⟨#[70, 73, 78, 68]⟩ then findS (showB a.1 a.2.1 a.2.2) (showB b.1 b.2.1 b.2.2)
 else if name = ⟨#[77, 79, 68]⟩ then (match numE a.1 a.2.1 a.2.2 with
  | some w => w
  | none => match numE b.1 b.2.1 b.2.2 with
    | some w => w
    | none => modW a.2.1 b.2.1)
 else match numE b.1 b.2.1 b.2.2 with
  | some w => w
  | none => if b.2.1 < 0 then (4, 3, ⟨#[]⟩) else leftW name (showB a.1 a.2.1 a.2.2) b.2.1
def FTwo : List V → Option V
 | [.x (.string name), .agg [.x (.int .i64 k), .x (.int .i64 n), .x (.string s)], .agg [.x (.int .i64 k'), .x (.int .i64 n'), .x (.string s')]] => if inR n ∧ inR n' then some (tv (twoW name (k, n, s) (k', n', s'))) else none
 | _ => none
theorem FTwo_of {name : ByteArray} {k n : Int} {s : ByteArray} {k' n' : Int} {s' : ByteArray} (h : inR n) (h' : inR n') : FTwo [.x (.string name), .agg [.x (.int .i64 k), .x (.int .i64 n), .x (.string s)], .agg [.x (.int .i64 k'), .x (.int .i64 n'), .x (.string s')]] = some (tv (twoW name (k, n, s) (k', n', s'))) := if_pos ⟨h, h'⟩
def midW (a b c : T3) : T3 := match numE b.1 b.2.1 b.2.2 with
 | some w => w
 | none => match numE c.1 c.2.1 c.2.2 with
   | some w => w
   | none => if b.2.1 < 1 ∨ c.2.1 < 0 then (4, 3, ⟨#[]⟩) else textW (partS (showB a.1 a.2.1 a.2.2) (b.2.1 - 1) c.2.1)
theorem show_big {k n : Int} {s : ByteArray} (h : inR n) : (showB k n s).size ≤ 281474976710656 := by have := showB_size (k := k) (s := s) h; omega
set_option maxHeartbeats 8000000 in
set_option maxRecDepth 100000 in
theorem rtwo_fun : FunV 76 FTwo := by
 refine fun_of_run (E := envOf [(67, FShowV), (120, FFind), (64, FNum), (20, FFault), (62, FNumber), (121, FPart), (66, FText)]) (k := 3) (envOK_of _ ⟨rshowV_fun, rfind_fun, rnum_fun, rerr_fun, rint_fun, rpart_fun, rtext_fun, trivial⟩) (by kernel_rfl) Tryz.func76 rfl (fun a w => Tryz.call76 a w) Tryz.ntmps76 (by kernel_rfl) (by decide) (by decide) ?_
 intro us r hF hdat
 unfold FTwo at hF
 split at hF
 case h_2 => cases hF
 rename_i name k n s k' n' s'
 split at hF
 case isFalse => cases hF
 rename_i hnn
 obtain ⟨hn, hn'⟩ := hnn
 cases hF
 refine ⟨rfl, ?_⟩
 by_cases h0 : name = ⟨#[70, 73, 78, 68]⟩
 · subst h0
   have e : twoW ⟨#[70, 73, 78, 68]⟩ (k, n, s) (k', n', s') = findS (showB k n s) (showB k' n' s') := rfl
   rw [e]
   have eF := FFind_of ⟨show_big (k := k) (s := s) hn, show_big (k := k') (s := s') hn'⟩
   simp +decide (maxDischargeDepth := 200) only [go_sem, FShowV, hn, hn', eF, Tryz.results76]
 · have d0 := decide_eq_false h0
   by_cases h1 : name = ⟨#[77, 79, 68]⟩
   · subst h1
     have e : twoW ⟨#[77, 79, 68]⟩ (k, n, s) (k', n', s') = (match numE k n s with | some w => w | none => match numE k' n' s' with | some w => w | none => modW n n') := rfl
     rw [e]
     cases hE : numE k n s with
     | some w =>
       obtain ⟨wk, wn, ws⟩ := w
       have eN := FNum_no hE
       simp +decide (maxDischargeDepth := 200) only [go_sem, eN, Tryz.results76]
     | none =>
       have eN := FNum_yes hE
       cases hE2 : numE k' n' s' with
       | some w =>
         obtain ⟨wk, wn, ws⟩ := w
         have eN2 := FNum_no hE2
         simp +decide (maxDischargeDepth := 200) only [go_sem, eN, eN2, Tryz.results76]
       | none =>
         have eN2 := FNum_yes hE2
         simp only
         unfold modW
         by_cases h0' : n' = 0
         · have dz := decide_eq_true h0'
           rw [if_pos h0']
           simp +decide (maxDischargeDepth := 200) only [go_sem, eN, eN2, dz, FFault, Tryz.results76]
         · have dz := decide_eq_false h0'
           rw [if_neg h0']
           by_cases h1' : n' = -1
           · have dm := decide_eq_true h1'
             rw [if_pos h1']
             simp +decide (maxDischargeDepth := 200) only [go_sem, eN, eN2, dz, dm, FNumber, Tryz.results76]
           · have dm := decide_eq_false h1'
             rw [if_neg h1']
             simp +decide (maxDischargeDepth := 200) only [go_sem, eN, eN2, dz, dm, h0', FNumber, Tryz.results76]
   · have d1 := decide_eq_false h1
     have e : twoW name (k, n, s) (k', n', s') = (match numE k' n' s' with | some w => w | none => if n' < 0 then (4, 3, ⟨#[]⟩) else leftW name (showB k n s) n') := by unfold twoW; rw [if_neg h0, if_neg h1]
     rw [e]
     cases hE : numE k' n' s' with
     | some w =>
       obtain ⟨wk, wn, ws⟩ := w
       have eN := FNum_no hE
       simp +decide (maxDischargeDepth := 200) only [go_sem, d0, d1, eN, Tryz.results76]
     | none =>
       have eN := FNum_yes hE
       simp only
       by_cases hneg : n' < 0
       · have dn := decide_eq_true hneg
         rw [if_pos hneg]
         simp +decide (maxDischargeDepth := 200) only [go_sem, d0, d1, eN, dn, FFault, Tryz.results76]
       · have dn := decide_eq_false hneg
         rw [if_neg hneg]
         have hsz := show_big (k := k) (s := s) hn
         have p1 := FPart_of (s := showB k n s) (p := 0) (n := n') ⟨by omega, by omega, inR_0, hn', hsz⟩
         unfold leftW
         by_cases hL : name = ⟨#[76, 69, 70, 84]⟩
         · have dL := decide_eq_true hL
           rw [if_pos (.inl hL)]
           simp +decide (maxDischargeDepth := 200) only [go_sem, d0, d1, eN, dn, dL, FShowV, hn, p1, FText, Tryz.results76]
         · have dL := decide_eq_false hL
           by_cases hG : ((showB k n s).size : Int) ≤ n'
           · have dG := decide_eq_true hG
             rw [if_pos (.inr hG)]
             simp +decide (maxDischargeDepth := 200) only [go_sem, d0, d1, eN, dn, dL, dG, FShowV, hn, p1, FText, Tryz.results76]
           · have dG := decide_eq_false hG
             rw [if_neg (fun h => h.elim hL hG)]
             have ws : bWrap .i64 (((showB k n s).size : Int) - n') = ((showB k n s).size : Int) - n' := bwrap_of (by unfold inR at *; omega)
             have p2 := FPart_of (s := showB k n s) (p := ((showB k n s).size : Int) - n') (n := n') ⟨by omega, by omega, by unfold inR at *; omega, hn', hsz⟩
             simp +decide (maxDischargeDepth := 200) only [go_sem, d0, d1, eN, dn, dL, dG, FShowV, hn, ws, p2, FText, Tryz.results76]
def FMid : List V → Option V
 | [.sl _ 3 [.agg [.x (.int .i64 k), .x (.int .i64 n), .x (.string s)], .agg [.x (.int .i64 k'), .x (.int .i64 n'), .x (.string s')], .agg [.x (.int .i64 k2), .x (.int .i64 n2), .x (.string s2)]] none] => if inR n ∧ inR n' ∧ inR n2 then some (tv (midW (k, n, s) (k', n', s') (k2, n2, s2))) else none
 | _ => none
theorem FMid_of {nl : Bool} {k n : Int} {s : ByteArray} {k' n' : Int} {s' : ByteArray} {k2 n2 : Int} {s2 : ByteArray} (h : inR n ∧ inR n' ∧ inR n2) : FMid [.sl nl 3 [.agg [.x (.int .i64 k), .x (.int .i64 n), .x (.string s)], .agg [.x (.int .i64 k'), .x (.int .i64 n'), .x (.string s')], .agg [.x (.int .i64 k2), .x (.int .i64 n2), .x (.string s2)]] none] = some (tv (midW (k, n, s) (k', n', s') (k2, n2, s2))) := if_pos h
set_option maxHeartbeats 8000000 in
set_option maxRecDepth 100000 in
theorem rmid_fun : FunV 77 FMid := by
 refine fun_of_run (E := envOf [(64, FNum), (20, FFault), (67, FShowV), (121, FPart), (66, FText)]) (k := 1) (envOK_of _ ⟨rnum_fun, rerr_fun, rshowV_fun, rpart_fun, rtext_fun, trivial⟩) (by kernel_rfl) Tryz.func77 rfl (fun a w => Tryz.call77 a w) Tryz.ntmps77 (by kernel_rfl) (by decide) (by decide) ?_
 intro us r hF hdat
 unfold FMid at hF
 split at hF
 case h_2 => cases hF
 rename_i nl k n s k' n' s' k2 n2 s2
 split at hF
 case isFalse => cases hF
 rename_i hnn
 obtain ⟨hn, hn', hn2⟩ := hnn
 cases hF
 refine ⟨rfl, ?_⟩
 have e : midW (k, n, s) (k', n', s') (k2, n2, s2) = (match numE k' n' s' with | some w => w | none => match numE k2 n2 s2 with | some w => w | none => if n' < 1 ∨ n2 < 0 then (4, 3, ⟨#[]⟩) else textW (partS (showB k n s) (n' - 1) n2)) := rfl
 rw [e]
 cases hE : numE k' n' s' with
 | some w =>
   obtain ⟨wk, wn, ws⟩ := w
   have eN := FNum_no hE
   simp +decide (maxDischargeDepth := 200) only [go_sem, eN, Tryz.results77]
 | none =>
   have eN := FNum_yes hE
   cases hE2 : numE k2 n2 s2 with
   | some w =>
     obtain ⟨wk, wn, ws⟩ := w
     have eN2 := FNum_no hE2
     simp +decide (maxDischargeDepth := 200) only [go_sem, eN, eN2, Tryz.results77]
   | none =>
     have eN2 := FNum_yes hE2
     simp only
     by_cases h1 : n' < 1
     · have d1 := decide_eq_true h1
       rw [if_pos (.inl h1)]
       simp +decide (maxDischargeDepth := 200) only [go_sem, eN, eN2, d1, FFault, Tryz.results77]
     · have d1 := decide_eq_false h1
       by_cases h2 : n2 < 0
       · have d2 := decide_eq_true h2
         rw [if_pos (.inr h2)]
         simp +decide (maxDischargeDepth := 200) only [go_sem, eN, eN2, d1, d2, FFault, Tryz.results77]
       · have d2 := decide_eq_false h2
         rw [if_neg (fun h => h.elim h1 h2)]
         have ws : bWrap .i64 (n' - 1) = n' - 1 := bwrap_of (by unfold inR at *; omega)
         have p2 := FPart_of (s := showB k n s) (p := n' - 1) (n := n2) ⟨by omega, by omega, by unfold inR at *; omega, hn2, show_big hn⟩
         simp +decide (maxDischargeDepth := 200) only [go_sem, eN, eN2, d1, d2, FShowV, hn, ws, p2, FText, Tryz.results77]
end Go.Proofs.YtfngpfnbhafmlaaGreatDoor

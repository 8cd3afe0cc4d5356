/- The iterators of maps.Keys: over cells, over texts. -/
import Derived.Test.YtiphliochoengaaML
import Derived.Test.YtiphliochoengaaMI
import Derived.Test.YtiphliochoengaaMG
import Derived.Test.YtiphliochoengaaMH
import Derived.Test.YtiphliochoengaaMAd
namespace Go.Proofs.Ytiphliochoengaa
open Go Go.RowKit
set_option linter.unusedSimpArgs false
open Go.ChangeMaps (setBlock)
def OkK (ks : List V) (pre : List (List V)) : Prop := ∃ l : List V, pre = l.map (fun k => [k]) ∧ (∀ k ∈ l, k ∈ ks) ∧ l.length ≤ ks.length
def DoneK (ks : List V) (xs : List (List V)) : Prop := ∃ l : List V, xs = l.map (fun k => [k]) ∧ l.Perm ks
set_option maxHeartbeats 8000000 in
set_option maxRecDepth 100000 in
theorem keysC_iter {m : Lim} {w : World} {lb : Array Value} {g : Nat} {ks vs : List V} (hks : ∀ k ∈ ks, ∃ p : C3, k = cellV p) (hm : MapAt m w g ks vs) (hr : RdL m w lb.toList [.ip [.x (.map (some g))]]) (hKg : globK ≤ g) : IterAt (envOf []) (fun k => k = g) 42 lb (OkK ks) (DoneK ks) m w := by
  obtain ⟨ents, clock, hh, hrd, hlt, hnd⟩ := hm
  have hgw := heap_lt hh
  obtain ⟨ps, hps⟩ : ∃ ps, ps = ents.toList.zip ks := ⟨_, rfl⟩
  have hlen := hrd.len.1
  have hp1 : ps.map (fun p => p.1) = ents.toList := by rw [hps]; exact List.map_fst_zip (by omega)
  have hp2 : ps.map (fun p => p.2) = ks := by rw [hps]; exact List.map_snd_zip (by omega)
  have hpb : (ps.map fun p => p.1.born).Nodup := by
    have : (ps.map fun p => p.1.born) = (ps.map fun p => p.1).map (·.born) := by rw [List.map_map]; rfl
    rw [this, hp1]; exact hnd
  have hpk : ∀ p ∈ ps, p.2.val = some p.1.key := fun p hp => by
    obtain ⟨i, hi⟩ := List.getElem?_of_mem hp
    rw [hps, List.getElem?_zip_eq_some] at hi
    obtain ⟨k, v, q1, _, q2, _⟩ := hrd.get i p.1 hi.1
    rw [q1] at hi
    cases hi.2
    exact q2.2
  refine iter_of (E := envOf []) (n := 14) (us := [.ip [.x (.map (some g))]]) Try.func42 rfl Try.ntmps42 Try.results42 (by simp) (by decide) hr rfl (fun g => .undef _) ?_
  intro l A Ax a0 O hA hX hy h0 hOG
  have hE : EnvOK (envOf []) := envOK_of _ trivial
  have hm' : (envOf []).P.follows .mixedOrders = true := by kernel_rfl
  refine wpIn_seq (wpIn_region ?_)
  refine ops_S hE (hA []) 0 1 [(0, .x (.func (.yield l) #[] #[])), (4, .x (.map (some g)))] [] [1] (by decide) (by kernel_rfl) h0 (by simp (decide := true) (maxDischargeDepth := 200) only [go_sem, Nat.reduceBEq] <;> (repeat' first | rfl | constructor)) ?_
  clear h0 a0
  intro a w1 h1
  obtain ⟨m1, Oi, O1, hn, ha, hdis, h4, h5, h6⟩ := h1
  have hOg : ¬ O g := fun h => hOG g h rfl
  have hsg := h6.same g hgw hOg
  have hh1 : w1.heap[g]? = some (.map ents clock) := hsg.1.trans hh
  have he4 : a.eval (.tmp 4) = .map (some g) := hn.read_x 4 (by simp only [go_sem, Nat.reduceEqDiff, if_false, if_true, tOf, stOf])
  have hO1g : ¬ O1 g := fun h => by rcases h5 g h with h | h; exact hOg h; exact absurd hgw (Nat.not_lt.2 h)
  have hbl : Below w1.heap.size w1 (w1.alloc (.mapIter (some g) clock #[] clock)) := (Below.refl _ w1).alloc (Nat.le_refl _) _
  have hJ1 : (envOf []).J (w1.alloc (.mapIter (some g) clock #[] clock)) := hE.keep [] _ _ (fun x hx => by cases hx) hn.J ⟨hbl.os, hbl.tape, hbl.output, hbl.size, fun k hk _ => hbl.block k hk⟩
  have hO1r : ¬ O1 w1.heap.size := fun h => Nat.lt_irrefl _ ((hA []).lt _ _ _ ha _ h).1
  have hKr : (envOf []).K ≤ w1.heap.size := hE.high _ hn.J
  have hgr : g ≠ w1.heap.size := by have := heap_lt hh1; omega
  rw [wpOpsIn_cons]
  refine value_op (v := .pointer (some ⟨w1.heap.size, 0, none⟩)) (w' := w1.alloc (.mapIter (some g) clock #[] clock)) rfl rfl (by intro c e; cases e) (by
    simp only [execOp, he4, Sem.run_bind, run_range_map (P := Try.prog) Try.underlying59 hh1, Result.andThen_ok, Sem.run_pure, envOf_P]) ?_
  have hst : Step (fun _ => False) m1 w1 m1 (w1.alloc (.mapIter (some g) clock #[] clock)) := Step.of_below hbl (fun _ _ => rfl)
  have h2 : Two (envOf []) 14 (fun k => O k ∨ k = g) m w (KeyFr A g w1.heap.size ents clock (m g) [] []) ((stOf [(0, .x (.func (.yield l) #[] #[])), (4, .x (.map (some g)))] []).put (some 5) (V.x (.pointer (some ⟨w1.heap.size, 0, none⟩))).bare) (a.put (some 5) (.pointer (some ⟨w1.heap.size, 0, none⟩))) (w1.alloc (.mapIter (some g) clock #[] clock)) :=
    Two.raw (A' := KeyFr A g w1.heap.size ents clock (m g) [] []) (S := fun _ => False) (O' := fun k => O1 k ∨ k = g ∨ k = w1.heap.size) hn hst (fun _ _ h => h) hJ1
      ⟨O1, (hA []).stab _ _ _ _ _ _ ha hst (fun _ _ h => h) hJ1, hO1g, hO1r, hgr, fun _ => Iff.rfl, (Below.heap_alloc _ _ _ (heap_lt hh1)).trans hh1, hsg.2, World.heap_new _ _⟩
      (fun k hk ho => by
        rcases hk with hk | rfl | rfl
        · exact hdis k hk ho
        · exact absurd hgw (Nat.not_lt.2 (h4 _ ho))
        · exact Nat.lt_irrefl _ (hn.lt _ ho)) h4 (fun k hk => by
        rcases hk with hk | rfl | rfl
        · rcases h5 k hk with h | h
          · exact .inl (.inl h)
          · exact .inr h
        · exact .inl (.inr rfl)
        · exact .inr h6.ext.size) (h6.mono (fun k _ h => .inl h)) (fun _ _ h => h.elim) (by decide) (.x _)
  generalize w1.heap.size = r at h2 hgr hKr
  clear hn ha hdis h4 h5 h6 hO1g hO1r he4 hst hJ1 hbl hh1
  generalize w1.alloc _ = w2 at h2 ⊢
  have hH : ∀ (B : List (List V) → (Nat → Prop) → Lim → World → Prop) (hB : ∀ pre, Holds (envOf []) (B pre)) (sp sq : List (MapEntry × V)), Holds (envOf []) (KeyFr B g r ents clock (m g) sp sq) := fun B hB sp sq => KeyFr.holds hB hKg hKr
  replace h2 := h2.le (st' := stOf [(0, .x (.func (.yield l) #[] #[])), (5, .x (.pointer (some ⟨r, 0, none⟩)))] []) (le_stOf (by simp (decide := true) (maxDischargeDepth := 200) only [go_sem, Nat.reduceBEq] <;> (repeat' first | rfl | constructor)) trivial)
  refine (show wpOpsIn (fen none) 0 _ _ _ [] _ _ from ?_)
  refine wpIn_block ?_
  refine wpIn_loopX (X := List (MapEntry × V)) (fun sp a' w' => (∀ p ∈ sp, p ∈ ps) ∧ (sp.map fun p => p.1.born).Nodup ∧ Two (envOf []) 14 (fun k => O k ∨ k = g) m w (KeyFr A g r ents clock (m g) sp sp) (stOf [(0, .x (.func (.yield l) #[] #[])), (5, .x (.pointer (some ⟨r, 0, none⟩)))] []) a' w') (fun sp => (ents.toList.filter fun e => !(sp.map fun p => p.1.born).contains e.born).length) [] ⟨(fun p hp => by cases hp), List.nodup_nil, h2⟩ ?_
  clear h2 w2
  rintro sp a2 w2 ⟨hsub, hspn, h2⟩
  refine wpIn_seq (wpIn_region ?_)
  show wpOpsIn (fen none) 0 _ _ _ (0 :: List.range' 1 1 ++ []) _ _
  rw [List.cons_append, wpOpsIn_cons]
  obtain ⟨m2, Oi, O2, hn, hfr, hdis, h4, h5, h6⟩ := h2
  have hfr' := hfr
  obtain ⟨O1, k1, k2, k3, k4, k5, k6, k7, k8⟩ := hfr'
  have he5 : a2.eval (.tmp 5) = .pointer (some ⟨r, 0, none⟩) := hn.read_x 5 (by simp only [go_sem, Nat.reduceEqDiff, if_false, if_true, tOf, stOf])
  have hcont : ∀ b : Nat, ((sp.map fun p => p.1.born).toArray.contains b) = (sp.map fun p => p.1.born).contains b := fun b => by simp
  rcases run_next_at (P := Try.prog) w2 0 r g clock clock _ ents clock k8 k6 hlt (Nat.le_refl _) with ⟨hz, hrun⟩ | ⟨e, he, w3, hw3, hrun⟩
  · -- nothing is left
    refine value_op (v := .tuple #[.bool false]) (w' := w2) rfl rfl (by intro c e; cases e) (by simp only [execOp, he5, Sem.run_bind, envOf_P]; rw [hrun]; rfl) ?_
    have h3 := Two.raw (A' := KeyFr A g r ents clock (m g) sp sp) (S := fun _ => False) (d := 6) (v := .tuple #[.bool false]) (u := .tup [.x (.bool false)]) hn (Step.refl _ _ _) (fun _ _ h => h) hn.J hfr hdis h4 h5 h6 (fun _ _ h => h.elim) (by decide) (Rd.tup_iff.2 ⟨_, rfl, .x _, trivial⟩)
    rw [bare_tup] at h3
    refine ops_S hE (hH A hA sp sp) 1 1 [(7, .x (.bool false))] [] [] (by decide) (by kernel_rfl) h3 (by simp (decide := true) (maxDischargeDepth := 200) only [go_sem, Nat.reduceBEq] <;> (repeat' first | rfl | constructor)) ?_
    clear h3
    intro a3 w3 h3
    refine wpIn_seq (two_X hE hm' (hH A hA sp sp) 0 [] [] (by kernel_rfl) h3 (by simp (decide := true) (maxDischargeDepth := 200) only [go_sem, Nat.reduceBEq] <;> (repeat' first | rfl | constructor)) ?_)
    clear h3 a3 w3
    intro a3 w3 h3
    have hperm : sp.Perm ps := all_come hpb hsub hspn (fun p hp => by
      have hz' : Go.leftOf ents (sp.map fun p => p.1.born).toArray = #[] := Array.eq_empty_of_size_eq_zero hz
      have : p.1 ∈ ents.toList := by rw [← hp1]; exact List.mem_map.2 ⟨p, hp, rfl⟩
      unfold Go.leftOf at hz'
      rw [Array.filter_eq_empty_iff] at hz'
      have := hz' p.1 (by simpa using this)
      rw [hcont] at this
      simpa using this)
    exact ⟨.inl rfl, .inl ⟨_, _, ⟨sp.map fun p => p.2, by rw [List.map_map]; rfl, by rw [← hp2]; exact hperm.map _⟩, Two.unframe h3 hh rfl hOg⟩⟩
  · -- an entry has come
    obtain ⟨hem, hnew⟩ := mem_left he
    rw [hcont] at hnew
    obtain ⟨pe, hpe, rfl⟩ : ∃ p ∈ ps, p.1 = e := by
      rw [← hp1] at hem
      obtain ⟨p, hp, rfl⟩ := List.mem_map.1 hem
      exact ⟨p, hp, rfl⟩
    obtain ⟨e, kv⟩ := pe
    simp only at hem hnew hrun
    have hkey := hpk _ hpe
    simp only at hkey
    have hkin : kv ∈ ks := by rw [← hp2]; exact List.mem_map.2 ⟨_, hpe, rfl⟩
    obtain ⟨pc, rfl⟩ := hks kv hkin
    have hkrd : ∀ (m : Lim) (w : World), Rd m w e.key (cellV pc) := fun m w => by
      have hk2 : (cellV pc).val = some e.key := hkey
      simp only [V.val, cellV, List.mapM_cons, V.one, List.mapM_nil, Option.pure_def, Option.bind_eq_bind, Option.bind_some, Option.map_some, Option.some.injEq] at hk2
      rw [← hk2]
      exact Rd.agg_iff.2 ⟨_, rfl, .x _, .x _, .x _, trivial⟩
    have hseen : (sp.map fun p => p.1.born).toArray.push e.born = ((sp ++ [(e, cellV pc)]).map fun p => p.1.born).toArray := by simp
    rw [hseen] at hrun
    have hs3 : Step (fun k => k = r) m2 w2 m2 (setBlock w3 r (.mapIter (some g) clock ((sp ++ [(e, cellV pc)]).map fun p => p.1.born).toArray clock)) := Step.iter hw3 k8
    have hr3 := setBlock_same (o := .mapIter (some g) clock ((sp ++ [(e, cellV pc)]).map fun p => p.1.born).toArray clock) hw3 k8
    have hJ3 : (envOf []).J (setBlock w3 r (.mapIter (some g) clock ((sp ++ [(e, cellV pc)]).map fun p => p.1.born).toArray clock)) := hE.keep [r] _ _ (fun x hx => by rw [List.mem_singleton.1 hx]; exact hKr) hn.J (hs3.bel (fun k _ h => List.mem_singleton.2 h))
    refine value_op (v := .tuple #[.bool true, e.key, e.val]) (w' := setBlock w3 r (.mapIter (some g) clock ((sp ++ [(e, cellV pc)]).map fun p => p.1.born).toArray clock)) rfl rfl (by intro c e; cases e) (by simp only [execOp, he5, Sem.run_bind, envOf_P]; rw [hrun]; rfl) ?_
    have hOr : O2 r := (k5 r).2 (.inr (.inr rfl))
    have h3 := Two.raw (A' := KeyFr A g r ents clock (m g) sp (sp ++ [(e, cellV pc)])) (S := fun k => k = r) (d := 6) (v := .tuple #[.bool true, e.key, e.val]) (u := .tup [.x (.bool true), .undef, .undef]) hn hs3 (fun k hk h => hdis r hOr (h ▸ hk)) hJ3
      ⟨O1, (hA _).stab _ _ _ _ _ _ k1 hs3 (fun k hk h => k3 (h ▸ hk)) hJ3, k2, k3, k4, k5, (hs3.same g (heap_lt k6) k4).1.trans k6, k7, hr3⟩ hdis h4 h5 h6 (fun i hi h => by
        subst h
        rcases h5 _ hOr with h | h
        · exact h
        · exact absurd hi (Nat.not_lt.2 h)) (by decide) (Rd.tup_iff.2 ⟨_, rfl, .x _, .undef _, .undef _, trivial⟩)
    rw [bare_tup] at h3
    clear hn hfr hdis h4 h5 h6 k1 k5 k6 k8 hs3 hr3 hJ3 hOr hrun he5 hw3 k2 k3 k7 k4
    generalize setBlock w3 r _ = w4 at h3
    refine ops_S hE (hH A hA sp _) 1 1 [(0, .x (.func (.yield l) #[] #[])), (5, .x (.pointer (some ⟨r, 0, none⟩))), (7, .x (.bool true))] [] [] (by decide) (by kernel_rfl) h3 (by simp (decide := true) (maxDischargeDepth := 200) only [go_sem, Nat.reduceBEq] <;> (repeat' first | rfl | constructor)) ?_
    clear h3
    intro a3 w5 h3
    refine wpIn_seq (two_T hE hm' (hH A hA sp _) [(0, .x (.func (.yield l) #[] #[])), (5, .x (.pointer (some ⟨r, 0, none⟩)))] [] (by kernel_rfl) h3 (by simp (decide := true) (maxDischargeDepth := 200) only [go_sem, Nat.reduceBEq] <;> (repeat' first | rfl | constructor)) ?_)
    clear h3 a3 w5
    intro a3 w5 h3
    refine wpIn_block (wpIn_seq (wpIn_region ?_))
    show wpOpsIn (fen none) 0 _ _ _ (0 :: List.range' 1 3 ++ []) _ _
    rw [List.cons_append, wpOpsIn_cons]
    obtain ⟨m2, Oi, O2, hn, hfr, hdis, h4, h5, h6⟩ := h3
    have hfr' := hfr
    obtain ⟨O1, k1, k2, k3, k4, k5, k6, k7, k8⟩ := hfr'
    have he5 : a3.eval (.tmp 5) = .pointer (some ⟨r, 0, none⟩) := hn.read_x 5 (by simp only [go_sem, Nat.reduceEqDiff, if_false, if_true, tOf, stOf])
    have hen := run_entry_at (P := Try.prog) w5 r g clock (sp.map fun p => p.1.born).toArray ents clock e (by rw [hseen]; exact k8) k6 hem hnd
    refine value_op (v := .tuple #[e.key, e.val]) (w' := w5) rfl rfl (by intro c e; cases e) (by simp only [execOp, he5, Sem.run_bind, envOf_P]; rw [hen]; rfl) ?_
    have h3 := Two.raw (A' := KeyFr A g r ents clock (m g) sp (sp ++ [(e, cellV pc)])) (S := fun _ => False) (d := 8) (v := .tuple #[e.key, e.val]) (u := .tup [cellV pc, .undef]) hn (Step.refl _ _ _) (fun _ _ h => h) hn.J hfr hdis h4 h5 h6 (fun _ _ h => h.elim) (by decide) (Rd.tup_iff.2 ⟨_, rfl, hkrd _ _, .undef _, trivial⟩)
    rw [bare_tup] at h3
    clear hn hfr hdis h4 h5 h6 k1 k5 k6 k8 he5 hen k2 k3 k4 k7
    refine ops_S hE (hH A hA sp _) 1 3 [(0, .x (.func (.yield l) #[] #[])), (5, .x (.pointer (some ⟨r, 0, none⟩))), (3, .ptr 3 0)] [(3, [.x (.string pc.1), .x (.int .i64 pc.2.1), .x (.int .i64 pc.2.2)])] [] (by decide) (by kernel_rfl) h3 (by simp (decide := true) (maxDischargeDepth := 200) only [go_sem, Nat.reduceBEq, cellV] <;> (repeat' first | rfl | constructor)) ?_
    clear h3 a3 w5
    intro a3 w5 h3
    refine wpIn_seq (wpIn_region ?_)
    refine ops_S hE (hH A hA sp _) 0 2 [(0, .x (.func (.yield l) #[] #[])), (5, .x (.pointer (some ⟨r, 0, none⟩))), (10, .x (.func (.yield l) #[] #[])), (11, cellV pc)] [] [2, 3] (by decide) (by kernel_rfl) h3 (by simp (decide := true) (maxDischargeDepth := 200) only [go_sem, Nat.reduceBEq, cellV] <;> (repeat' first | rfl | constructor)) ?_
    clear h3 a3 w5
    intro a3 w5 h3
    rw [wpOpsIn_cons]
    have hsub2 : ∀ p ∈ sp ++ [(e, cellV pc)], p ∈ ps := fun p hp => by
      rcases List.mem_append.1 hp with hp | hp
      · exact hsub p hp
      · rw [List.mem_singleton.1 hp]; exact hpe
    have hspn2 : ((sp ++ [(e, cellV pc)]).map fun p => p.1.born).Nodup := by
      rw [List.map_append, List.nodup_append]
      refine ⟨hspn, by simp, fun b hb c hc e1 => ?_⟩
      have hc1 : c = e.born := by simpa using hc
      subst hc1
      subst e1
      have : (sp.map fun p => p.1.born).contains e.born = true := by simpa using hb
      rw [this] at hnew
      cases hnew
    have hokp : OkK ks ((sp.map fun p => [p.2]) ++ [[cellV pc]]) := ⟨(sp ++ [(e, cellV pc)]).map (fun p => p.2), by simp, fun k hk => by
      obtain ⟨p, hp, rfl⟩ := List.mem_map.1 hk
      rw [← hp2]
      exact List.mem_map.2 ⟨p, hsub2 p hp, rfl⟩, by rw [List.length_map, ← hp2, List.length_map]; exact nodup_len (nodup_of_map _ hspn2) hsub2⟩
    have hmap : ((sp ++ [(e, cellV pc)]).map fun p => [p.2]) = (sp.map fun p => [p.2]) ++ [[cellV pc]] := by simp
    refine yield_two (n := 14) (A1 := KeyFr A g r ents clock (m g) (sp ++ [(e, cellV pc)]) (sp ++ [(e, cellV pc)])) (Ax := KeyFr Ax g r ents clock (m g) (sp ++ [(e, cellV pc)]) (sp ++ [(e, cellV pc)])) (l := l) rfl (d := 12) rfl (by decide) rfl rfl rfl h3 (u := cellV pc) rfl (by rw [cellV, bare_agg]; rfl) (fun Of m1 w6 vs hfr hv => ?_) ?_ ?_
    · obtain ⟨O1, k1, k2, k3, k4, k5, k6, k7, k8⟩ := hfr
      refine KeyFr.yield (fun O1 k1 => ?_) O1 k1 k2 k3 k4 k5 k6 k7 k8
      rw [hmap]
      exact hy _ _ O1 m1 w6 vs hokp k1 (by rw [cellV, bare_agg] at hv; exact hv) rfl
    · clear h3 a3 w5
      intro a3 w5 h3
      refine ops_S hE (hH A hA _ _) 3 1 [(0, .x (.func (.yield l) #[] #[])), (5, .x (.pointer (some ⟨r, 0, none⟩))), (13, .x (.bool false))] [] [] (by decide) (by kernel_rfl) h3 (by simp (decide := true) (maxDischargeDepth := 200) only [go_sem, Nat.reduceBEq] <;> (repeat' first | rfl | constructor)) ?_
      clear h3 a3 w5
      intro a3 w5 h3
      refine two_T hE hm' (hH A hA _ _) [(0, .x (.func (.yield l) #[] #[])), (5, .x (.pointer (some ⟨r, 0, none⟩)))] [] (by kernel_rfl) h3 (by simp (decide := true) (maxDischargeDepth := 200) only [go_sem, Nat.reduceBEq] <;> (repeat' first | rfl | constructor)) ?_
      clear h3 a3 w5
      intro a3 w5 h3
      refine ⟨sp ++ [(e, cellV pc)], ⟨hsub2, hspn2, h3⟩, ?_⟩
      refine filter_less (fun e' => !(sp.map fun p => p.1.born).contains e'.born) (fun e' => !((sp ++ [(e, cellV pc)]).map fun p => p.1.born).contains e'.born) (fun y hy => ?_) _ e hem (by rw [hnew]; rfl) (by simp)
      simp only [List.map_append, List.contains_append, Bool.not_or, Bool.and_eq_true] at hy
      exact hy.1
    · clear h3 a3 w5
      intro a3 w5 h3
      refine ops_S hE (hH Ax hX _ _) 3 1 [(13, .x (.bool true))] [] [] (by decide) (by kernel_rfl) h3 (by simp (decide := true) (maxDischargeDepth := 200) only [go_sem, Nat.reduceBEq] <;> (repeat' first | rfl | constructor)) ?_
      clear h3 a3 w5
      intro a3 w5 h3
      refine two_R hE hm' (hH Ax hX _ _) [] [] (by kernel_rfl) h3 (by simp (decide := true) (maxDischargeDepth := 200) only [go_sem, Nat.reduceBEq] <;> (repeat' first | rfl | constructor)) ?_
      clear h3 a3 w5
      intro a3 w5 h3
      exact ⟨.inr rfl, .inr ⟨_, _, Two.unframe h3 hh rfl hOg⟩⟩
set_option maxHeartbeats 8000000 in
set_option maxRecDepth 100000 in
theorem keysS_iter {m : Lim} {w : World} {lb : Array Value} {g : Nat} {ks vs : List V} (hks : ∀ k ∈ ks, ∃ s : ByteArray, k = .x (.string s)) (hm : MapAt m w g ks vs) (hr : RdL m w lb.toList [.ip [.x (.map (some g))]]) (hKg : globK ≤ g) : IterAt (envOf []) (fun k => k = g) 38 lb (OkK ks) (DoneK ks) m w := by
  obtain ⟨ents, clock, hh, hrd, hlt, hnd⟩ := hm
  have hgw := heap_lt hh
  obtain ⟨ps, hps⟩ : ∃ ps, ps = ents.toList.zip ks := ⟨_, rfl⟩
  have hlen := hrd.len.1
  have hp1 : ps.map (fun p => p.1) = ents.toList := by rw [hps]; exact List.map_fst_zip (by omega)
  have hp2 : ps.map (fun p => p.2) = ks := by rw [hps]; exact List.map_snd_zip (by omega)
  have hpb : (ps.map fun p => p.1.born).Nodup := by
    have : (ps.map fun p => p.1.born) = (ps.map fun p => p.1).map (·.born) := by rw [List.map_map]; rfl
    rw [this, hp1]; exact hnd
  have hpk : ∀ p ∈ ps, p.2.val = some p.1.key := fun p hp => by
    obtain ⟨i, hi⟩ := List.getElem?_of_mem hp
    rw [hps, List.getElem?_zip_eq_some] at hi
    obtain ⟨k, v, q1, _, q2, _⟩ := hrd.get i p.1 hi.1
    rw [q1] at hi
    cases hi.2
    exact q2.2
  refine iter_of (E := envOf []) (n := 14) (us := [.ip [.x (.map (some g))]]) Try.func38 rfl Try.ntmps38 Try.results38 (by simp) (by decide) hr rfl (fun g => .undef _) ?_
  intro l A Ax a0 O hA hX hy h0 hOG
  have hE : EnvOK (envOf []) := envOK_of _ trivial
  have hm' : (envOf []).P.follows .mixedOrders = true := by kernel_rfl
  refine wpIn_seq (wpIn_region ?_)
  refine ops_S hE (hA []) 0 1 [(0, .x (.func (.yield l) #[] #[])), (4, .x (.map (some g)))] [] [1] (by decide) (by kernel_rfl) h0 (by simp (decide := true) (maxDischargeDepth := 200) only [go_sem, Nat.reduceBEq] <;> (repeat' first | rfl | constructor)) ?_
  clear h0 a0
  intro a w1 h1
  obtain ⟨m1, Oi, O1, hn, ha, hdis, h4, h5, h6⟩ := h1
  have hOg : ¬ O g := fun h => hOG g h rfl
  have hsg := h6.same g hgw hOg
  have hh1 : w1.heap[g]? = some (.map ents clock) := hsg.1.trans hh
  have he4 : a.eval (.tmp 4) = .map (some g) := hn.read_x 4 (by simp only [go_sem, Nat.reduceEqDiff, if_false, if_true, tOf, stOf])
  have hO1g : ¬ O1 g := fun h => by rcases h5 g h with h | h; exact hOg h; exact absurd hgw (Nat.not_lt.2 h)
  have hbl : Below w1.heap.size w1 (w1.alloc (.mapIter (some g) clock #[] clock)) := (Below.refl _ w1).alloc (Nat.le_refl _) _
  have hJ1 : (envOf []).J (w1.alloc (.mapIter (some g) clock #[] clock)) := hE.keep [] _ _ (fun x hx => by cases hx) hn.J ⟨hbl.os, hbl.tape, hbl.output, hbl.size, fun k hk _ => hbl.block k hk⟩
  have hO1r : ¬ O1 w1.heap.size := fun h => Nat.lt_irrefl _ ((hA []).lt _ _ _ ha _ h).1
  have hKr : (envOf []).K ≤ w1.heap.size := hE.high _ hn.J
  have hgr : g ≠ w1.heap.size := by have := heap_lt hh1; omega
  rw [wpOpsIn_cons]
  refine value_op (v := .pointer (some ⟨w1.heap.size, 0, none⟩)) (w' := w1.alloc (.mapIter (some g) clock #[] clock)) rfl rfl (by intro c e; cases e) (by
    simp only [execOp, he4, Sem.run_bind, run_range_map (P := Try.prog) Try.underlying48 hh1, Result.andThen_ok, Sem.run_pure, envOf_P]) ?_
  have hst : Step (fun _ => False) m1 w1 m1 (w1.alloc (.mapIter (some g) clock #[] clock)) := Step.of_below hbl (fun _ _ => rfl)
  have h2 : Two (envOf []) 14 (fun k => O k ∨ k = g) m w (KeyFr A g w1.heap.size ents clock (m g) [] []) ((stOf [(0, .x (.func (.yield l) #[] #[])), (4, .x (.map (some g)))] []).put (some 5) (V.x (.pointer (some ⟨w1.heap.size, 0, none⟩))).bare) (a.put (some 5) (.pointer (some ⟨w1.heap.size, 0, none⟩))) (w1.alloc (.mapIter (some g) clock #[] clock)) :=
    Two.raw (A' := KeyFr A g w1.heap.size ents clock (m g) [] []) (S := fun _ => False) (O' := fun k => O1 k ∨ k = g ∨ k = w1.heap.size) hn hst (fun _ _ h => h) hJ1
      ⟨O1, (hA []).stab _ _ _ _ _ _ ha hst (fun _ _ h => h) hJ1, hO1g, hO1r, hgr, fun _ => Iff.rfl, (Below.heap_alloc _ _ _ (heap_lt hh1)).trans hh1, hsg.2, World.heap_new _ _⟩
      (fun k hk ho => by
        rcases hk with hk | rfl | rfl
        · exact hdis k hk ho
        · exact absurd hgw (Nat.not_lt.2 (h4 _ ho))
        · exact Nat.lt_irrefl _ (hn.lt _ ho)) h4 (fun k hk => by
        rcases hk with hk | rfl | rfl
        · rcases h5 k hk with h | h
          · exact .inl (.inl h)
          · exact .inr h
        · exact .inl (.inr rfl)
        · exact .inr h6.ext.size) (h6.mono (fun k _ h => .inl h)) (fun _ _ h => h.elim) (by decide) (.x _)
  generalize w1.heap.size = r at h2 hgr hKr
  clear hn ha hdis h4 h5 h6 hO1g hO1r he4 hst hJ1 hbl hh1
  generalize w1.alloc _ = w2 at h2 ⊢
  have hH : ∀ (B : List (List V) → (Nat → Prop) → Lim → World → Prop) (hB : ∀ pre, Holds (envOf []) (B pre)) (sp sq : List (MapEntry × V)), Holds (envOf []) (KeyFr B g r ents clock (m g) sp sq) := fun B hB sp sq => KeyFr.holds hB hKg hKr
  replace h2 := h2.le (st' := stOf [(0, .x (.func (.yield l) #[] #[])), (5, .x (.pointer (some ⟨r, 0, none⟩)))] []) (le_stOf (by simp (decide := true) (maxDischargeDepth := 200) only [go_sem, Nat.reduceBEq] <;> (repeat' first | rfl | constructor)) trivial)
  refine (show wpOpsIn (fen none) 0 _ _ _ [] _ _ from ?_)
  refine wpIn_block ?_
  refine wpIn_loopX (X := List (MapEntry × V)) (fun sp a' w' => (∀ p ∈ sp, p ∈ ps) ∧ (sp.map fun p => p.1.born).Nodup ∧ Two (envOf []) 14 (fun k => O k ∨ k = g) m w (KeyFr A g r ents clock (m g) sp sp) (stOf [(0, .x (.func (.yield l) #[] #[])), (5, .x (.pointer (some ⟨r, 0, none⟩)))] []) a' w') (fun sp => (ents.toList.filter fun e => !(sp.map fun p => p.1.born).contains e.born).length) [] ⟨(fun p hp => by cases hp), List.nodup_nil, h2⟩ ?_
  clear h2 w2
  rintro sp a2 w2 ⟨hsub, hspn, h2⟩
  refine wpIn_seq (wpIn_region ?_)
  show wpOpsIn (fen none) 0 _ _ _ (0 :: List.range' 1 1 ++ []) _ _
  rw [List.cons_append, wpOpsIn_cons]
  obtain ⟨m2, Oi, O2, hn, hfr, hdis, h4, h5, h6⟩ := h2
  have hfr' := hfr
  obtain ⟨O1, k1, k2, k3, k4, k5, k6, k7, k8⟩ := hfr'
  have he5 : a2.eval (.tmp 5) = .pointer (some ⟨r, 0, none⟩) := hn.read_x 5 (by simp only [go_sem, Nat.reduceEqDiff, if_false, if_true, tOf, stOf])
  have hcont : ∀ b : Nat, ((sp.map fun p => p.1.born).toArray.contains b) = (sp.map fun p => p.1.born).contains b := fun b => by simp
  rcases run_next_at (P := Try.prog) w2 0 r g clock clock _ ents clock k8 k6 hlt (Nat.le_refl _) with ⟨hz, hrun⟩ | ⟨e, he, w3, hw3, hrun⟩
  · -- nothing is left
    refine value_op (v := .tuple #[.bool false]) (w' := w2) rfl rfl (by intro c e; cases e) (by simp only [execOp, he5, Sem.run_bind, envOf_P]; rw [hrun]; rfl) ?_
    have h3 := Two.raw (A' := KeyFr A g r ents clock (m g) sp sp) (S := fun _ => False) (d := 6) (v := .tuple #[.bool false]) (u := .tup [.x (.bool false)]) hn (Step.refl _ _ _) (fun _ _ h => h) hn.J hfr hdis h4 h5 h6 (fun _ _ h => h.elim) (by decide) (Rd.tup_iff.2 ⟨_, rfl, .x _, trivial⟩)
    rw [bare_tup] at h3
    refine ops_S hE (hH A hA sp sp) 1 1 [(7, .x (.bool false))] [] [] (by decide) (by kernel_rfl) h3 (by simp (decide := true) (maxDischargeDepth := 200) only [go_sem, Nat.reduceBEq] <;> (repeat' first | rfl | constructor)) ?_
    clear h3
    intro a3 w3 h3
    refine wpIn_seq (two_X hE hm' (hH A hA sp sp) 0 [] [] (by kernel_rfl) h3 (by simp (decide := true) (maxDischargeDepth := 200) only [go_sem, Nat.reduceBEq] <;> (repeat' first | rfl | constructor)) ?_)
    clear h3 a3 w3
    intro a3 w3 h3
    have hperm : sp.Perm ps := all_come hpb hsub hspn (fun p hp => by
      have hz' : Go.leftOf ents (sp.map fun p => p.1.born).toArray = #[] := Array.eq_empty_of_size_eq_zero hz
      have : p.1 ∈ ents.toList := by rw [← hp1]; exact List.mem_map.2 ⟨p, hp, rfl⟩
      unfold Go.leftOf at hz'
      rw [Array.filter_eq_empty_iff] at hz'
      have := hz' p.1 (by simpa using this)
      rw [hcont] at this
      simpa using this)
    exact ⟨.inl rfl, .inl ⟨_, _, ⟨sp.map fun p => p.2, by rw [List.map_map]; rfl, by rw [← hp2]; exact hperm.map _⟩, Two.unframe h3 hh rfl hOg⟩⟩
  · -- an entry has come
    obtain ⟨hem, hnew⟩ := mem_left he
    rw [hcont] at hnew
    obtain ⟨pe, hpe, rfl⟩ : ∃ p ∈ ps, p.1 = e := by
      rw [← hp1] at hem
      obtain ⟨p, hp, rfl⟩ := List.mem_map.1 hem
      exact ⟨p, hp, rfl⟩
    obtain ⟨e, kv⟩ := pe
    simp only at hem hnew hrun
    have hkey := hpk _ hpe
    simp only at hkey
    have hkin : kv ∈ ks := by rw [← hp2]; exact List.mem_map.2 ⟨_, hpe, rfl⟩
    obtain ⟨s, rfl⟩ := hks kv hkin
    have hkrd : ∀ (m : Lim) (w : World), Rd m w e.key (V.x (.string s)) := fun m w => by
      have hk2 : (V.x (.string s)).val = some e.key := hkey
      simp only [V.val, Option.some.injEq] at hk2
      rw [← hk2]
      exact .x _
    have hseen : (sp.map fun p => p.1.born).toArray.push e.born = ((sp ++ [(e, V.x (.string s))]).map fun p => p.1.born).toArray := by simp
    rw [hseen] at hrun
    have hs3 : Step (fun k => k = r) m2 w2 m2 (setBlock w3 r (.mapIter (some g) clock ((sp ++ [(e, V.x (.string s))]).map fun p => p.1.born).toArray clock)) := Step.iter hw3 k8
    have hr3 := setBlock_same (o := .mapIter (some g) clock ((sp ++ [(e, V.x (.string s))]).map fun p => p.1.born).toArray clock) hw3 k8
    have hJ3 : (envOf []).J (setBlock w3 r (.mapIter (some g) clock ((sp ++ [(e, V.x (.string s))]).map fun p => p.1.born).toArray clock)) := hE.keep [r] _ _ (fun x hx => by rw [List.mem_singleton.1 hx]; exact hKr) hn.J (hs3.bel (fun k _ h => List.mem_singleton.2 h))
    refine value_op (v := .tuple #[.bool true, e.key, e.val]) (w' := setBlock w3 r (.mapIter (some g) clock ((sp ++ [(e, V.x (.string s))]).map fun p => p.1.born).toArray clock)) rfl rfl (by intro c e; cases e) (by simp only [execOp, he5, Sem.run_bind, envOf_P]; rw [hrun]; rfl) ?_
    have hOr : O2 r := (k5 r).2 (.inr (.inr rfl))
    have h3 := Two.raw (A' := KeyFr A g r ents clock (m g) sp (sp ++ [(e, V.x (.string s))])) (S := fun k => k = r) (d := 6) (v := .tuple #[.bool true, e.key, e.val]) (u := .tup [.x (.bool true), .undef, .undef]) hn hs3 (fun k hk h => hdis r hOr (h ▸ hk)) hJ3
      ⟨O1, (hA _).stab _ _ _ _ _ _ k1 hs3 (fun k hk h => k3 (h ▸ hk)) hJ3, k2, k3, k4, k5, (hs3.same g (heap_lt k6) k4).1.trans k6, k7, hr3⟩ hdis h4 h5 h6 (fun i hi h => by
        subst h
        rcases h5 _ hOr with h | h
        · exact h
        · exact absurd hi (Nat.not_lt.2 h)) (by decide) (Rd.tup_iff.2 ⟨_, rfl, .x _, .undef _, .undef _, trivial⟩)
    rw [bare_tup] at h3
    clear hn hfr hdis h4 h5 h6 k1 k5 k6 k8 hs3 hr3 hJ3 hOr hrun he5 hw3 k2 k3 k7 k4
    generalize setBlock w3 r _ = w4 at h3
    refine ops_S hE (hH A hA sp _) 1 1 [(0, .x (.func (.yield l) #[] #[])), (5, .x (.pointer (some ⟨r, 0, none⟩))), (7, .x (.bool true))] [] [] (by decide) (by kernel_rfl) h3 (by simp (decide := true) (maxDischargeDepth := 200) only [go_sem, Nat.reduceBEq] <;> (repeat' first | rfl | constructor)) ?_
    clear h3
    intro a3 w5 h3
    refine wpIn_seq (two_T hE hm' (hH A hA sp _) [(0, .x (.func (.yield l) #[] #[])), (5, .x (.pointer (some ⟨r, 0, none⟩)))] [] (by kernel_rfl) h3 (by simp (decide := true) (maxDischargeDepth := 200) only [go_sem, Nat.reduceBEq] <;> (repeat' first | rfl | constructor)) ?_)
    clear h3 a3 w5
    intro a3 w5 h3
    refine wpIn_block (wpIn_seq (wpIn_region ?_))
    show wpOpsIn (fen none) 0 _ _ _ (0 :: List.range' 1 2 ++ []) _ _
    rw [List.cons_append, wpOpsIn_cons]
    obtain ⟨m2, Oi, O2, hn, hfr, hdis, h4, h5, h6⟩ := h3
    have hfr' := hfr
    obtain ⟨O1, k1, k2, k3, k4, k5, k6, k7, k8⟩ := hfr'
    have he5 : a3.eval (.tmp 5) = .pointer (some ⟨r, 0, none⟩) := hn.read_x 5 (by simp only [go_sem, Nat.reduceEqDiff, if_false, if_true, tOf, stOf])
    have hen := run_entry_at (P := Try.prog) w5 r g clock (sp.map fun p => p.1.born).toArray ents clock e (by rw [hseen]; exact k8) k6 hem hnd
    refine value_op (v := .tuple #[e.key, e.val]) (w' := w5) rfl rfl (by intro c e; cases e) (by simp only [execOp, he5, Sem.run_bind, envOf_P]; rw [hen]; rfl) ?_
    have h3 := Two.raw (A' := KeyFr A g r ents clock (m g) sp (sp ++ [(e, V.x (.string s))])) (S := fun _ => False) (d := 8) (v := .tuple #[e.key, e.val]) (u := .tup [V.x (.string s), .undef]) hn (Step.refl _ _ _) (fun _ _ h => h) hn.J hfr hdis h4 h5 h6 (fun _ _ h => h.elim) (by decide) (Rd.tup_iff.2 ⟨_, rfl, hkrd _ _, .undef _, trivial⟩)
    rw [bare_tup] at h3
    clear hn hfr hdis h4 h5 h6 k1 k5 k6 k8 he5 hen k2 k3 k4 k7
    refine ops_S hE (hH A hA sp _) 1 2 [(0, .x (.func (.yield l) #[] #[])), (5, .x (.pointer (some ⟨r, 0, none⟩))), (3, .x (.string s))] [] [] (by decide) (by kernel_rfl) h3 (by simp (decide := true) (maxDischargeDepth := 200) only [go_sem, Nat.reduceBEq, List.nil_append] <;> (repeat' first | rfl | constructor)) ?_
    clear h3 a3 w5
    intro a3 w5 h3
    refine wpIn_seq (wpIn_region ?_)
    refine ops_S hE (hH A hA sp _) 0 2 [(0, .x (.func (.yield l) #[] #[])), (5, .x (.pointer (some ⟨r, 0, none⟩))), (10, .x (.func (.yield l) #[] #[])), (11, V.x (.string s))] [] [2, 3] (by decide) (by kernel_rfl) h3 (by simp (decide := true) (maxDischargeDepth := 200) only [go_sem, Nat.reduceBEq, List.nil_append] <;> (repeat' first | rfl | constructor)) ?_
    clear h3 a3 w5
    intro a3 w5 h3
    rw [wpOpsIn_cons]
    have hsub2 : ∀ p ∈ sp ++ [(e, V.x (.string s))], p ∈ ps := fun p hp => by
      rcases List.mem_append.1 hp with hp | hp
      · exact hsub p hp
      · rw [List.mem_singleton.1 hp]; exact hpe
    have hspn2 : ((sp ++ [(e, V.x (.string s))]).map fun p => p.1.born).Nodup := by
      rw [List.map_append, List.nodup_append]
      refine ⟨hspn, by simp, fun b hb c hc e1 => ?_⟩
      have hc1 : c = e.born := by simpa using hc
      subst hc1
      subst e1
      have : (sp.map fun p => p.1.born).contains e.born = true := by simpa using hb
      rw [this] at hnew
      cases hnew
    have hokp : OkK ks ((sp.map fun p => [p.2]) ++ [[V.x (.string s)]]) := ⟨(sp ++ [(e, V.x (.string s))]).map (fun p => p.2), by simp, fun k hk => by
      obtain ⟨p, hp, rfl⟩ := List.mem_map.1 hk
      rw [← hp2]
      exact List.mem_map.2 ⟨p, hsub2 p hp, rfl⟩, by rw [List.length_map, ← hp2, List.length_map]; exact nodup_len (nodup_of_map _ hspn2) hsub2⟩
    have hmap : ((sp ++ [(e, V.x (.string s))]).map fun p => [p.2]) = (sp.map fun p => [p.2]) ++ [[V.x (.string s)]] := by simp
    refine yield_two (n := 14) (A1 := KeyFr A g r ents clock (m g) (sp ++ [(e, V.x (.string s))]) (sp ++ [(e, V.x (.string s))])) (Ax := KeyFr Ax g r ents clock (m g) (sp ++ [(e, V.x (.string s))]) (sp ++ [(e, V.x (.string s))])) (l := l) rfl (d := 12) rfl (by decide) rfl rfl rfl h3 (u := V.x (.string s)) rfl (by rw [bare_x]; rfl) (fun Of m1 w6 vs hfr hv => ?_) ?_ ?_
    · obtain ⟨O1, k1, k2, k3, k4, k5, k6, k7, k8⟩ := hfr
      refine KeyFr.yield (fun O1 k1 => ?_) O1 k1 k2 k3 k4 k5 k6 k7 k8
      rw [hmap]
      exact hy _ _ O1 m1 w6 vs hokp k1 (by rw [bare_x] at hv; exact hv) rfl
    · clear h3 a3 w5
      intro a3 w5 h3
      refine ops_S hE (hH A hA _ _) 3 1 [(0, .x (.func (.yield l) #[] #[])), (5, .x (.pointer (some ⟨r, 0, none⟩))), (13, .x (.bool false))] [] [] (by decide) (by kernel_rfl) h3 (by simp (decide := true) (maxDischargeDepth := 200) only [go_sem, Nat.reduceBEq] <;> (repeat' first | rfl | constructor)) ?_
      clear h3 a3 w5
      intro a3 w5 h3
      refine two_T hE hm' (hH A hA _ _) [(0, .x (.func (.yield l) #[] #[])), (5, .x (.pointer (some ⟨r, 0, none⟩)))] [] (by kernel_rfl) h3 (by simp (decide := true) (maxDischargeDepth := 200) only [go_sem, Nat.reduceBEq] <;> (repeat' first | rfl | constructor)) ?_
      clear h3 a3 w5
      intro a3 w5 h3
      refine ⟨sp ++ [(e, V.x (.string s))], ⟨hsub2, hspn2, h3⟩, ?_⟩
      refine filter_less (fun e' => !(sp.map fun p => p.1.born).contains e'.born) (fun e' => !((sp ++ [(e, V.x (.string s))]).map fun p => p.1.born).contains e'.born) (fun y hy => ?_) _ e hem (by rw [hnew]; rfl) (by simp)
      simp only [List.map_append, List.contains_append, Bool.not_or, Bool.and_eq_true] at hy
      exact hy.1
    · clear h3 a3 w5
      intro a3 w5 h3
      refine ops_S hE (hH Ax hX _ _) 3 1 [(13, .x (.bool true))] [] [] (by decide) (by kernel_rfl) h3 (by simp (decide := true) (maxDischargeDepth := 200) only [go_sem, Nat.reduceBEq] <;> (repeat' first | rfl | constructor)) ?_
      clear h3 a3 w5
      intro a3 w5 h3
      refine two_R hE hm' (hH Ax hX _ _) [] [] (by kernel_rfl) h3 (by simp (decide := true) (maxDischargeDepth := 200) only [go_sem, Nat.reduceBEq] <;> (repeat' first | rfl | constructor)) ?_
      clear h3 a3 w5
      intro a3 w5 h3
      exact ⟨.inr rfl, .inr ⟨_, _, Two.unframe h3 hh rfl hOg⟩⟩
end Go.Proofs.Ytiphliochoengaa

/- slices.Collect of a map's keys: over cells, over texts. -/
namespace Go.Proofs.Ytiphliochoengaa
open Go Go.RowKit
set_option linter.unusedSimpArgs false
/-- The rows that come out of a map's keys. -/
def KeysRow (n : Nat) (ks : List V) (r : V) : Prop := ∃ l : List V, l.Perm ks ∧ r = .sl l.isEmpty n l (some 0)
theorem box_x {m : Lim} {w : World} {v : Value} {ty : TypeId} (hv : v.cells = #[v]) : Step (fun _ => False) m w (upd m w.heap.size none) (w.alloc (.cells v.cells ty)) ∧ Rd (upd m w.heap.size none) (w.alloc (.cells v.cells ty)) (.pointer (some ⟨w.heap.size, 0, none⟩)) (.ip [.x v]) := by
  refine ⟨Step.of_below ((Below.refl _ w).alloc (Nat.le_refl _) _) (fun k hk => upd_ne _ _ (Nat.ne_of_lt hk)), .ip _ 0 _ (fun _ => v) (by simp) (fun k hk => ?_) (fun fr hf => by rw [upd_same] at hf; cases hf) (fun k d hd => ?_)⟩
  · have hh : (w.alloc (.cells v.cells ty)).heap[w.heap.size]? = some (.cells v.cells ty (0, 0)) := World.heap_new w _
    rw [Box.cell hh, hv]
    have : k = 0 := by simpa using hk
    subst this
    rfl
  · cases k with
    | zero => simp at hd; subst hd; exact .x _
    | succ k => simp at hd
theorem flat_one (l : List V) : (l.map (fun k => [k])).flatten = l := by
  induction l with
  | nil => rfl
  | cons a l ih => simp [ih]
set_option maxHeartbeats 8000000 in
set_option maxRecDepth 100000 in
theorem appendSeqC {m : Lim} {w : World} {B g : Nat} {ks vs : List V} (hks : ∀ k ∈ ks, ∃ p : C3, k = cellV p) (hlen : ks.length ≤ 1000000) (hm : MapAt m w g ks vs) (hr : Rd m w (.pointer (some ⟨B, 0, none⟩)) (.ip [.x (.map (some g))])) (hKg : globK ≤ g) (hj : (envOf []).J w) :
    Calls Try.prog 41 #[.slice none 0 0, .func (.func 42) #[] #[.pointer (some ⟨B, 0, none⟩)]] w fun e w' => ∃ v m' r, e = .returned v ∧ KeysRow 3 ks r ∧ Rd m' w' v r ∧ (∀ sz es k, r = .sl false sz es (some k) → ∃ g, RowIs m' w' v g sz es.length ∧ w.heap.size ≤ g) ∧ Step (fun _ => False) m w m' w' ∧ (envOf []).J w' := by
  have hgw : g < w.heap.size := by obtain ⟨_, _, hh, _⟩ := hm; exact heap_lt hh
  have hE : EnvOK (envB [] (fun _ => false) [] (fun i => i == 2) (fun _ => false)) := envOK_B _ _ _ _ _ trivial trivial
  have hm' : (envB [] (fun _ => false) [] (fun i => i == 2) (fun _ => false)).P.follows .mixedOrders = true := by kernel_rfl
  refine calls_of_one (E := envB [] (fun _ => false) [] (fun i => i == 2) (fun _ => false)) (n := 13) (k := 2) (us := [.sl true 0 [] none, .x (.func (.func 42) #[] #[.pointer (some ⟨B, 0, none⟩)])]) (Kn := Kno.rd (.pointer (some ⟨B, 0, none⟩)) (.ip [.x (.map (some g))])) hE Try.func41 rfl Try.ntmps41 (by decide) (by decide) ⟨.nil _ _, .x _, trivial⟩ rfl rfl hj (fun _ => .undef _) hr ?_
  intro a h0
  refine wpIn_seq (one_T hE hm' [(1, .x (.func (.func 42) #[] #[.pointer (some ⟨B, 0, none⟩)])), (2, .ptr 2 0)] [(2, [.sl true 0 [] none])] (by kernel_rfl) h0 (by simp (decide := true) (maxDischargeDepth := 200) only [go_sem, Nat.reduceBEq] <;> (repeat' first | rfl | constructor)) ?_)
  clear h0 a
  intro a w1 h1
  replace h1 := h1.le (le_nilB 2 3 11 [] [] rfl)
  refine wpIn_seq (wpIn_seq (one_T hE hm' [(2, .ptr 2 0), (6, .x (.func (.func 42) #[] #[.pointer (some ⟨B, 0, none⟩)]))] [(2, [.sl true 3 [] (some 11)])] (by kernel_rfl) h1 (by simp (decide := true) (maxDischargeDepth := 200) only [go_sem, Nat.reduceBEq] <;> (repeat' first | rfl | constructor)) ?_))
  clear h1 a w1
  intro a w1 h1
  have hfn : a.eval (.tmp 6) = .func (.func 42) #[] #[.pointer (some ⟨B, 0, none⟩)] := by
    obtain ⟨m1, O1, hn, _⟩ := h1
    exact hn.read_x 6 (by simp only [go_sem, Nat.reduceEqDiff, if_false, if_true, tOf, stOf])
  refine wpIn_block ?_
  refine one_rangeT hE hm' h1 (fun i => i == 7 || (i == 5 || (i == 8 || (i == 9 || (i == 10 || i == 11))))) hfn (fun a w => Try.call42 a w) (Ok := OkK ks) (Done := DoneK ks) (G := fun k => k = g) (fun k hk => ⟨by rw [hk]; exact hgw, fun h => h⟩) ?hit (by kernel_rfl) (by kernel_rfl) (by kernel_rfl) (by kernel_rfl) ?hps ?hlen
    (fun _ => True) (fun _ => [(2, .ptr 2 0)]) (fun pre => [(2, [.sl pre.flatten.isEmpty 3 pre.flatten (some 11)])]) False [] [] trivial ?h0 (fun pre x => [(2, .ptr 2 0), (5, .ptr 5 0)]) (fun pre x => [(2, [.sl pre.flatten.isEmpty 3 pre.flatten (some 11)]), (5, x.flatMap V.cells)]) ?assign ?round ?done ?stop
  case hit =>
    intro m3 O3 hn3 hkn hs3 m4 w4 hs4 hj4
    exact keysC_iter hks ((hm.step hs3).step hs4) ⟨hkn.mono hs4.ext, trivial⟩ hKg
  case hps => intro p hp; simp at hp; subst hp; exact ⟨rfl, by decide⟩
  case hlen =>
    rintro pre x ⟨l, hl, _⟩
    have : x ∈ l.map (fun k => [k]) := by rw [← hl]; simp
    obtain ⟨k, _, rfl⟩ := List.mem_map.1 this
    rfl
  case h0 => simp (decide := true) (maxDischargeDepth := 200) only [go_sem, Nat.reduceBEq] <;> (repeat' first | rfl | constructor)
  case assign =>
    rintro pre x ⟨l, hl, hmem, hll⟩ _
    have hx : x ∈ l.map (fun k => [k]) := by rw [← hl]; simp
    obtain ⟨kv, hkv, rfl⟩ := List.mem_map.1 hx
    obtain ⟨pc, rfl⟩ := hks kv (hmem kv hkv)
    simp (decide := true) (maxDischargeDepth := 200) only [go_sem, Nat.reduceBEq, cellV, List.flatMap_cons, List.flatMap_nil, List.append_nil] <;> (repeat' first | rfl | constructor)
  case round =>
    rintro pre x ⟨l, hl, hmem, hll⟩ _
    have hx : x ∈ l.map (fun k => [k]) := by rw [← hl]; simp
    obtain ⟨kv, hkv, rfl⟩ := List.mem_map.1 hx
    obtain ⟨pc, rfl⟩ := hks kv (hmem kv hkv)
    have hfl : (pre ++ [[cellV pc]]).flatten = pre.flatten ++ [cellV pc] := by simp
    have hln : pre.flatten.length + 1 = l.length := by
      have h2 := congrArg List.flatten hl
      rw [flat_one, hfl] at h2
      rw [← h2]; simp
    generalize pre.flatten = q at hln hfl ⊢
    have hg := growV_acc (E := envB [] (fun _ => false) [] (fun i => i == 2) (fun _ => false)) (el := 25) (n := 3) sz25 by25 ze25 (by decide) rfl (es := q) (v := cellV pc) (by rfl) (by omega) (by omega)
    have hg2 : ∀ (st : St) (nl : Bool) (t' : Option Nat), growV (envB [] (fun _ => false) [] (fun i => i == 2) (fun _ => false)) st (some 11) 25 (.sl q.isEmpty 3 q (some 11)) (.sl nl 3 [.agg [.x (.string pc.1), .x (.int .i64 pc.2.1), .x (.int .i64 pc.2.2)]] t') = some ⟨upd (strip 11 (strip 11 st.t)) 11 (.sl false 3 (q ++ [.agg [.x (.string pc.1), .x (.int .i64 pc.2.1), .x (.int .i64 pc.2.2)]]) (some 11)), stripB (envB [] (fun _ => false) [] (fun i => i == 2) (fun _ => false)) 11 (stripB (envB [] (fun _ => false) [] (fun i => i == 2) (fun _ => false)) 11 st.b)⟩ := fun st nl t' => hg st 11 11 nl t'
    have hem : (q ++ [cellV pc]).isEmpty = false := by cases q <;> rfl
    simp only [cellV] at hem hfl ⊢
    simp (decide := true) (maxDischargeDepth := 200) only [go_sem, Nat.reduceBEq, hg2, hem, hfl, cellV, List.flatMap_cons, List.flatMap_nil, List.append_nil] <;> (repeat' first | rfl | constructor)
  case done =>
    intro xs b a' w' hd hinv h3
    obtain ⟨l, rfl, hp⟩ := hd
    simp only [flat_one] at h3
    refine wpIn_seq (one_T hE hm' [(4, .sl l.isEmpty 3 l (some 11))] [] (by kernel_rfl) h3 (by simp (decide := true) (maxDischargeDepth := 200) only [go_sem, Nat.reduceBEq] <;> (repeat' first | rfl | constructor)) ?_)
    intro a4 w4 h4
    exact wpIn_ret ⟨.inr rfl, _, _, _, _, _, _, h4, .inl (by simp only [Try.results41]; rfl), l, hp, rfl⟩
  case stop =>
    intro b a' w' hrb h3
    exact hrb.elim
set_option maxHeartbeats 8000000 in
set_option maxRecDepth 100000 in
theorem appendSeqS {m : Lim} {w : World} {B g : Nat} {ks vs : List V} (hks : ∀ k ∈ ks, ∃ s : ByteArray, k = .x (.string s)) (hlen : ks.length ≤ 1000000) (hm : MapAt m w g ks vs) (hr : Rd m w (.pointer (some ⟨B, 0, none⟩)) (.ip [.x (.map (some g))])) (hKg : globK ≤ g) (hj : (envOf []).J w) :
    Calls Try.prog 53 #[.slice none 0 0, .func (.func 38) #[] #[.pointer (some ⟨B, 0, none⟩)]] w fun e w' => ∃ v m' r, e = .returned v ∧ KeysRow 1 ks r ∧ Rd m' w' v r ∧ (∀ sz es k, r = .sl false sz es (some k) → ∃ g, RowIs m' w' v g sz es.length ∧ w.heap.size ≤ g) ∧ Step (fun _ => False) m w m' w' ∧ (envOf []).J w' := by
  have hgw : g < w.heap.size := by obtain ⟨_, _, hh, _⟩ := hm; exact heap_lt hh
  have hE : EnvOK (envB [] (fun _ => false) [] (fun i => i == 2) (fun _ => false)) := envOK_B _ _ _ _ _ trivial trivial
  have hm' : (envB [] (fun _ => false) [] (fun i => i == 2) (fun _ => false)).P.follows .mixedOrders = true := by kernel_rfl
  refine calls_of_one (E := envB [] (fun _ => false) [] (fun i => i == 2) (fun _ => false)) (n := 13) (k := 2) (us := [.sl true 0 [] none, .x (.func (.func 38) #[] #[.pointer (some ⟨B, 0, none⟩)])]) (Kn := Kno.rd (.pointer (some ⟨B, 0, none⟩)) (.ip [.x (.map (some g))])) hE Try.func53 rfl Try.ntmps53 (by decide) (by decide) ⟨.nil _ _, .x _, trivial⟩ rfl rfl hj (fun _ => .undef _) hr ?_
  intro a h0
  refine wpIn_seq (one_T hE hm' [(1, .x (.func (.func 38) #[] #[.pointer (some ⟨B, 0, none⟩)])), (2, .ptr 2 0)] [(2, [.sl true 0 [] none])] (by kernel_rfl) h0 (by simp (decide := true) (maxDischargeDepth := 200) only [go_sem, Nat.reduceBEq] <;> (repeat' first | rfl | constructor)) ?_)
  clear h0 a
  intro a w1 h1
  replace h1 := h1.le (le_nilB 2 1 11 [] [] rfl)
  refine wpIn_seq (wpIn_seq (one_T hE hm' [(2, .ptr 2 0), (6, .x (.func (.func 38) #[] #[.pointer (some ⟨B, 0, none⟩)]))] [(2, [.sl true 1 [] (some 11)])] (by kernel_rfl) h1 (by simp (decide := true) (maxDischargeDepth := 200) only [go_sem, Nat.reduceBEq] <;> (repeat' first | rfl | constructor)) ?_))
  clear h1 a w1
  intro a w1 h1
  have hfn : a.eval (.tmp 6) = .func (.func 38) #[] #[.pointer (some ⟨B, 0, none⟩)] := by
    obtain ⟨m1, O1, hn, _⟩ := h1
    exact hn.read_x 6 (by simp only [go_sem, Nat.reduceEqDiff, if_false, if_true, tOf, stOf])
  refine wpIn_block ?_
  refine one_rangeT hE hm' h1 (fun i => i == 7 || (i == 5 || (i == 8 || (i == 9 || (i == 10 || i == 11))))) hfn (fun a w => Try.call38 a w) (Ok := OkK ks) (Done := DoneK ks) (G := fun k => k = g) (fun k hk => ⟨by rw [hk]; exact hgw, fun h => h⟩) ?hit (by kernel_rfl) (by kernel_rfl) (by kernel_rfl) (by kernel_rfl) ?hps ?hlen
    (fun _ => True) (fun _ => [(2, .ptr 2 0)]) (fun pre => [(2, [.sl pre.flatten.isEmpty 1 pre.flatten (some 11)])]) False [] [] trivial ?h0 (fun pre x => [(2, .ptr 2 0), (5, x.headD .undef)]) (fun pre x => [(2, [.sl pre.flatten.isEmpty 1 pre.flatten (some 11)])]) ?assign ?round ?done ?stop
  case hit =>
    intro m3 O3 hn3 hkn hs3 m4 w4 hs4 hj4
    exact keysS_iter hks ((hm.step hs3).step hs4) ⟨hkn.mono hs4.ext, trivial⟩ hKg
  case hps => intro p hp; simp at hp; subst hp; exact ⟨rfl, by decide⟩
  case hlen =>
    rintro pre x ⟨l, hl, _⟩
    have : x ∈ l.map (fun k => [k]) := by rw [← hl]; simp
    obtain ⟨k, _, rfl⟩ := List.mem_map.1 this
    rfl
  case h0 => simp (decide := true) (maxDischargeDepth := 200) only [go_sem, Nat.reduceBEq] <;> (repeat' first | rfl | constructor)
  case assign =>
    rintro pre x ⟨l, hl, hmem, hll⟩ _
    have hx : x ∈ l.map (fun k => [k]) := by rw [← hl]; simp
    obtain ⟨kv, hkv, rfl⟩ := List.mem_map.1 hx
    obtain ⟨sx, rfl⟩ := hks kv (hmem kv hkv)
    simp (decide := true) (maxDischargeDepth := 200) only [go_sem, Nat.reduceBEq, List.headD_cons] <;> (repeat' first | rfl | constructor)
  case round =>
    rintro pre x ⟨l, hl, hmem, hll⟩ _
    have hx : x ∈ l.map (fun k => [k]) := by rw [← hl]; simp
    obtain ⟨kv, hkv, rfl⟩ := List.mem_map.1 hx
    obtain ⟨sx, rfl⟩ := hks kv (hmem kv hkv)
    have hfl : (pre ++ [[V.x (.string sx)]]).flatten = pre.flatten ++ [V.x (.string sx)] := by simp
    have hln : pre.flatten.length + 1 = l.length := by
      have h2 := congrArg List.flatten hl
      rw [flat_one, hfl] at h2
      rw [← h2]; simp
    generalize pre.flatten = q at hln hfl ⊢
    have hg := growV_acc (E := envB [] (fun _ => false) [] (fun i => i == 2) (fun _ => false)) (el := 9) (n := 1) sz9 by9 ze9 (by decide) rfl (es := q) (v := V.x (.string sx)) (by rfl) (by omega) (by omega)
    have hg2 : ∀ (st : St) (nl : Bool) (t' : Option Nat), growV (envB [] (fun _ => false) [] (fun i => i == 2) (fun _ => false)) st (some 11) 9 (.sl q.isEmpty 1 q (some 11)) (.sl nl 1 [V.x (.string sx)] t') = some ⟨upd (strip 11 (strip 11 st.t)) 11 (.sl false 1 (q ++ [V.x (.string sx)]) (some 11)), stripB (envB [] (fun _ => false) [] (fun i => i == 2) (fun _ => false)) 11 (stripB (envB [] (fun _ => false) [] (fun i => i == 2) (fun _ => false)) 11 st.b)⟩ := fun st nl t' => hg st 11 11 nl t'
    have hem : (q ++ [V.x (.string sx)]).isEmpty = false := by cases q <;> rfl
    skip
    simp (decide := true) (maxDischargeDepth := 200) only [go_sem, Nat.reduceBEq, hg2, hem, hfl, List.headD_cons] <;> (repeat' first | rfl | constructor)
  case done =>
    intro xs b a' w' hd hinv h3
    obtain ⟨l, rfl, hp⟩ := hd
    simp only [flat_one] at h3
    refine wpIn_seq (one_T hE hm' [(4, .sl l.isEmpty 1 l (some 11))] [] (by kernel_rfl) h3 (by simp (decide := true) (maxDischargeDepth := 200) only [go_sem, Nat.reduceBEq] <;> (repeat' first | rfl | constructor)) ?_)
    intro a4 w4 h4
    exact wpIn_ret ⟨.inr rfl, _, _, _, _, _, _, h4, .inl (by simp only [Try.results53]; rfl), l, hp, rfl⟩
  case stop =>
    intro b a' w' hrb h3
    exact hrb.elim
end Go.Proofs.Ytiphliochoengaa

/- Maps that are sets: what the run's words about them come to. -/
namespace Go.Proofs.Ytiphliochoengaa
open Go Go.RowKit
set_option linter.unusedSimpArgs false

/-- What a set's keys have. -/
def uL {α : Type} (L : List α) : List V := L.map fun _ => .agg []
section
variable {α : Type} [DecidableEq α] {P : Program} {enc : α → V} {kt : TypeId}
def putS (L : List α) (c : α) : List α := if c ∈ L then L else L ++ [c]
theorem getI_set (heq : ∀ a b, eqB P 20 kt (enc a) (enc b) = some (decide (a = b))) (c : α) : ∀ (L : List α) (i : Nat), (c ∉ L ∧ getI P kt (enc c) (L.map enc) i = some none) ∨ (c ∈ L ∧ ∃ j, getI P kt (enc c) (L.map enc) i = some (some (i + j)) ∧ L[j]? = some c)
  | [], _ => .inl ⟨by simp, rfl⟩
  | p :: L, i => by
    have e : getI P kt (enc c) ((p :: L).map enc) i = (match eqB P 20 kt (enc c) (enc p) with
      | some true => some (some i)
      | some false => getI P kt (enc c) (L.map enc) (i + 1)
      | none => none) := rfl
    rw [e, heq]
    by_cases h : c = p
    · right
      rw [decide_eq_true h]
      exact ⟨by simp [h], 0, rfl, by simp [h]⟩
    · rw [decide_eq_false h]
      rcases getI_set heq c L (i + 1) with ⟨h1, h2⟩ | ⟨h1, j, h2, h3⟩
      · exact .inl ⟨by simp [h, h1], h2⟩
      · exact .inr ⟨by simp [h1], j + 1, by show getI _ _ _ _ _ = _; rw [h2]; congr 2; omega, h3⟩
def inS (L : List α) (c : α) : Bool := decide (c ∈ L)
omit [DecidableEq α] in
theorem uL_set (L : List α) (i : Nat) : (uL L).set i (.agg []) = uL L := by
  apply List.ext_getElem?
  intro j
  rw [List.getElem?_set]
  split
  · rename_i e
    subst e
    split
    · rename_i hl
      have hl' : i < L.length := by simpa [uL] using hl
      simp [uL, List.getElem?_eq_getElem hl']
    · rename_i hl
      rw [List.getElem?_eq_none (by omega)]
  · rfl
theorem put_set {t et : TypeId} (ht : P.underlying t = some (.map kt et)) (heq : ∀ a b, eqB P 20 kt (enc a) (enc b) = some (decide (a = b))) (hok : ∀ a, keyOK P kt (enc a) = true) (L : List α) (c : α) :
    putM P t (L.map enc) (uL L) (enc c) (.agg []) = some ((putS L c).map enc, uL (putS L c)) := by
  unfold putM
  rw [ht]
  simp only
  rw [if_pos ⟨hok c, rfl⟩]
  rcases getI_set heq c L 0 with ⟨h1, h2⟩ | ⟨h1, j, h2, h3⟩
  · rw [h2]
    simp [putS, h1, uL]
  · have h3' : L[0 + j]? = some c := by rw [Nat.zero_add]; exact h3
    rw [h2]
    simp only []
    rw [if_pos (by rw [List.getElem?_map, h3']; rfl), uL_set]
    simp [putS, h1]
theorem look_set {t et : TypeId} (ht : P.underlying t = some (.map kt et)) (hz : zeroM P et = some (.agg [])) (heq : ∀ a b, eqB P 20 kt (enc a) (enc b) = some (decide (a = b))) (hok : ∀ a, keyOK P kt (enc a) = true) (s : Nat) (L : List α) (c : α) :
    lookV P t (.mp s (L.map enc) (uL L)) (enc c) true = some (.tup [.agg [], .x (.bool (inS L c))]) := by
  unfold inS
  unfold lookV
  rw [ht]
  simp only [hok, if_true]
  rcases getI_set heq c L 0 with ⟨h1, h2⟩ | ⟨h1, j, h2, h3⟩
  · rw [h2]
    simp [hz, h1]
  · rw [h2]
    have : (uL L)[j]? = some (.agg []) := by simp [uL, h3]
    simp [this, h1]
end
theorem inS_iff {α : Type} [DecidableEq α] {L : List α} {c : α} : inS L c = true ↔ c ∈ L := by simp [inS]
theorem putS_mem {α : Type} [DecidableEq α] {L : List α} {c x : α} : x ∈ putS L c ↔ x ∈ L ∨ x = c := by
  unfold putS
  by_cases h : c ∈ L
  · rw [if_pos h]
    exact ⟨.inl, fun hx => hx.elim id (fun e => e ▸ h)⟩
  · rw [if_neg h]; simp
theorem putS_nodup {α : Type} [DecidableEq α] {L : List α} {c : α} (hn : L.Nodup) : (putS L c).Nodup := by
  unfold putS
  by_cases h : c ∈ L
  · rw [if_pos h]; exact hn
  · rw [if_neg h, List.nodup_append]
    exact ⟨hn, by simp, fun a ha b hb => by rw [List.mem_singleton.1 hb]; exact fun e => h (e ▸ ha)⟩
theorem putS_len {α : Type} [DecidableEq α] (L : List α) (c : α) : (putS L c).length ≤ L.length + 1 := by
  unfold putS
  by_cases h : c ∈ L
  · rw [if_pos h]; omega
  · rw [if_neg h]; simp
def strX (s : ByteArray) : V := .x (.string s)
set_option maxRecDepth 100000 in
theorem eqB_str (a b : ByteArray) : eqB Try.prog 20 9 (strX a) (strX b) = some (decide (a = b)) := by
  simp (decide := true) only [go_sem, strX]
set_option maxRecDepth 100000 in
theorem keyOK_str (a : ByteArray) : keyOK Try.prog 9 (strX a) = true := by
  unfold keyOK
  simp (decide := true) [go_sem, strX, plainK, keyB]
set_option maxRecDepth 100000 in
theorem eqB_cell2 (a b : C3) : eqB Try.prog 20 25 (cellV a) (cellV b) = some (decide (a = b)) := by
  obtain ⟨s, c, r⟩ := a
  obtain ⟨s', c', r'⟩ := b
  have e : decide (((s, c, r) : C3) = (s', c', r')) = (decide (s = s') && (decide (c = c') && decide (r = r'))) := by
    rw [← Bool.decide_and, ← Bool.decide_and]
    exact decide_eq_decide.2 (by simp)
  rw [e]
  simp (decide := true) only [go_sem, cellV]
set_option maxRecDepth 100000 in
theorem keyOK_cell2 (a : C3) : keyOK Try.prog 25 (cellV a) = true := by
  obtain ⟨s, c, r⟩ := a
  unfold keyOK
  simp (decide := true) [go_sem, cellV, plainK, keyB, partV]
set_option maxRecDepth 100000 in
theorem eqB_rng (a b : R2) : eqB Try.prog 20 41 (rgV a) (rgV b) = some (decide (a = b)) := by
  obtain ⟨⟨s, c, r⟩, s2, c2, r2⟩ := a
  obtain ⟨⟨s', c', r'⟩, s2', c2', r2'⟩ := b
  have e : decide ((((s, c, r), (s2, c2, r2)) : R2) = ((s', c', r'), (s2', c2', r2'))) = ((decide (s = s') && (decide (c = c') && decide (r = r'))) && (decide (s2 = s2') && (decide (c2 = c2') && decide (r2 = r2')))) := by
    simp only [← Bool.decide_and]
    exact decide_eq_decide.2 (by simp [and_assoc])
  rw [e]
  simp (decide := true) only [go_sem, rgV]
set_option maxRecDepth 100000 in
theorem keyOK_rng (a : R2) : keyOK Try.prog 41 (rgV a) = true := by
  obtain ⟨⟨s, c, r⟩, s2, c2, r2⟩ := a
  unfold keyOK
  simp (decide := true) [go_sem, rgV, plainK, keyB, partV]
theorem put_str (L : List ByteArray) (c : ByteArray) : putM Try.prog 48 (L.map strX) (uL L) (strX c) (.agg []) = some ((putS L c).map strX, uL (putS L c)) := put_set Try.underlying48 eqB_str keyOK_str L c
theorem put_cell (L : List C3) (c : C3) : putM Try.prog 59 (L.map cellV) (uL L) (cellV c) (.agg []) = some ((putS L c).map cellV, uL (putS L c)) := put_set Try.underlying59 eqB_cell2 keyOK_cell2 L c
theorem put_rng (L : List R2) (c : R2) : putM Try.prog 58 (L.map rgV) (uL L) (rgV c) (.agg []) = some ((putS L c).map rgV, uL (putS L c)) := put_set Try.underlying58 eqB_rng keyOK_rng L c
theorem look_rng (s : Nat) (L : List R2) (c : R2) : lookV Try.prog 58 (.mp s (L.map rgV) (uL L)) (rgV c) true = some (.tup [.agg [], .x (.bool (inS L c))]) := look_set Try.underlying58 zm52 eqB_rng keyOK_rng s L c
end Go.Proofs.Ytiphliochoengaa

/- maps.Keys called; slices.Collect, slices.Sorted over a map's keys. -/
namespace Go.Proofs.Ytiphliochoengaa
open Go Go.RowKit Go.Sort
set_option linter.unusedSimpArgs false
theorem keysS_call (g : Nat) (w : World) : Calls Try.prog 23 #[.map (some g)] w fun e w' => e = .returned (.func (.func 38) #[] #[.pointer (some ⟨w.heap.size, 0, none⟩)]) ∧ w' = w.alloc (.cells #[.map (some g)] 48) := by
  go_enter Try.func23, Try.ntmps23
  go_wp2
  go_ret
  exact ⟨rfl, rfl⟩
theorem keysC_call (g : Nat) (w : World) : Calls Try.prog 27 #[.map (some g)] w fun e w' => e = .returned (.func (.func 42) #[] #[.pointer (some ⟨w.heap.size, 0, none⟩)]) ∧ w' = w.alloc (.cells #[.map (some g)] 59) := by
  go_enter Try.func27, Try.ntmps27
  go_wp2
  go_ret
  exact ⟨rfl, rfl⟩
theorem collectS {m : Lim} {w : World} {B g : Nat} {ks vs : List V} (hks : ∀ k ∈ ks, ∃ s : ByteArray, k = .x (.string s)) (hlen : ks.length ≤ 1000000) (hm : MapAt m w g ks vs) (hr : Rd m w (.pointer (some ⟨B, 0, none⟩)) (.ip [.x (.map (some g))])) (hKg : globK ≤ g) (hj : (envOf []).J w) :
    Calls Try.prog 36 #[.func (.func 38) #[] #[.pointer (some ⟨B, 0, none⟩)]] w fun e w' => ∃ v m' r, e = .returned v ∧ KeysRow 1 ks r ∧ Rd m' w' v r ∧ (∀ sz es k, r = .sl false sz es (some k) → ∃ g, RowIs m' w' v g sz es.length ∧ w.heap.size ≤ g) ∧ Step (fun _ => False) m w m' w' ∧ (envOf []).J w' := by
  have H := appendSeqS hks hlen hm hr hKg hj
  go_enter Try.func36, Try.ntmps36
  go_wp2_with (go_at_call 53; ((with_reducible refine H.mono ?_); rintro e w1 ⟨v, m1, r, rfl, h1, h2, h3, h4, h5⟩))
  go_ret
  exact ⟨v, m1, r, rfl, h1, h2, h3, h4, h5⟩
theorem collectC {m : Lim} {w : World} {B g : Nat} {ks vs : List V} (hks : ∀ k ∈ ks, ∃ p : C3, k = cellV p) (hlen : ks.length ≤ 1000000) (hm : MapAt m w g ks vs) (hr : Rd m w (.pointer (some ⟨B, 0, none⟩)) (.ip [.x (.map (some g))])) (hKg : globK ≤ g) (hj : (envOf []).J w) :
    Calls Try.prog 26 #[.func (.func 42) #[] #[.pointer (some ⟨B, 0, none⟩)]] w fun e w' => ∃ v m' r, e = .returned v ∧ KeysRow 3 ks r ∧ Rd m' w' v r ∧ (∀ sz es k, r = .sl false sz es (some k) → ∃ g, RowIs m' w' v g sz es.length ∧ w.heap.size ≤ g) ∧ Step (fun _ => False) m w m' w' ∧ (envOf []).J w' := by
  have H := appendSeqC hks hlen hm hr hKg hj
  go_enter Try.func26, Try.ntmps26
  go_wp2_with (go_at_call 41; ((with_reducible refine H.mono ?_); rintro e w1 ⟨v, m1, r, rfl, h1, h2, h3, h4, h5⟩))
  go_ret
  exact ⟨v, m1, r, rfl, h1, h2, h3, h4, h5⟩
/-- A sorted row that a call made, to be written on. -/
def RowMade (m : Lim) (w : World) (v : Value) (len sz : Nat) (cs : List V) (m' : Lim) (w' : World) : Prop :=
  Step (fun _ => False) m w m' w' ∧ ((len = 0 ∧ v = .slice none 0 0) ∨ ∃ blk cap cur ty, 0 < len ∧ v = .slice (some ⟨blk, 0, none⟩) len cap ∧ w.heap.size ≤ blk ∧ w'.heap[blk]? = some (.cells cur ty (0, 0)) ∧ cur.size = cap * sz ∧ len ≤ cap ∧ BoxAt m' w' blk cs)
def mkT (l : List UInt8) : ByteArray := ⟨l.toArray⟩
theorem mkT_toList (l : List UInt8) : (mkT l).toList = l := by rw [Lib.toList_data]; rfl
theorem strX_texts {lv ks : List V} (hks : ∀ k ∈ ks, ∃ s : ByteArray, k = .x (.string s)) (hp : lv.Perm ks) : ∃ ss : List (List UInt8), lv = ss.map fun l => strX (mkT l) := by
  have : ∀ l : List V, (∀ k ∈ l, k ∈ ks) → ∃ ss : List (List UInt8), l = ss.map fun l => strX (mkT l) := by
    intro l
    induction l with
    | nil => exact fun _ => ⟨[], rfl⟩
    | cons x l ih =>
      intro h
      obtain ⟨ss, rfl⟩ := ih (fun k hk => h k (List.mem_cons_of_mem _ hk))
      obtain ⟨s, rfl⟩ := hks x (h x (List.mem_cons_self ..))
      exact ⟨s.data.toList :: ss, rfl⟩
  exact this lv (fun k hk => hp.mem_iff.1 hk)
theorem Rd.cell1 {m : Lim} {w : World} {v u : Value} {es : List V} {tok : Option Nat} {blk len cap i : Nat} (h : Rd m w v (.sl false 1 es tok)) (hv : v = .slice (some ⟨blk, 0, none⟩) len cap) (hi : es[i]? = some (.x u)) : w.cell? ⟨blk, i, none⟩ = some u := by
  cases h with
  | emp a cap sz => cases hi
  | sl blk' off cap' sz es tok c hb hcap hsz' hc hm' hr' =>
    cases hv
    have hl := (List.getElem?_eq_some_iff.1 hi).1
    have h6 := hc i (by omega)
    have h7 := hr' i (.x u) hi 0 (.x u) rfl
    rw [Nat.mul_one, Nat.add_zero] at h7
    rw [Nat.zero_add] at h6
    rw [h6]
    generalize c i = x at h7
    cases h7
    rfl
theorem row_after {enc : List UInt8 → Value} {w1 : World} {n g off : Nat} {d : Array (List UInt8)} {os : Array Obj} {cur : Array Value} {ty : TypeId} {fr : Nat × Nat} (hh : w1.heap[g]? = some (.cells cur ty fr)) :
    (Sort.grow (putRow enc (Sort.ahead w1 n) g off d) os).heap[g]? = some (.cells (putCells enc off d cur) ty fr) ∧ ∀ k, k < w1.heap.size → k ≠ g → (Sort.grow (putRow enc (Sort.ahead w1 n) g off d) os).heap[k]? = w1.heap[k]? := by
  have hsz : (putRow enc (Sort.ahead w1 n) g off d).heap.size = w1.heap.size := by simp
  refine ⟨?_, fun k hk hn => ?_⟩
  · rw [Sort.heap_grow_old _ _ (by rw [hsz]; exact heap_lt hh)]
    show (w1.heap.modify g (onCells (putCells enc off d)))[g]? = _
    rw [Array.getElem?_modify, if_pos rfl, hh]
    rfl
  · rw [Sort.heap_grow_old _ _ (by rw [hsz]; exact hk)]
    show (w1.heap.modify g (onCells (putCells enc off d)))[k]? = _
    rw [Array.getElem?_modify, if_neg (fun e => hn e.symm)]
theorem sortedS {m : Lim} {w : World} {B g : Nat} {ks vs : List V} (hks : ∀ k ∈ ks, ∃ s : ByteArray, k = .x (.string s)) (hlen : ks.length ≤ 1000000) (hm : MapAt m w g ks vs) (hr : Rd m w (.pointer (some ⟨B, 0, none⟩)) (.ip [.x (.map (some g))])) (hKg : globK ≤ g) (hj : (envOf []).J w) (hkeep : ∀ w', Below w.heap.size w w' → (envOf []).J w') :
    Calls Try.prog 22 #[.func (.func 38) #[] #[.pointer (some ⟨B, 0, none⟩)]] w fun e w' => ∃ (v : Value) (m' : Lim) (l : List ByteArray), e = .returned v ∧ (l.map strX).Perm ks ∧ l.Pairwise (fun a b => strL b a = false) ∧ (envOf []).J w' ∧ RowMade m w v l.length 1 (l.map strX) m' w' := by
  have H := collectS hks hlen hm hr hKg hj
  go_enter Try.func22, Try.ntmps22
  go_wp2_with (go_at_call 36; ((with_reducible refine H.mono ?_); rintro e w1 ⟨v, m1, r, rfl, ⟨lv, hp, rfl⟩, h2, h3, h4, h5⟩))
  have hlv := hp.length_eq
  obtain ⟨ss, rfl⟩ := strX_texts hks hp
  by_cases hss : ss = []
  · subst hss
    have hv : v = .slice none 0 0 := by cases h2; rfl
    subst hv
    go_wp2_with (go_at_call 37; ((with_reducible refine (Try.slices_Sort_string_none none 0 w1).mono ?_); rintro e w2 ⟨rfl, rfl⟩))
    go_ret
    exact ⟨_, m1, [], rfl, hp, List.Pairwise.nil, h5, h4, .inl ⟨rfl, rfl⟩⟩
  · have hne : (ss.map fun l => strX (mkT l)).isEmpty = false := by cases ss with
      | nil => exact absurd rfl hss
      | cons x l => rfl
    rw [hne] at h2 h3
    obtain ⟨g2, ⟨lim, cap, cur, ty, hv, hh, hle, hsz⟩, hge⟩ := h3 _ _ _ rfl
    subst hv
    have hcell : ∀ j, j < ss.length → w1.cell? ⟨g2, 0 + j, none⟩ = some (.string (mkT (ss.toArray[j]!))) := by
      intro j hj
      have h6 := h2.cell1 rfl (i := j) (u := .string (mkT ss[j])) (by rw [List.getElem?_map, List.getElem?_eq_getElem hj]; rfl)
      rw [Nat.zero_add, h6]
      simp [hj]
    have hH : Go.Sort.Holds encStr w1 g2 0 ss.toArray := fun j hj => by
      refine ⟨hcell j (by simpa using hj), ?_⟩
      simp [World.frozen?, hh]
    rw [List.length_map] at hle
    have hS := Try.slices_Sort_string g2 0 cap ss w1 hH (heap_lt hh) (by simp at hlv; omega)
    have hl : (ss.map fun l => strX (mkT l)).length = ss.length := List.length_map ..
    rw [hl]
    go_wp2_with (go_at_call 37; ((with_reducible refine hS.mono ?_); rintro e w2 ⟨rfl, n, os, rfl⟩))
    go_ret
    generalize hso : ss.mergeSort (fun x y => decide (x ≤ y)) = so
    have hsp : so.Perm ss := by rw [← hso]; exact List.mergeSort_perm _ _
    have hsl := hsp.length_eq
    obtain ⟨r1, r2⟩ := row_after (enc := encStr) (n := n) (off := 0) (d := so.toArray) (os := os) hh
    have hsz2 : w1.heap.size ≤ (Sort.grow (putRow encStr (Sort.ahead w1 n) g2 0 so.toArray) os).heap.size := by simp
    have hbel : Below w.heap.size w (Sort.grow (putRow encStr (Sort.ahead w1 n) g2 0 so.toArray) os) := ⟨h4.os, h4.tape, h4.output, Nat.le_trans h4.ext.size hsz2, fun k hk => (r2 k (Nat.lt_of_lt_of_le hk h4.ext.size) (by omega)).trans (h4.same k hk (fun h => h)).1⟩
    generalize Sort.grow (putRow encStr (Sort.ahead w1 n) g2 0 so.toArray) os = w2 at r1 r2 hsz2 hbel
    refine ⟨.slice (some ⟨g2, 0, none⟩) ss.length cap, upd m1 g2 (some 0), so.map mkT, rfl, ?_, ?_, hkeep _ hbel, Step.of_below hbel (fun k hk => by rw [upd_ne _ _ (by omega)]; exact (h4.same k hk (fun h => h)).2), .inr ⟨g2, cap, _, ty, by rw [List.length_map, hsl]; exact List.length_pos_iff.2 hss, by rw [List.length_map, hsl], hge, r1, ?_, by rw [List.length_map, hsl]; exact hle, ⟨upd_same _ _ _, _, ty, so.map (fun l => Value.string (mkT l)), (putCells encStr 0 so.toArray cur).toList.drop so.length, r1, ?_, ?_⟩⟩⟩
    · rw [List.map_map]
      exact (hsp.map _).trans hp
    · rw [List.pairwise_map]
      have hpw : so.Pairwise fun x y => decide (x ≤ y) = true := by
        rw [← hso]
        exact List.pairwise_mergeSort (le := fun x y => decide (x ≤ y)) (fun a b c h1 h2 => decide_eq_true (List.le_trans (of_decide_eq_true h1) (of_decide_eq_true h2))) (fun a b => by
          rw [Bool.or_eq_true]
          rcases List.le_total a b with h | h
          · exact .inl (decide_eq_true h)
          · exact .inr (decide_eq_true h)) ss
      refine hpw.imp ?_
      intro a b hab
      unfold strL
      rw [mkT_toList, mkT_toList, blx_eq]
      exact decide_eq_false (of_decide_eq_true hab)
    · rw [putCells, Array.size_mapIdx]; exact hsz
    · have e : so.map (fun l => Value.string (mkT l)) = (putCells encStr 0 so.toArray cur).toList.take so.length := by
        apply List.ext_getElem?
        intro j
        rw [List.getElem?_take]
        by_cases hj : j < so.length
        · rw [if_pos hj, List.getElem?_map, List.getElem?_eq_getElem hj]
          have hjc : j < cur.size := by omega
          rw [Array.getElem?_toList, putCells, Array.getElem?_mapIdx, Array.getElem?_eq_getElem hjc]
          simp [hj, mkT]
        · rw [if_neg hj, List.getElem?_eq_none (by simpa using hj)]
      rw [e, List.take_append_drop]
    · have key : ∀ (l : List (List UInt8)) (m' : Lim) (w' : World), RdL m' w' (l.map fun l => Value.string (mkT l)) ((l.map mkT).map strX) := by
        intro l m' w'
        induction l with
        | nil => exact trivial
        | cons x l ih => exact ⟨.x _, ih⟩
      exact key _ _ _
end Go.Proofs.Ytiphliochoengaa

/- refs.Sheets: the sheets that a formula reads. -/
namespace Go.Proofs.Ytiphliochoengaa
open Go Go.RowKit
set_option linter.unusedSimpArgs false
/-- Whose sheet comes next. -/
def shOf : List V → ByteArray
  | [.agg (.x (.string s) :: _)] => s
  | _ => ⟨#[]⟩
def shL (pre : List (List V)) : List ByteArray := pre.foldl (fun L x => putS L (shOf x)) []
theorem shL_snoc (pre : List (List V)) (x : List V) : shL (pre ++ [x]) = putS (shL pre) (shOf x) := by simp [shL]
theorem sh_mem (pre : List (List V)) (s : ByteArray) : s ∈ shL pre ↔ ∃ x ∈ pre, shOf x = s := by
  have key : ∀ (l : List (List V)) (L : List ByteArray), s ∈ l.foldl (fun L x => putS L (shOf x)) L ↔ s ∈ L ∨ ∃ x ∈ l, shOf x = s := by
    intro l
    induction l with
    | nil => intro L; simp
    | cons x l ih =>
      intro L
      have h1 : s ∈ putS L (shOf x) ↔ s ∈ L ∨ shOf x = s := putS_mem.trans (or_congr Iff.rfl eq_comm)
      rw [List.foldl_cons, ih, h1]
      simp only [List.mem_cons, exists_eq_or_imp, or_assoc]
  rw [shL, key]; simp
theorem sh_nodup (pre : List (List V)) : (shL pre).Nodup := by
  have key : ∀ (l : List (List V)) (L : List ByteArray), L.Nodup → (l.foldl (fun L x => putS L (shOf x)) L).Nodup := by
    intro l
    induction l with
    | nil => exact fun L h => h
    | cons x l ih => exact fun L h => ih _ (putS_nodup h)
  exact key pre [] List.nodup_nil
mutual
theorem allN_len : ∀ a : Nd, (allN a).length ≤ cnt a
  | .leaf h => by simp only [allN, selfQ, cnt]; split <;> simp
  | .mk h l => by
    have := allL_len l
    have h2 : (selfQ h).length ≤ 1 := by unfold selfQ; split <;> simp
    simp only [allN, cnt, List.length_append]; omega
theorem allL_len : ∀ l : List Nd, (allL l).length ≤ cntL l
  | [] => by simp [allL]
  | n :: l => by have := allN_len n; have := allL_len l; simp only [allL, cntL, List.length_append]; omega
end
theorem sh_all {nd : Nd} {xs : List (List V)} (h : DoneQ nd xs) (s : ByteArray) : s ∈ shL xs ↔ ∃ q ∈ allN nd, q.1.1 = s := by
  rw [sh_mem]
  constructor
  · rintro ⟨x, hx, e⟩
    obtain ⟨q, hq, rfl⟩ := h.1 x hx
    exact ⟨q, hq, e⟩
  · rintro ⟨q, hq, e⟩
    exact ⟨_, h.2 q hq, e⟩
theorem sh_len {nd : Nd} {xs : List (List V)} (h : DoneQ nd xs) (h4 : cnt nd ≤ 400) : (shL xs).length ≤ 400 := by
  have h1 := nodup_len (l' := (allN nd).map fun q => q.1.1) (sh_nodup xs) (fun s hs => by
    obtain ⟨q, hq, e⟩ := (sh_all h s).1 hs
    exact List.mem_map.2 ⟨q, hq, e⟩)
  have := allN_len nd
  rw [List.length_map] at h1
  omega
theorem sh_short {nd : Nd} {s : ByteArray} (h : ∃ q ∈ allN nd, q.1.1 = s) : s.size ≤ 8 := by
  obtain ⟨q, hq, rfl⟩ := h
  have ho := all_ok nd q hq
  unfold okQ at ho
  rw [Bool.and_eq_true] at ho
  exact name_len (rightC_iff.1 (okA_iff.1 ho.1).1).1
theorem flat_str (l : List ByteArray) : (l.map strX).flatMap V.cells = l.map strX := by
  induction l with
  | nil => rfl
  | cons x l ih => simp only [List.map_cons, List.flatMap_cons, ih]; rfl
/-- A call, by what it makes of the very values: no more is said. -/
theorem one_callX {E : Env} {ops : List Oper} {Q : Exit → Act → World → Prop} {a : Act} {w : World} {i : Nat} {rest : List Nat} {o : Oper} {d : Tmp} {f : FuncId} {args : Array Operand} {ts : Array TypeId} {R : Ending → World → Prop} (hi : ops[i]? = some o) (hop : o.op = .call { callee := .value (.func f), args := args, argTypes := ts }) (hd : o.dst = some d) (hg : o.guard = none)
    (hcall : ∀ args w, (callFunc f args).run E.P w = .ok (.enter f args) w) (hc : Calls E.P f (args.map a.eval) w R)
    (hR : ∀ e w', R e w' → ∃ v, e = .returned v ∧ wpOpsIn (fen none) 0 E.P ⟨ops⟩ Q rest (a.put (some d) v) w') : wpOpsIn (fen none) 0 E.P ⟨ops⟩ Q (i :: rest) a w := by
  rw [wpOpsIn_cons]
  unfold wpOpIn
  have hi' : (⟨ops⟩ : Array Oper)[i]? = some o := by simpa using hi
  rw [hi']
  simp only
  rw [if_pos (by unfold Region.wanted; rw [hg])]
  refine ⟨fun _ _ => trivial, ?_⟩
  rw [Oper.semAt_eq _ _ _ (by rw [hop]; intro c e; cases e)]
  have hrun : (execOp a.eval o).run E.P w = .ok (.enter f (args.map a.eval)) w := by
    simp only [execOp, hop, resolve, Sem.run_bind, Act.eval, Deferred.ofValue, Sem.run_pure, Result.andThen_ok, invoke]
    simpa using hcall _ _
  rw [hrun]
  refine ⟨(fun e => by cases e), callsIn_fen.2 (hc.mono ?_)⟩
  intro e w' hr
  obtain ⟨v, rfl, hK⟩ := hR e w' hr
  show wpOpsIn (fen none) 0 E.P ⟨ops⟩ Q rest (a.put o.dst v) w'
  rw [hd]
  exact hK
set_option maxHeartbeats 8000000 in
set_option maxRecDepth 100000 in
theorem sheetsP_fun : FunV 9 (FE encN GSheets) := by
  have hE : EnvOK (envOf [(24, FClone)]) := envOK_of _ ⟨clone_fun, trivial⟩
  have hm : (envOf [(24, FClone)]).P.follows .mixedOrders = true := by kernel_rfl
  refine fun_of_one (E := envOf [(24, FClone)]) (n := 34) (k := 1) hE Try.func9 rfl (fun a w => Try.call9 a w) Try.ntmps9 (by decide) (by decide) ?_
  intro us r m w a hF hdat h0
  obtain ⟨nd, hus, hG⟩ := FE_out hF
  clear hF
  subst hus
  unfold GSheets at hG
  obtain ⟨h400, hG⟩ := ite_some hG
  cases hG
  obtain ⟨k, op, nm, vk, vn, vs, cs, cc, cr, ts, tc, tr, ll, nl, sz, hh, hl, hf, hs⟩ := node_cases nd
  replace h0 := h0 rfl
  refine ⟨rfl, ?_⟩
  simp only [encN] at h0
  rw [hf] at h0
  refine wpIn_seq (one_T hE hm [(1, .ptr 1 0)] [(1, [.x (.int .i64 k), .x (.string op), .x (.string nm), .x (.int .i64 vk), .x (.int .i64 vn), .x (.string vs), .x (.string cs), .x (.int .i64 cc), .x (.int .i64 cr), .x (.string ts), .x (.int .i64 tc), .x (.int .i64 tr), .sl nl sz (ll.map nodeV) none])] (by kernel_rfl) h0 (by simp (decide := true) (maxDischargeDepth := 200) only [go_sem, Nat.reduceBEq] <;> (repeat' first | rfl | constructor)) ?_)
  clear h0 a
  intro a w1 h1
  refine wpIn_seq (wpIn_region ?_)
  refine one_S hE 0 2 [(1, .ptr 1 0), (3, .ptr 3 0), (8, .mp 8 [] [])] [(1, [.x (.int .i64 k), .x (.string op), .x (.string nm), .x (.int .i64 vk), .x (.int .i64 vn), .x (.string vs), .x (.string cs), .x (.int .i64 cc), .x (.int .i64 cr), .x (.string ts), .x (.int .i64 tc), .x (.int .i64 tr), .sl nl sz (ll.map nodeV) none]), (3, [.x (.map none)])] [2] (by decide) (by kernel_rfl) h1 (by simp (decide := true) (maxDischargeDepth := 200) only [go_sem, Nat.reduceBEq] <;> (repeat' first | rfl | constructor)) ?_
  clear h1 a w1
  intro a w1 h1
  obtain ⟨g, hg8⟩ := h1.map_ptr (i := 8) (s := 8) (ks := []) (vs := []) (by simp only [go_sem, Nat.reduceEqDiff, if_false, if_true, tOf, stOf])
  have hst : storeV (envOf [(24, FClone)]) (stOf [(1, .ptr 1 0), (3, .ptr 3 0), (8, .mp 8 [] [])] [(1, [.x (.int .i64 k), .x (.string op), .x (.string nm), .x (.int .i64 vk), .x (.int .i64 vn), .x (.string vs), .x (.string cs), .x (.int .i64 cc), .x (.int .i64 cr), .x (.string ts), .x (.int .i64 tc), .x (.int .i64 tr), .sl nl sz (ll.map nodeV) none]), (3, [.x (.map none)])]) 48 (.ptr 3 0) (.x (.map (some g))) = some ⟨(stOf [(1, .ptr 1 0), (3, .ptr 3 0), (8, .mp 8 [] [])] [(1, [.x (.int .i64 k), .x (.string op), .x (.string nm), .x (.int .i64 vk), .x (.int .i64 vn), .x (.string vs), .x (.string cs), .x (.int .i64 cc), .x (.int .i64 cr), .x (.string ts), .x (.int .i64 tc), .x (.int .i64 tr), .sl nl sz (ll.map nodeV) none]), (3, [.x (.map none)])]).t, upd (stOf [(1, .ptr 1 0), (3, .ptr 3 0), (8, .mp 8 [] [])] [(1, [.x (.int .i64 k), .x (.string op), .x (.string nm), .x (.int .i64 vk), .x (.int .i64 vn), .x (.string vs), .x (.string cs), .x (.int .i64 cc), .x (.int .i64 cr), .x (.string ts), .x (.int .i64 tc), .x (.int .i64 tr), .sl nl sz (ll.map nodeV) none]), (3, [.x (.map none)])]).b 3 (some [.x (.map (some g))])⟩ := by
    simp (decide := true) (maxDischargeDepth := 200) only [go_sem, Nat.reduceBEq, storeV]
  refine one_store_map (i := 2) (rest := []) hE rfl rfl rfl rfl h1 (by simp only [go_sem, Nat.reduceEqDiff, if_false, if_true, tOf, stOf]) hg8 hst ?_
  intro w2 h2
  replace h2 := (h2.le (le_stOf (ts := [(1, .ptr 1 0), (3, .ptr 3 0), (8, .mp 8 [] [])]) (bs := [(1, [.x (.int .i64 k), .x (.string op), .x (.string nm), .x (.int .i64 vk), .x (.int .i64 vn), .x (.string vs), .x (.string cs), .x (.int .i64 cc), .x (.int .i64 cr), .x (.string ts), .x (.int .i64 tc), .x (.int .i64 tr), .sl nl sz (ll.map nodeV) none]), (3, [.x (.map (some g))])]) (by simp (decide := true) (maxDischargeDepth := 200) only [go_sem, Nat.reduceBEq] <;> (repeat' first | rfl | constructor)) (by simp (decide := true) (maxDischargeDepth := 200) only [go_sem, Nat.reduceBEq] <;> (repeat' first | rfl | constructor)))).frame (fun i => !(i == 8))
  clear h1 hst w1
  refine wpIn_seq (wpIn_seq (wpIn_region ?_))
  refine one_SW hE 0 1 [(1, .ptr 1 0), (3, .ptr 3 0), (8, .mp 8 [] []), (9, .agg [.x (.int .i64 k), .x (.string op), .x (.string nm), .x (.int .i64 vk), .x (.int .i64 vn), .x (.string vs), .x (.string cs), .x (.int .i64 cc), .x (.int .i64 cr), .x (.string ts), .x (.int .i64 tc), .x (.int .i64 tr), .sl nl sz (ll.map nodeV) none])] [(1, [.x (.int .i64 k), .x (.string op), .x (.string nm), .x (.int .i64 vk), .x (.int .i64 vn), .x (.string vs), .x (.string cs), .x (.int .i64 cc), .x (.int .i64 cr), .x (.string ts), .x (.int .i64 tc), .x (.int .i64 tr), .sl nl sz (ll.map nodeV) none]), (3, [.x (.map (some g))])] [1] (by decide) (by kernel_rfl) (by kernel_rfl) h2 (by simp (decide := true) (maxDischargeDepth := 200) only [go_sem, Nat.reduceBEq] <;> (repeat' first | rfl | constructor)) ?_
  intro a1 w1 h1
  have hk8 := h1.kept (i := 8) rfl
  simp only at hk8
  rw [hg8] at hk8
  clear h2 w2
  refine one_call (n := 34) (d := 10) (f := 21) (Kno.rd (.pointer (some ⟨w1.heap.size, 0, none⟩)) (.ip [.x (.int .i64 k), .x (.string op), .x (.string nm), .x (.int .i64 vk), .x (.int .i64 vn), .x (.string vs), .x (.string cs), .x (.int .i64 cc), .x (.int .i64 cr), .x (.string ts), .x (.int .i64 tc), .x (.int .i64 tr), .sl nl sz (ll.map nodeV) none])) rfl rfl rfl (by decide) rfl (fun a w => Try.call21 a w) h1 (R := fun e w' => e = .returned (.func (.func 34) #[] #[.pointer (some ⟨w1.heap.size, 0, none⟩)]) ∧ w' = w1.alloc (.cells (a1.eval (.tmp 9)).cells 28)) (fun m1 O1 hn1 _ => ?call) ?_
  case call =>
    have hrd := runOf_read hn1 9 (u := .agg [.x (.int .i64 k), .x (.string op), .x (.string nm), .x (.int .i64 vk), .x (.int .i64 vn), .x (.string vs), .x (.string cs), .x (.int .i64 cc), .x (.int .i64 cr), .x (.string ts), .x (.int .i64 tc), .x (.int .i64 tr), .sl nl sz (ll.map nodeV) none]) (by simp only [go_sem, Nat.reduceEqDiff, if_false, if_true, tOf, stOf]) rfl
    obtain ⟨cs1, hcs, _⟩ := Rd.agg_iff.1 hrd
    have e6 : a1.eval (.tmp 9) = .agg cs1 := hcs
    rw [show Array.map a1.eval #[.tmp 9] = #[a1.eval (.tmp 9)] from by simp, e6]
    exact ranges_call cs1 w1
  intro m1 O1 hn1 _ e w2 he
  obtain ⟨rfl, rfl⟩ := he
  have hrd := runOf_read hn1 9 (u := .agg [.x (.int .i64 k), .x (.string op), .x (.string nm), .x (.int .i64 vk), .x (.int .i64 vn), .x (.string vs), .x (.string cs), .x (.int .i64 cc), .x (.int .i64 cr), .x (.string ts), .x (.int .i64 tc), .x (.int .i64 tr), .sl nl sz (ll.map nodeV) none]) (by simp only [go_sem, Nat.reduceEqDiff, if_false, if_true, tOf, stOf]) rfl
  obtain ⟨hs2, hr2⟩ := node_boxed (ty := 28) hrd
  refine ⟨_, _, .undef, rfl, hs2, hE.keep [] _ _ (fun x hx => by cases hx) hn1.J (hs2.bel (fun k _ h => h.elim)), .undef _, hr2, fun h2 => ?_⟩
  have hfn : (a1.put (some 10) (.func (.func 34) #[] #[.pointer (some ⟨w1.heap.size, 0, none⟩)])).eval (.tmp 10) = .func (.func 34) #[] #[.pointer (some ⟨w1.heap.size, 0, none⟩)] := by
    have hz : a1.tmps.size = 34 := by obtain ⟨_, _, hr⟩ := hn1.rel; exact hr.size
    show ((a1.put (some 10) _).tmps.getD 10 Go.undef) = _
    simp [Act.put, Array.getD_eq_getD_getElem?, hz]
  generalize (a1.put (some 10) (.func (.func 34) #[] #[.pointer (some ⟨w1.heap.size, 0, none⟩)])) = a2 at h2 hfn
  generalize w1.alloc _ = w2 at h2
  have hk2 := h2.kept (i := 8) rfl
  simp only at hk2
  rw [hg8] at hk2
  refine wpIn_block ?_
  refine one_rangeS hE h2 (fun i => i == 11 || (i == 4 || (i == 12 || (i == 13 || (i == 14 || (i == 15 || i == 16)))))) hfn (fun a w => Try.call34 a w) (Ok := OkQ nd) (Done := DoneQ nd) (G := fun _ => False) (fun _ h => h.elim) ?hit ?hps ?hlen
    (fun _ => True) (fun pre => stOf [(3, .ptr 3 0), (8, .mp 8 ((shL pre).map strX) (uL (shL pre)))] [(3, [.x (.map (some g))])]) (fun pre x => stOf [(3, .ptr 3 0), (4, .ptr 4 0), (8, .mp 8 ((shL pre).map strX) (uL (shL pre)))] [(3, [.x (.map (some g))]), (4, x.flatMap V.cells)]) (fun _ _ _ => False) trivial ?h0 ?assign ?body ?done ?stop
  case hit =>
    intro m3 O3 hn3 hkn _ m4 w4 hs4 hj4
    exact ranges_iter nd h400 hf ⟨hkn.mono hs4.ext, trivial⟩
  case hps => intro p hp; simp at hp; subst hp; exact ⟨rfl, by decide⟩
  case hlen =>
    intro pre x hok
    obtain ⟨q, _, rfl⟩ := hok x (by simp)
    rfl
  case h0 => exact le_stOf (by simp (decide := true) (maxDischargeDepth := 200) only [go_sem, Nat.reduceBEq] <;> (repeat' first | rfl | constructor)) (by simp (decide := true) (maxDischargeDepth := 200) only [go_sem, Nat.reduceBEq] <;> (repeat' first | rfl | constructor))
  case assign =>
    intro pre x lp B' a3 w3 hok hinv _ _ hW' ht0 ho
    obtain ⟨q, hq, rfl⟩ := hok x (by simp)
    refine one_TW hE hm [(3, .ptr 3 0), (4, .ptr 4 0), (8, .mp 8 ((shL pre).map strX) (uL (shL pre)))] [(3, [.x (.map (some g))]), (4, [.x (.string q.1.1), .x (.int .i64 q.1.2.1), .x (.int .i64 q.1.2.2), .x (.string q.2.1), .x (.int .i64 q.2.2.1), .x (.int .i64 q.2.2.2)])] (by kernel_rfl) (by rw [hW']; kernel_rfl) ho (by simp (decide := true) (maxDischargeDepth := 200) only [go_sem, Nat.reduceBEq, rgV, List.flatMap_cons, List.flatMap_nil, List.append_nil] <;> (repeat' first | rfl | constructor)) (fun a4 w4 h4 => ⟨rfl, h4⟩)
  case body =>
    intro pre x lp B' a3 w3 hok hinv _ _ hW' ht0 ho
    obtain ⟨q, hq, rfl⟩ := hok x (by simp)
    have hsh : shOf [rgV q] = q.1.1 := rfl
    refine wpIn_block (wpIn_region ?_)
    refine one_SW hE 0 5 [(3, .ptr 3 0), (8, .mp 8 ((shL pre).map strX) (uL (shL pre))), (12, .x (.map (some g))), (15, .x (.string q.1.1)), (16, .agg [])] [(3, [.x (.map (some g))])] [5] (by decide) (by kernel_rfl) (by rw [hW']; kernel_rfl) ho (by simp (decide := true) (maxDischargeDepth := 200) only [go_sem, Nat.reduceBEq, rgV, List.flatMap_cons, List.flatMap_nil, List.append_nil] <;> (repeat' first | rfl | constructor)) ?_
    intro a4 w4 h4
    have h8 : a4.tmps.getD 8 Go.undef = .map (some g) := by
      rw [h4.kept (i := 8) (by rw [hW']; rfl), ht0, hk2]
    have h12 : a4.tmps.getD 12 Go.undef = .map (some g) := by
      obtain ⟨m5, O5, hn5, _⟩ := h4
      exact hn5.read_x 12 (by simp only [go_sem, Nat.reduceEqDiff, if_false, if_true, tOf, stOf])
    have h5 := h4.alias (i := 8) (d := 12) (s := 8) (ks := (shL pre).map strX) (vs := uL (shL pre)) (by simp only [go_sem, Nat.reduceEqDiff, if_false, if_true, tOf, stOf]) (by decide) (h12.trans h8.symm)
    have hput : putM Try.prog 48 ((shL pre).map strX) (uL (shL pre)) (.x (.string q.1.1)) (.agg []) = some ((putS (shL pre) q.1.1).map strX, uL (putS (shL pre) q.1.1)) := put_str (shL pre) q.1.1
    refine one_SW hE 5 1 [(3, .ptr 3 0), (8, .mp 8 ((shL (pre ++ [[rgV q]])).map strX) (uL (shL (pre ++ [[rgV q]]))))] [(3, [.x (.map (some g))])] [] (by decide) (by kernel_rfl) (by rw [hW']; kernel_rfl) h5 (by rw [shL_snoc, hsh]; simp (decide := true) (maxDischargeDepth := 200) only [go_sem, Nat.reduceBEq, hput] <;> (repeat' first | rfl | constructor)) ?_
    intro a6 w6 h6
    exact ⟨_, h6, trivial, le_stOf (by simp (decide := true) (maxDischargeDepth := 200) only [go_sem, Nat.reduceBEq] <;> (repeat' first | rfl | constructor)) (by simp (decide := true) (maxDischargeDepth := 200) only [go_sem, Nat.reduceBEq] <;> (repeat' first | rfl | constructor))⟩
  case stop => intro _ _ _ _ _ _ h; exact h.elim
  case done =>
    intro xs b a' w' hd hinv hta h3
    refine wpIn_seq (wpIn_region ?_)
    refine one_SW hE 0 1 [(8, .mp 8 ((shL xs).map strX) (uL (shL xs))), (17, .x (.map (some g)))] [] [1, 2, 3] (by decide) (by kernel_rfl) (by kernel_rfl) h3 (by simp (decide := true) (maxDischargeDepth := 200) only [go_sem, Nat.reduceBEq] <;> (repeat' first | rfl | constructor)) ?_
    clear h3 hta
    intro a4 w4 h4
    have h17 : a4.tmps.getD 17 Go.undef = .map (some g) := by
      obtain ⟨m5, O5, hn5, _⟩ := h4
      exact hn5.read_x 17 (by simp only [go_sem, Nat.reduceEqDiff, if_false, if_true, tOf, stOf])
    refine one_call (n := 34) (d := 18) (f := 23) (Kno.rd (.pointer (some ⟨w4.heap.size, 0, none⟩)) (.ip [.x (.map (some g))])) rfl rfl rfl (by decide) rfl (fun a w => Try.call23 a w) h4 (R := fun e w' => e = .returned (.func (.func 38) #[] #[.pointer (some ⟨w4.heap.size, 0, none⟩)]) ∧ w' = w4.alloc (.cells #[.map (some g)] 48)) (fun m1 O1 hn1 _ => ?keys) ?_
    case keys =>
      have e1 : a4.eval (.tmp 17) = .map (some g) := h17
      rw [show Array.map a4.eval #[.tmp 17] = #[a4.eval (.tmp 17)] from by simp, e1]
      exact keysS_call g w4
    intro m7 O7 hn7 _ e w5 he
    obtain ⟨rfl, rfl⟩ := he
    obtain ⟨hs5, hr5⟩ := box_x (m := m7) (w := w4) (v := .map (some g)) (ty := 48) rfl
    refine ⟨_, _, .undef, rfl, hs5, hE.keep [] _ _ (fun x hx => by cases hx) hn7.J (hs5.bel (fun k _ h => h.elim)), .undef _, hr5, fun h5 => ?_⟩
    have hf18 : (a4.put (some 18) (.func (.func 38) #[] #[.pointer (some ⟨w4.heap.size, 0, none⟩)])).eval (.tmp 18) = .func (.func 38) #[] #[.pointer (some ⟨w4.heap.size, 0, none⟩)] := by
      have hz : a4.tmps.size = 34 := by obtain ⟨_, _, hr⟩ := hn7.rel; exact hr.size
      show ((a4.put (some 18) _).tmps.getD 18 Go.undef) = _
      simp [Act.put, Array.getD_eq_getD_getElem?, hz]
    clear hn7 hs5 hr5 h4
    generalize (a4.put (some 18) (.func (.func 38) #[] #[.pointer (some ⟨w4.heap.size, 0, none⟩)])) = a5 at h5 hf18
    generalize w4.alloc _ = w5 at h5
    obtain ⟨m5, O5, q1, q2, q3, q4, q5, q6⟩ := h5
    have hk5 : a5.tmps.getD 8 Go.undef = .map (some g) := (q6 8 rfl).trans hg8
    obtain ⟨hmp, hO⟩ := q1.map_at (i := 8) (s := 8) (ks := (shL xs).map strX) (vs := uL (shL xs)) (by simp only [go_sem, Nat.reduceEqDiff, if_false, if_true, tOf, stOf]) hk5
    have hsl := sh_len hd h400
    have hks : ∀ k ∈ (shL xs).map strX, ∃ s : ByteArray, k = .x (.string s) := by
      intro k hk
      obtain ⟨s, _, rfl⟩ := List.mem_map.1 hk
      exact ⟨s, rfl⟩
    have hS := sortedS hks (by rw [List.length_map]; omega) hmp q5 (q1.K g hO) q1.J (fun w' hb => hE.keep [] _ _ (fun x hx => by cases hx) q1.J ⟨hb.os, hb.tape, hb.output, hb.size, fun k hk _ => hb.block k hk⟩)
    refine one_callX (i := 2) (rest := [3]) rfl rfl rfl rfl (fun a w => Try.call22 a w) (by rw [show Array.map a5.eval #[.tmp 18] = #[a5.eval (.tmp 18)] from by simp, hf18]; exact hS) ?_
    rintro e w6 ⟨v, m6, l, rfl, hperm, hpw, hj6, hst6, hrow⟩
    have hinj : ∀ s : ByteArray, s ∈ l ↔ s ∈ shL xs := fun s => by
      have h1 := hperm.mem_iff (a := strX s)
      simp only [List.mem_map, strX, V.x.injEq, Value.string.injEq, exists_eq_right] at h1
      exact h1
    have hnd : l.Nodup := nodup_of_map strX (hperm.nodup_iff.2 (List.Pairwise.map strX (fun a b hab e => hab (by simp only [strX, V.x.injEq, Value.string.injEq] at e; exact e)) (sh_nodup xs)))
    have hsrt : Srt strL l := (hpw.and hnd).imp (fun {a b} hab => by
      cases h : strL a b with
      | true => rfl
      | false => exact absurd (str_tot.tri _ _ h hab.1) hab.2)
    have hl : l = sheetsL (readsN nd) := sheets_eq hsrt (fun s => (hinj s).trans (sh_all hd s))
    have hshort : ∀ s ∈ l, s.size ≤ 8 := fun s hs => sh_short ((sh_all hd s).1 ((hinj s).1 hs))
    have hlen : l.length ≤ 400 := by
      have := hperm.length_eq
      rw [List.length_map, List.length_map] at this
      omega
    rw [← hl]
    clear hl hsrt hnd hinj hpw hperm hmp hk5 hf18 hfn hk2 h2
    refine ⟨v, rfl, ?_⟩
    rcases hrow with ⟨hl0, rfl⟩ | ⟨blk, cap, cur, ty, hl0, rfl, hge, hcur, hsz, hle, hbox⟩
    · obtain rfl := List.eq_nil_of_length_eq_zero hl0
      have h6 := One.after (Kn' := Kno.top) (d := 19) (by decide) (v := .slice none 0 0) (u := .sl true 1 [] none) q1 q2 q3 q4 q6 rfl hst6 hj6 (.nil _ _) trivial
      refine one_SW hE 3 1 [(5, .sl true 1 [] none)] [] [] (by decide) (by kernel_rfl) (by kernel_rfl) h6 (by simp (decide := true) (maxDischargeDepth := 200) only [go_sem, Nat.reduceBEq] <;> (repeat' first | rfl | constructor)) ?_
      clear h6
      intro a7 w7 h7
      refine wpIn_mono (run_one hE hm (K := endR [(2, .sl true 1 [] none)] []) (by kernel_rfl) (by kernel_rfl) h7 ?_) ?_
      · simp (decide := true) (maxDischargeDepth := 200) only [go_sem]
        refine loop_of (X := Unit) (fun _ => [(5, .sl true 1 [] none), (20, .sl true 1 [] none), (21, .x (.int .i64 0)), (22, .x (.int .i64 0))]) (fun _ => []) (fun _ => 0) () (by simp (decide := true) (maxDischargeDepth := 200) only [go_sem, Nat.reduceBEq] <;> (repeat' first | rfl | constructor)) (by simp (decide := true) (maxDischargeDepth := 200) only [go_sem, Nat.reduceBEq] <;> (repeat' first | rfl | constructor)) (fun _ => ?_)
        simp (decide := true) (maxDischargeDepth := 200) only [go_sem]
      · rintro e a8 w8 ⟨o, st8, ho, hK, h8⟩
        cases o with
        | normal => exact hK.elim
        | exit i => exact hK.elim
        | ret =>
          cases e <;> simp only [outE, Option.some.injEq, reduceCtorEq] at ho
          exact ⟨.inr rfl, _, _, _, _, _, h8.le (le_stOf hK.1 hK.2), by simp (decide := true) (maxDischargeDepth := 200) only [go_sem, Try.results9]; rfl⟩
    · have h6 := One.row hE (Kn' := Kno.top) (d := 19) (g := blk) (sz := 1) (len := l.length) (cs := l.map strX) (by decide) (by decide) rfl q1 q3 q4 q6 rfl hst6 hj6 hge hbox hcur hsz hle (by simp) trivial
      replace h6 := h6.le (le_stOf (ts := [(19, .row 19 1 l.length)]) (bs := [(19, l.map strX)]) (by simp (decide := true) (maxDischargeDepth := 200) only [go_sem, Nat.reduceBEq] <;> (repeat' first | rfl | constructor)) (by simp (decide := true) (maxDischargeDepth := 200) only [go_sem, Nat.reduceBEq] <;> (repeat' first | rfl | constructor)))
      refine one_SW hE 3 1 [(5, .row 19 1 l.length)] [(19, l.map strX)] [] (by decide) (by kernel_rfl) (by kernel_rfl) h6 (by simp (decide := true) (maxDischargeDepth := 200) only [go_sem, Nat.reduceBEq] <;> (repeat' first | rfl | constructor)) ?_
      clear h6
      intro a7 w7 h7
      refine wpIn_mono (run_one hE hm (K := endR [(2, .row 19 1 l.length)] [(19, l.map strX)]) (by kernel_rfl) (by kernel_rfl) h7 ?_) ?_
      · simp (decide := true) (maxDischargeDepth := 200) only [go_sem]
        refine loop_of (X := {i : Nat // i ≤ l.length}) (fun i => [(5, .row 19 1 l.length), (20, .row 19 1 l.length), (21, .x (.int .i64 ((l.length : Nat) : Int))), (22, .x (.int .i64 ((i.1 : Nat) : Int)))]) (fun _ => [(19, l.map strX)]) (fun i => l.length - i.1) ⟨0, by omega⟩ (by simp (decide := true) (maxDischargeDepth := 200) only [go_sem, Nat.reduceBEq] <;> (repeat' first | rfl | constructor)) (by simp (decide := true) (maxDischargeDepth := 200) only [go_sem, Nat.reduceBEq] <;> (repeat' first | rfl | constructor)) (fun ⟨i, hi0⟩ => ?_)
        by_cases hi : i < l.length
        · obtain ⟨s, hs⟩ : ∃ s, l[i]? = some s := ⟨l[i], List.getElem?_eq_getElem hi⟩
          have c1 : decide ((i : Int) < ((l.length : Nat) : Int)) = true := decide_eq_true (by omega)
          have c2 : (0 : Int) ≤ (i : Int) := by omega
          have c4 := count_up (i := i) (by omega)
          have c5 : (l.map strX)[i]? = some (.x (.string s)) := by rw [List.getElem?_map, hs]; rfl
          have c8 : (i : Int) < ((l.length : Nat) : Int) := by omega
          have c9 : i + 1 ≤ l.length := by omega
          have c10 : List.take i (l.map strX) ++ [V.x (.string s)] ++ List.drop (i + 1) (l.map strX) = l.map strX := by
            have h1 : (l.map strX).drop i = V.x (.string s) :: (l.map strX).drop (i + 1) := by
              rw [List.drop_eq_getElem_cons (by rw [List.length_map]; omega)]
              rw [List.getElem?_eq_getElem (by rw [List.length_map]; omega)] at c5
              rw [Option.some.inj c5]
            rw [List.append_assoc, List.singleton_append, ← h1, List.take_append_drop]
          have c6 := hshort s (List.mem_of_getElem? hs)
          have c7 : FClone [.x (.string s)] = some (.x (.string s)) := if_pos (by omega)
          simp (decide := true) (maxDischargeDepth := 200) only [go_sem, c1, c2, c4, c5, c7, c8, c9, c10, Int.toNat_natCast, Nat.mul_one, List.length_map]
          refine ⟨⟨i + 1, by omega⟩, ?_, ?_, by simp only; omega⟩ <;> simp (decide := true) (maxDischargeDepth := 200) only [go_sem]
        · have c1 : decide ((i : Int) < ((l.length : Nat) : Int)) = false := decide_eq_false (by omega)
          simp (decide := true) (maxDischargeDepth := 200) only [go_sem, c1]
      · rintro e a8 w8 ⟨o, st8, ho, hK, h8⟩
        cases o with
        | normal => exact hK.elim
        | exit i => exact hK.elim
        | ret =>
          cases e <;> simp only [outE, Option.some.injEq, reduceCtorEq] at ho
          have hfl := flat_str l
          have h9 := (h8.le (le_stOf hK.1 hK.2)).froze (i := 2) (s := 19) (sz := 1) (es := l.map strX) rfl (by rw [List.length_map]; rfl) (by rw [hfl]; rfl) (fun e he => by
            obtain ⟨s, _, rfl⟩ := List.mem_map.1 he
            rfl) (fun d hd m w v hr m' w' => by
            rw [hfl] at hd
            obtain ⟨s, _, rfl⟩ := List.mem_map.1 hd
            cases hr
            exact .x _)
          have hne : l.isEmpty = false := by
            cases l with
            | nil => exact absurd hl0 (by simp)
            | cons x l => rfl
          exact ⟨.inr rfl, _, _, _, _, _, h9, by rw [hne]; simp (decide := true) (maxDischargeDepth := 200) only [go_sem, Try.results9]; rfl⟩
end Go.Proofs.Ytiphliochoengaa

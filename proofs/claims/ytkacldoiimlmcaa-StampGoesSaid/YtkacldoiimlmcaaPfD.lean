/- The operations that leave memory alone, all of them: 'pureV_sound'. No program is named here. -/
import Derived.Test.YtkacldoiimlmcaaPfC
namespace Go.Proofs.Ytkacldoiimlmcaa
open Go Go.RowKit

section
variable {P : Program} {m : Lim} {w : World} {β : Nat → Nat}

theorem ofVal_rd (v : Value) : Rd m w v (ofVal v) := by
  unfold ofVal
  split
  · exact .nil 0 none
  · exact .x _

theorem RdL.take {vs : List Value} {us : List V} (h : RdL m w vs us) (n : Nat) : RdL m w (vs.take n) (us.take n) := by
  refine RdL.of_get (by simp [h.length]) (fun i v u hv hu => ?_)
  rw [List.getElem?_take] at hv hu
  split at hv
  · rename_i hi
    rw [if_pos hi] at hu
    exact h.get i v u hv hu
  · simp at hv
theorem RdL.drop {vs : List Value} {us : List V} (h : RdL m w vs us) (n : Nat) : RdL m w (vs.drop n) (us.drop n) := by
  refine RdL.of_get (by simp [h.length]) (fun i v u hv hu => ?_)
  rw [List.getElem?_drop] at hv hu
  exact h.get _ v u hv hu
theorem RdL.append {vs vs' : List Value} {us us' : List V} (h : RdL m w vs us) (h' : RdL m w vs' us') : RdL m w (vs ++ vs') (us ++ us') := by
  induction vs generalizing us with
  | nil => cases us with
    | nil => exact h'
    | cons u us => exact h.elim
  | cons v vs ih => cases us with
    | nil => exact h.elim
    | cons u us => exact ⟨h.1, ih h.2⟩

theorem sets_toList (l : List Value) : ∀ (off j : Nat) (cs : Array Value), off + j + l.length ≤ cs.size →
    ((l.zipIdx j).foldl (fun cs (p : Value × Nat) => cs.setIfInBounds (off + p.2) p.1) cs).toList = cs.toList.take (off + j) ++ l ++ cs.toList.drop (off + j + l.length) := by
  induction l with
  | nil => intro off j cs h; simp
  | cons c l ih =>
    intro off j cs h
    simp only [List.length_cons] at h
    rw [List.zipIdx_cons, List.foldl_cons, ih off (j + 1) _ (by simp; omega)]
    simp only [Array.toList_setIfInBounds, List.length_cons]
    have hlt : off + j < cs.toList.length := by simp; omega
    apply List.ext_getElem?
    intro k
    simp only [List.getElem?_append, List.length_append, List.length_take, List.length_set, List.getElem?_take, List.getElem?_drop, List.getElem?_set, List.length_cons]
    simp only [Array.length_toList]
    by_cases h1 : k < off + j
    · rw [if_pos (by omega), if_pos (by omega), if_pos (by omega), if_neg (by omega), if_pos (by omega), if_pos (by omega), if_pos (by omega)]
    · by_cases h2 : k = off + j
      · subst h2
        rw [if_pos (by omega), if_pos (by omega), if_pos (by omega), if_pos rfl, if_pos (by omega), if_pos (by omega), if_neg (by omega)]
        have : off + j - min (off + j) cs.size = 0 := by omega
        simp [this]
      · by_cases h3 : k < off + j + 1 + l.length
        · rw [if_pos (by omega), if_neg (by omega), if_pos (by omega), if_neg (by omega)]
          have : k - min (off + j) cs.size = (k - min (off + (j + 1)) cs.size) + 1 := by omega
          rw [this, List.getElem?_cons_succ]
        · rw [if_neg (by omega), if_neg (by omega), if_neg (by omega)]
          congr 1
          omega

theorem fillV_sound {place : Nat → Option (Nat × Nat)} : ∀ {parts : List (Nat × V)} {vs : List (Nat × Value)} {cells : List V} {cs : Array Value} {us : List V},
    RdL m w cs.toList cells → (vs.map (·.1) = parts.map (·.1)) → (∀ (i : Nat) (v : Nat × Value) (u : Nat × V), vs[i]? = some v → parts[i]? = some u → Rs m w β v.2 u.2) →
    fillV place cells parts = some us → ∃ cs', Instr.fill place cs vs = some cs' ∧ RdL m w cs'.toList us
  | [], vs, cells, cs, us, hr, hm, _, h => by
    cases vs with
    | nil => simp [fillV] at h; subst h; exact ⟨cs, rfl, hr⟩
    | cons v vs => simp at hm
  | (i, u) :: parts, vs, cells, cs, us, hr, hm, hv, h => by
    cases vs with
    | nil => simp at hm
    | cons v vs =>
      obtain ⟨i', v⟩ := v
      simp only [List.map_cons, List.cons.injEq] at hm
      obtain ⟨rfl, hm⟩ := hm
      unfold fillV at h
      split at h
      · simp at h
      · rename_i off size hp
        split at h
        · simp at h
        · rename_i hc
          simp only [not_or, Bool.not_eq_false, ne_eq, Decidable.not_not, Nat.not_lt] at hc
          obtain ⟨hd, hl, hle⟩ := hc
          have hru : Rd m w v u := (hv 0 _ _ rfl rfl).dat hd
          have hcells := hru.cells (by rintro rfl; simp [V.dat] at hd) (by rintro a rfl; simp [V.dat] at hd)
          have hlen := hcells.length
          have hlc := hr.length
          simp at hlen hlc
          have hset := sets_toList v.cells.toList off 0 cs (by simp; omega)
          simp only [Nat.add_zero] at hset
          unfold Instr.fill
          rw [hp]
          simp only
          rw [if_neg (by simp; omega)]
          rw [← Array.foldl_toList, Array.toList_zipIdx]
          refine fillV_sound ?_ hm (fun k a b ha hb => hv (k + 1) a b (by simpa using ha) (by simpa using hb)) h
          rw [hset]
          have := ((hr.take off).append hcells).append (hr.drop (off + size))
          simpa [hlen, hl] using this

theorem zeroB_sound {t : TypeId} {z : List V} (h : zeroB P t = some z) : ∃ v : Value, (zeroValue t).run P w = .ok v w ∧ RdL m w v.cells.toList z := by
  unfold zeroB at h
  cases hi : P.info? t with
  | none => simp [hi] at h
  | some i =>
    cases hz : i.zero with
    | none => simp [hi, hz] at h
    | some v =>
      simp [hi, hz] at h
      subst h
      refine ⟨v, by simp [zeroValue, typeInfo, hi, hz], RdL.of_get (by simp) (fun k a u ha hu => ?_)⟩
      simp only [List.getElem?_map, Option.map_eq_some_iff] at hu
      obtain ⟨a', ha', rfl⟩ := hu
      rw [ha] at ha'
      cases ha'
      exact ofVal_rd _

theorem mapM_places (fs : List Field) (l : List (Nat × Nat)) (h : fs.mapM (fun f => (szB P f.type).map fun n => (f.offset, n)) = some l) :
    (fs.mapM (fun f => (do pure (f.offset, ← sizeOf f.type) : Sem (Nat × Nat)))).run P w = .ok l w := by
  induction fs generalizing l with
  | nil => simp at h; subst h; simp
  | cons f fs ih =>
    simp only [List.mapM_cons] at h ⊢
    cases hs : szB P f.type with
    | none => simp [hs] at h
    | some n =>
      cases hr : fs.mapM (fun f => (szB P f.type).map fun n => (f.offset, n)) with
      | none => simp [hs, hr] at h
      | some r =>
        simp [hs, hr] at h
        subst h
        simp only [Sem.run_bind, run_szB hs, Result.andThen_ok, Sem.run_pure, ih r hr]

theorem run_equalIn_nil (d : Nat) {t e : TypeId} (ht : P.underlying t = some (.slice e)) (a : Option Addr) (n c n' c' : Nat) :
    (Op.equalIn (d + 1) t (.slice a n c) (.slice none n' c')).run P w = .ok a.isNone w := by
  cases a <;> simp only [Op.equalIn, Sem.run_bind, run_und ht, Result.andThen_ok, Sem.run_pure, Option.isNone_none, Option.isNone_some]

theorem run_equalIn_dyn (d : Nat) {t t1 : TypeId} {ms : Array (String × TypeId)} (ht : P.underlying t = some (.interface ms)) (v : Value) : (Op.equalIn (d + 1) t (.iface t1 v) .nilIface).run P w = .ok false w := by
  simp only [Op.equalIn, Sem.run_bind, run_und ht, Result.andThen_ok, Sem.run_pure]
theorem run_equalIn_nils (d : Nat) {t : TypeId} {ms : Array (String × TypeId)} (ht : P.underlying t = some (.interface ms)) : (Op.equalIn (d + 1) t .nilIface .nilIface).run P w = .ok true w := by
  simp only [Op.equalIn, Sem.run_bind, run_und ht, Result.andThen_ok, Sem.run_pure]
theorem run_equalIn_ptr (d : Nat) {t e : TypeId} (ht : P.underlying t = some (.pointer e)) (a : Addr) : (Op.equalIn (d + 1) t (.pointer (some a)) (.pointer none)).run P w = .ok false w := by
  simp only [Op.equalIn, Sem.run_bind, run_und ht, Result.andThen_ok, Sem.run_pure]
theorem ptr_nil {op : BinOp} {t : TypeId} {xo yo : Operand} {x : Value} {u : V} {ad : Addr} (hx : x = .pointer (some ad)) (h : (match op, P.underlying t with
    | .eql, some (.pointer _) => some (V.bool false)
    | .neq, some (.pointer _) => some (V.bool true)
    | _, _ => none) = some u) : ∃ v, ((do eqGuard op t xo yo x (.pointer none); binOp op t x (.pointer none) : Sem Value)).run P w = .ok v w ∧ Rd m w v u := by
  subst hx
  have hg : (eqGuard op t xo yo (.pointer (some ad)) (.pointer none)).run P w = .ok () w := by cases op <;> simp [eqGuard]
  simp only [Sem.run_bind, hg, Result.andThen_ok]
  split at h
  · rename_i e ht
    cases h
    have heq : (Op.equal t (.pointer (some ad)) (.pointer none)).run P w = .ok false w := run_equalIn_ptr 9999 ht ad
    exact ⟨_, by simp [binOp, heq], .x _⟩
  · rename_i e ht
    cases h
    have heq : (Op.equal t (.pointer (some ad)) (.pointer none)).run P w = .ok false w := run_equalIn_ptr 9999 ht ad
    exact ⟨_, by simp [binOp, heq], .x _⟩
  · cases h
theorem run_eqGuard_nils {op : BinOp} {t : TypeId} {xo yo : Operand} (h : (isC xo || isC yo) = true) : (eqGuard op t xo yo .nilIface .nilIface).run P w = .ok () w := by
  cases xo with
  | const v => cases op <;> simp [eqGuard]
  | tmp i => cases yo with
    | const v => cases op <;> simp [eqGuard]
    | _ => simp [isC] at h
  | global i => cases yo with
    | const v => cases op <;> simp [eqGuard]
    | _ => simp [isC] at h
  | func i => cases yo with
    | const v => cases op <;> simp [eqGuard]
    | _ => simp [isC] at h

theorem binV_sound {op : BinOp} {t : TypeId} {xo yo : Operand} {x y : Value} {a b u : V} (hx : Rs m w β x a) (hy : Rs m w β y b) (h : binV P (isC xo || isC yo) op t a b = some u) :
    ∃ v, ((do eqGuard op t xo yo x y; binOp op t x y : Sem Value)).run P w = .ok v w ∧ Rd m w v u := by
  unfold binV at h
  split at h
  · rename_i k p k' q
    obtain rfl := hx.x; obtain rfl := hy.x
    have hg : (eqGuard op t xo yo (.int k p) (.int k' q)).run P w = .ok () w := by cases op <;> simp [eqGuard]
    simp only [Sem.run_bind, hg, Result.andThen_ok]
    split at h
    · split at h
      · simp at h
      · rename_i hb; cases h; exact ⟨_, by simp [binOp, Op.shift, hb, bShl_eq], .x _⟩
    · split at h
      · simp at h
      · rename_i hb; cases h; exact ⟨_, by simp [binOp, Op.shift, hb, bShr_eq], .x _⟩
    · split at h
      · rename_i h1 h2 hk
        subst hk
        exact intV_sound ⟨h1, h2⟩ h
      · simp at h
  · obtain rfl := hx.x; obtain rfl := hy.x
    rename_i p q
    have hg : (eqGuard op t xo yo (.string p) (.string q)).run P w = .ok () w := by cases op <;> simp [eqGuard]
    simp only [Sem.run_bind, hg, Result.andThen_ok]
    exact strV_sound h
  · obtain rfl := hx.x; obtain rfl := hy.x
    rename_i p q
    have hg : (eqGuard op t xo yo (.bool p) (.bool q)).run P w = .ok () w := by cases op <;> simp [eqGuard]
    simp only [Sem.run_bind, hg, Result.andThen_ok]
    split at h
    · rename_i ht; cases h
      exact ⟨_, by simp [binOp, Op.equal, Op.maxDepth, run_equalIn_bool' w 9999 t p q ht], .x _⟩
    · rename_i ht; cases h
      exact ⟨_, by simp [binOp, Op.equal, Op.maxDepth, run_equalIn_bool' w 9999 t p q ht], .x _⟩
    · simp at h
  · rename_i xs ys
    obtain ⟨xa, rfl, hxa⟩ := hx.agg
    obtain ⟨ya, rfl, hya⟩ := hy.agg
    split at h
    · simp at h
    · rename_i hgt
      have hg := run_eqGuard_agg (P := P) w op t xo yo xa ya (by simpa using hgt)
      simp only [Sem.run_bind, hg, Result.andThen_ok]
      split at h
      · rename_i r hr
        cases h
        have := eqB_sound (w := w) (m := m) P 20 t _ _ _ _ _ hr (Rd.agg_iff.2 ⟨xa, rfl, hxa⟩) (Rd.agg_iff.2 ⟨ya, rfl, hya⟩) 10000 (by decide)
        exact ⟨_, by rw [run_eql_struct, this]; rfl, .x _⟩
      · rename_i r hr
        cases h
        have := eqB_sound (w := w) (m := m) P 20 t _ _ _ _ _ hr (Rd.agg_iff.2 ⟨xa, rfl, hxa⟩) (Rd.agg_iff.2 ⟨ya, rfl, hya⟩) 10000 (by decide)
        exact ⟨_, by rw [run_neq_struct, this]; rfl, .x _⟩
      · simp at h
  · rename_i na sz1 es1 tk nb sz2 es tk2
    obtain ⟨a1, c1, rfl, hn1, _⟩ := hx.sl
    obtain ⟨a2, c2, rfl, hn2, _⟩ := hy.sl
    have hg : (eqGuard op t xo yo (.slice a1 es1.length c1) (.slice a2 es.length c2)).run P w = .ok () w := by cases op <;> simp [eqGuard]
    simp only [Sem.run_bind, hg, Result.andThen_ok]
    split at h
    · rename_i e ht
      split at h
      · rename_i hb
        cases h
        simp only [Bool.and_eq_true] at hb
        obtain ⟨hb, _⟩ := hb
        subst hb
        have h2 : a2 = none := by simpa using hn2.symm
        subst h2
        have heq : (Op.equal t (.slice a1 es1.length c1) (.slice none es.length c2)).run P w = .ok na w := by
          rw [hn1]
          exact run_equalIn_nil 9999 ht _ _ _ _ _
        exact ⟨_, by simp [binOp, heq], .x _⟩
      · simp at h
    · rename_i e ht
      split at h
      · rename_i hb
        cases h
        simp only [Bool.and_eq_true] at hb
        obtain ⟨hb, _⟩ := hb
        subst hb
        have h2 : a2 = none := by simpa using hn2.symm
        subst h2
        have heq : (Op.equal t (.slice a1 es1.length c1) (.slice none es.length c2)).run P w = .ok na w := by
          rw [hn1]
          exact run_equalIn_nil 9999 ht _ _ _ _ _
        exact ⟨_, by simp [binOp, heq], .x _⟩
      · simp at h
    · simp at h
  · rename_i t1
    obtain rfl := hy.x
    have hd := hx.rd (by intros; simp)
    cases hd with
    | dyn _ v =>
      have hg : (eqGuard op t xo yo (.iface t1 v) .nilIface).run P w = .ok () w := by cases op <;> simp [eqGuard]
      simp only [Sem.run_bind, hg, Result.andThen_ok]
      split at h
      · rename_i ms ht
        cases h
        have heq : (Op.equal t (.iface t1 v) .nilIface).run P w = .ok false w := run_equalIn_dyn 9999 ht v
        exact ⟨_, by simp [binOp, heq], .x _⟩
      · rename_i ms ht
        cases h
        have heq : (Op.equal t (.iface t1 v) .nilIface).run P w = .ok false w := run_equalIn_dyn 9999 ht v
        exact ⟨_, by simp [binOp, heq], .x _⟩
      · simp at h
  · obtain rfl := hy.x
    have hd := hx.rd (by intros; simp)
    cases hd with
    | ip blk off cs c hb hc hm hr => exact ptr_nil rfl h
  · obtain rfl := hy.x
    exact ptr_nil hx.ptr h
  · obtain rfl := hx.x; obtain rfl := hy.x
    split at h
    · rename_i hlit
      have hg : (eqGuard op t xo yo .nilIface .nilIface).run P w = .ok () w := run_eqGuard_nils hlit
      simp only [Sem.run_bind, hg, Result.andThen_ok]
      split at h
      · rename_i ms ht
        cases h
        have heq : (Op.equal t .nilIface .nilIface).run P w = .ok true w := run_equalIn_nils 9999 ht
        exact ⟨_, by simp [binOp, heq], .x _⟩
      · rename_i ms ht
        cases h
        have heq : (Op.equal t .nilIface .nilIface).run P w = .ok true w := run_equalIn_nils 9999 ht
        exact ⟨_, by simp [binOp, heq], .x _⟩
      · simp at h
    · simp at h
  · simp at h
end
end Go.Proofs.Ytkacldoiimlmcaa

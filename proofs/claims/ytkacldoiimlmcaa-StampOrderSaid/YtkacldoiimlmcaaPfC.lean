/- The operations that leave memory alone: what the run over plain data says is what the program's operation makes. No program is named here. -/
import Derived.Test.YtkacldoiimlmcaaPfB
namespace Go.Proofs.Ytkacldoiimlmcaa
open Go Go.RowKit

/-- A slot's value: plain data, or the address of one of the call's own variables. -/
def Rs (m : Lim) (w : World) (β : Nat → Nat) (v : Value) (u : V) : Prop := Rd m w v u ∨ (∃ s off, u = .ptr s off ∧ v = .pointer (some ⟨β s, off, none⟩)) ∨ (∃ s sz len cap, u = .row s sz len ∧ v = .slice (some ⟨β s, 0, none⟩) len cap ∧ len ≤ cap) ∨ ∃ s ks vs, u = .mp s ks vs ∧ v = .map (some (β s))

section
variable {P : Program} {m : Lim} {w : World} {β : Nat → Nat}

theorem Rd.not_ptr {v : Value} {s off : Nat} (h : Rd m w v (.ptr s off)) : False := by cases h
theorem Rd.not_row {v : Value} {s z l : Nat} (h : Rd m w v (.row s z l)) : False := by cases h
theorem Rd.not_mp {v : Value} {s : Nat} {ks vs : List V} (h : Rd m w v (.mp s ks vs)) : False := by cases h
theorem Rs.rd {v : Value} {u : V} (h : Rs m w β v u) (hu : u.nm = none) : Rd m w v u := by
  rcases h with h | ⟨s, off, rfl, _⟩ | ⟨s, sz, len, cap, rfl, _⟩ | ⟨s, ks, vs, rfl, _⟩
  · exact h
  · cases hu
  · cases hu
  · cases hu
theorem Rs.ptr {v : Value} {s off : Nat} (h : Rs m w β v (.ptr s off)) : v = .pointer (some ⟨β s, off, none⟩) := by
  rcases h with h | ⟨s', off', he, rfl⟩ | ⟨s', sz, len, cap, he, _⟩ | ⟨s', ks, vs, he, _⟩
  · exact h.not_ptr.elim
  · cases he; rfl
  · cases he
  · cases he
theorem Rs.row {v : Value} {s sz len : Nat} (h : Rs m w β v (.row s sz len)) : ∃ cap, v = .slice (some ⟨β s, 0, none⟩) len cap ∧ len ≤ cap := by
  rcases h with h | ⟨s', off', he, rfl⟩ | ⟨s', sz', len', cap, he, hv⟩ | ⟨s', ks, vs, he, _⟩
  · exact h.not_row.elim
  · cases he
  · cases he; exact ⟨cap, hv⟩
  · cases he
theorem Rs.mp {v : Value} {s : Nat} {ks vs : List V} (h : Rs m w β v (.mp s ks vs)) : v = .map (some (β s)) := by
  rcases h with h | ⟨s', off', he, rfl⟩ | ⟨s', sz', len', cap, he, hv⟩ | ⟨s', ks', vs', he, hv⟩
  · exact h.not_mp.elim
  · cases he
  · cases he
  · cases he; exact hv
theorem Rs.ofMp (s : Nat) (ks vs : List V) : Rs m w β (.map (some (β s))) (.mp s ks vs) := .inr (.inr (.inr ⟨s, ks, vs, rfl, rfl⟩))
theorem Rs.ofPtr (s off : Nat) : Rs m w β (.pointer (some ⟨β s, off, none⟩)) (.ptr s off) := .inr (.inl ⟨s, off, rfl, rfl⟩)
theorem Rs.ofRow (s sz : Nat) {len cap : Nat} (h : len ≤ cap) : Rs m w β (.slice (some ⟨β s, 0, none⟩) len cap) (.row s sz len) := .inr (.inr (.inl ⟨s, sz, len, cap, rfl, rfl, h⟩))
theorem Rs.dat {v : Value} {u : V} (h : Rs m w β v u) (hu : u.dat = true) : Rd m w v u := h.rd (by cases u <;> first | rfl | (simp [V.dat] at hu))
theorem Rs.x {v u : Value} (h : Rs m w β v (.x u)) : v = u := Rd.x_iff.1 (h.rd (by intros; simp))
theorem Rs.agg {v : Value} {us : List V} (h : Rs m w β v (.agg us)) : ∃ cs : Array Value, v = .agg cs ∧ RdL m w cs.toList us := Rd.agg_iff.1 (h.rd (by intros; simp))
theorem Rs.tup {v : Value} {us : List V} (h : Rs m w β v (.tup us)) : ∃ cs : Array Value, v = .tuple cs ∧ RdL m w cs.toList us := Rd.tup_iff.1 (h.rd (by intros; simp))
theorem Rs.of {v : Value} {u : V} (h : Rd m w v u) : Rs m w β v u := .inl h
theorem Rs.sl {v : Value} {nl : Bool} {sz : Nat} {es : List V} {tok : Option Nat} (h : Rs m w β v (.sl nl sz es tok)) : ∃ a cap, v = .slice a es.length cap ∧ (nl = a.isNone) ∧ (nl = true → es = []) := by
  have h := h.rd (by intros; simp)
  cases h with
  | nil sz tok => exact ⟨none, 0, rfl, rfl, fun _ => rfl⟩
  | emp a cap sz => exact ⟨some a, cap, rfl, rfl, fun _ => rfl⟩
  | sl blk off cap sz es tok c hb hcap hsz hc hm hr => exact ⟨_, cap, rfl, rfl, fun h => by cases h⟩

theorem Rd.bare {v : Value} {u : V} (h : Rd m w v u) : Rd m w v u.bare := by
  rw [bare_eq]
  cases h with
  | nil sz tok => exact .nil sz none
  | emp a cap sz => exact .emp a cap sz
  | sl blk off cap sz es tok c hb hcap hsz hc hm hr => exact .sl blk off cap sz es none c hb hcap hsz hc hm hr
  | undef v => exact .undef v
  | x v => exact .x v
  | dyn t v => exact .dyn t v
  | fm blk ks vs ents clock hb hh hm hk hv hkey hbn hd hr => exact .fm blk ks vs ents clock hb hh hm hk hv hkey hbn hd hr
  | agg cs Cs hl h => exact .agg cs Cs hl h
  | tup cs Cs hl h => exact .tup cs Cs hl h
  | ip blk off cs c hb hc hm hr => exact .ip blk off cs c hb hc hm hr
theorem Rd.pc {v : Value} {u : V} (h : Rd m w v u) : Rd m w v u.pc := by
  rw [pc_eq]
  unfold pc0
  split
  · cases h with
    | nil sz tok => exact .nil 0 none
  · rw [← bare_eq]
    exact h.bare
theorem Rd.strip {v : Value} {u : V} {s : Nat} (h : Rd m w v u) : Rd m w v (stripV s u) := by
  rw [stripV_eq]
  cases h with
  | nil sz tok => cases tok <;> exact .nil sz _
  | emp a cap sz => exact .emp a cap sz
  | sl blk off cap sz es tok c hb hcap hsz hc hm hr => cases tok <;> exact .sl blk off cap sz es _ c hb hcap hsz hc hm hr
  | undef v => exact .undef v
  | x v => exact .x v
  | dyn t v => exact .dyn t v
  | fm blk ks vs ents clock hb hh hm hk hv hkey hbn hd hr => exact .fm blk ks vs ents clock hb hh hm hk hv hkey hbn hd hr
  | agg cs Cs hl h => exact .agg cs Cs hl h
  | tup cs Cs hl h => exact .tup cs Cs hl h
  | ip blk off cs c hb hc hm hr => exact .ip blk off cs c hb hc hm hr
theorem Rs.bare {v : Value} {u : V} (h : Rs m w β v u) : Rs m w β v u.bare := by
  rcases h with h | ⟨s, off, rfl, rfl⟩ | ⟨s, sz, len, cap, rfl, rfl, hl⟩ | ⟨s, ks, vs, rfl, rfl⟩
  · exact .inl h.bare
  · rw [bare_ptr]; exact .ofPtr _ _
  · rw [bare_row]; exact .ofRow _ _ hl
  · rw [bare_mp]; exact .ofMp _ _ _
theorem Rs.strip {v : Value} {u : V} {s : Nat} (h : Rs m w β v u) : Rs m w β v (stripV s u) := by
  rcases h with h | ⟨s, off, rfl, rfl⟩ | ⟨s, sz, len, cap, rfl, rfl, hl⟩ | ⟨s, ks, vs, rfl, rfl⟩
  · exact .inl h.strip
  · rw [stripV_eq]; exact .ofPtr _ _
  · rw [stripV_eq]; exact .ofRow _ _ hl
  · rw [stripV_eq]; exact .ofMp _ _ _
theorem Rs.kill {v : Value} {u : V} {s : Nat} (h : Rs m w β v u) : Rs m w β v (killV s u) := by
  rcases killV_nm s u with ⟨e, _⟩ | ⟨e, _⟩
  · rw [e]; exact h
  · rw [e]; exact .of (.undef _)
/-- Who names no variable that has moved, means what he meant. -/
theorem Rs.beta {β' : Nat → Nat} {v : Value} {u : V} (h : Rs m w β v u) (hb : ∀ s, u.nm = some s → β' s = β s) : Rs m w β' v u := by
  rcases h with h | ⟨s, off, rfl, rfl⟩ | ⟨s, sz, len, cap, rfl, rfl, hl⟩ | ⟨s, ks, vs, rfl, rfl⟩
  · exact .inl h
  · rw [← hb s rfl]; exact .ofPtr _ _
  · rw [← hb s rfl]; exact .ofRow _ _ hl
  · rw [← hb s rfl]; exact .ofMp _ _ _

theorem run_szB {t : TypeId} {n : Nat} (h : szB P t = some n) : (sizeOf t).run P w = .ok n w := by
  unfold szB at h
  cases hi : P.info? t with
  | none => simp [hi] at h
  | some i => simp [hi] at h; subst h; simp [sizeOf, typeInfo, hi]
theorem run_und {t : TypeId} {d : TypeDesc} (h : P.underlying t = some d) : (underlying t).run P w = .ok d w := by simp [underlying, h]
theorem run_aggB {t : TypeId} {b : Bool} (h : aggB P t = some b) : (isAgg t).run P w = .ok b w := by
  unfold aggB at h
  cases hd : P.underlying t with
  | none => simp [hd] at h
  | some d =>
    rw [hd] at h
    simp only [isAgg, Sem.run_bind, run_und hd, Result.andThen_ok]
    cases d <;> simp at h <;> subst h <;> rfl

theorem partV_sound {t : TypeId} {vs : Array Value} {cs : List V} {off : Nat} {u : V} (hr : RdL m w vs.toList cs) (h : partV P t cs off = some u) :
    ∃ v, (part t vs off).run P w = .ok v w ∧ Rd m w v u := by
  unfold partV at h
  cases ha : aggB P t with
  | none => simp [ha] at h
  | some b =>
    cases hs : szB P t with
    | none => cases b <;> simp [ha, hs] at h
    | some n =>
      cases b with
      | true =>
        simp only [ha, hs] at h
        split at h
        · rename_i hle
          cases h
          refine ⟨_, by simp only [part, Sem.run_bind, run_aggB ha, Result.andThen_ok, if_true, run_szB hs, Sem.run_pure]; rfl, ?_⟩
          rw [Rd.agg_iff]
          refine ⟨_, rfl, RdL.of_get ?_ ?_⟩
          · have := hr.length
            simp at this ⊢
            omega
          · intro i v u hv hu
            simp only [Array.toList_extract, List.extract_eq_take_drop] at hv
            rw [List.getElem?_take] at hv hu
            split at hv
            · rename_i hi
              rw [if_pos (by omega)] at hu
              rw [List.getElem?_drop] at hv hu
              exact hr.get _ v u hv hu
            · simp at hv
        · simp at h
      | false =>
        simp only [ha, hs] at h
        have hl := hr.length
        have hlt : off < cs.length := by
          rcases Nat.lt_or_ge off cs.length with h' | h'
          · exact h'
          · simp [List.getElem?_eq_none h'] at h
        have hv : vs[off]? = some (vs[off]'(by simp at hl; omega)) := Array.getElem?_eq_getElem _
        refine ⟨_, by simp only [part, Sem.run_bind, run_aggB ha, Result.andThen_ok, Bool.false_eq_true, if_false, hv, Sem.run_pure]; rfl, ?_⟩
        exact hr.get off _ u (by simp) h

theorem toList_eq (a b : ByteArray) : (a.toList == b.toList) = decide (a = b) := by
  rw [← beq_toListBytes]
  obtain ⟨⟨x⟩⟩ := a
  obtain ⟨⟨y⟩⟩ := b
  show ((⟨x⟩ : Array UInt8) == ⟨y⟩) = _
  rw [Bool.eq_iff_iff]
  simp
theorem int_eq (a b : Int) : (a == b) = decide (a = b) := by rw [Bool.eq_iff_iff]; simp
theorem int_ne (a b : Int) : (a != b) = !decide (a = b) := by rw [Bool.eq_iff_iff]; simp

theorem eqB_sound (P : Program) : ∀ (d : Nat) (t : TypeId) (x y : Value) (u v : V) (b : Bool), eqB P d t u v = some b → Rd m w x u → Rd m w y v → ∀ D, d ≤ D → (Op.equalIn D t x y).run P w = .ok b w := by
  intro d
  induction d with
  | zero => intro t x y u v b h; simp [eqB] at h
  | succ d ih =>
    intro t x y u v b h hx hy D hD
    obtain ⟨D, rfl⟩ : ∃ D', D = D' + 1 := ⟨D - 1, by omega⟩
    unfold eqB at h
    split at h
    · rename_i a c ht
      obtain rfl := Rd.x_iff.1 hx; obtain rfl := Rd.x_iff.1 hy
      cases h
      exact run_equalIn_bool' w D t a c ht
    · rename_i k' k a k'' c ht
      obtain rfl := Rd.x_iff.1 hx; obtain rfl := Rd.x_iff.1 hy
      split at h
      · rename_i hk
        cases hk
        cases h
        rw [← int_eq]
        exact run_equalIn_int w D t _ _ a c ht
      · simp at h
    · rename_i a c ht
      obtain rfl := Rd.x_iff.1 hx; obtain rfl := Rd.x_iff.1 hy
      cases h
      rw [← toList_eq]
      exact run_equalIn_string w D t a c ht
    · rename_i fs xs ys ht
      obtain ⟨xa, rfl, hxa⟩ := Rd.agg_iff.1 hx
      obtain ⟨ya, rfl, hya⟩ := Rd.agg_iff.1 hy
      split at h
      · simp at h
      · rename_i hst
        have hf : P.fieldsOf t = fs := by simp [Program.fieldsOf, ht]
        rw [run_equalIn_struct w D t xa ya (by rw [hf]; exact ht) (by simp at hst; exact hst), hf]
        generalize fs.toList = l at h
        clear hf ht hst
        induction l generalizing b with
        | nil => simp [eqF] at h; subst h; simp [Op.eqFields]
        | cons f l ihl =>
          unfold eqF at h
          split at h
          · simp at h
          · rename_i hn
            split at h
            · rename_i p q hp hq
              split at h
              · rename_i r1 r2 h1 h2
                cases h
                obtain ⟨pv, hpr, hpd⟩ := partV_sound hxa hp
                obtain ⟨qv, hqr, hqd⟩ := partV_sound hya hq
                have h3 := ih _ _ _ _ _ _ h1 hpd hqd D (by omega)
                have h4 := ihl _ h2
                simp only [Op.eqFields, ne_eq, hn, not_false_eq_true, if_true, Sem.run_bind, hpr, hqr, Result.andThen_ok, h3, Sem.run_ite]
                cases r1
                · simp
                · simp [h4]
              · simp at h
            · simp at h
    · simp at h

theorem intV_sound {op : BinOp} {t : TypeId} {k : IntKind} {a b : Int} {u : V} (hop : op ≠ .shl ∧ op ≠ .shr) (h : intV op k a b = some u) : ∃ v, (binOp op t (.int k a) (.int k b)).run P w = .ok v w ∧ Rd m w v u := by
  obtain ⟨h1, h2⟩ := hop
  cases op <;> simp only [intV] at h
  all_goals first
    | exact absurd rfl h1
    | exact absurd rfl h2
    | (simp at h; done)
    | (cases h; exact ⟨_, by simp [binOp, Op.intArith, Op.intBits, Op.intCmp, int_eq, int_ne, bAnd_eq, bOr_eq, bXor_eq, bAndNot_eq, bWrap_eq], .x _⟩)
    | (split at h
       · simp at h
       · rename_i hb
         cases h
         exact ⟨_, by simp [binOp, Op.intDiv, hb, bWrap_eq], .x _⟩)

theorem strV_sound {op : BinOp} {t : TypeId} {a b : ByteArray} {u : V} (h : strV op a b = some u) : ∃ v, (binOp op t (.string a) (.string b)).run P w = .ok v w ∧ Rd m w v u := by
  cases op <;> simp only [strV, catV] at h
  all_goals first
    | (simp at h; done)
    | (cases h; exact ⟨_, by simp only [binOp, Op.stringOp, toList_eq, Sem.run_pure], .x _⟩)
    | (split at h
       · simp at h
       · rename_i hb
         cases h
         exact ⟨_, by simp only [binOp, Op.stringOp, hb, if_false, Sem.run_pure], .x _⟩)
end
end Go.Proofs.Ytkacldoiimlmcaa

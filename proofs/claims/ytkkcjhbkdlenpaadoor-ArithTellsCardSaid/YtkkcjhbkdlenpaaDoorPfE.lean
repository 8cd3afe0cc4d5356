/- What the run over plain data says of an operation that leaves memory alone is what the program's operation makes. No program is named here. -/
import Derived.Test.YtkkcjhbkdlenpaaDoorPfD
namespace Go.Proofs.YtkkcjhbkdlenpaaDoor
open Go Go.RowKit

section
variable {m : Lim} {w : World} {β : Nat → Nat} {E : Env}

theorem iteV_sound {t : Bool} {v1 v2 : Value} {u1 u2 : V} (h1 : Rs m w β v1 u1) (h2 : Rs m w β v2 u2) : Rs m w β (if t then v1 else v2) (iteV t u1 u2) := by
  unfold iteV
  cases t
  · simp only [Bool.false_eq_true, if_false]
    split <;> exact h2
  · simp only [if_true]
    split <;> exact h1

theorem Addr_add_eq (b off k : Nat) : Addr.add ⟨b, off, none⟩ k = ⟨b, off + k, none⟩ := by
  unfold Addr.add
  split
  · rename_i h; subst h; rfl
  · rfl

theorem Rd.ip_drop {v : Value} {cs : List V} {k : Nat} (h : Rd m w v (.ip cs)) (hk : k ≤ cs.length) : ∃ b off, v = .pointer (some ⟨b, off, none⟩) ∧ Rd m w (.pointer (some ⟨b, off + k, none⟩)) (.ip (cs.drop k)) := by
  cases h with
  | ip blk off cs c hb hc hm hr =>
    refine ⟨blk, off, rfl, .ip blk (off + k) _ (fun i => c (k + i)) hb (fun i hi => ?_) (fun fr hf => ?_) (fun i d hd => ?_)⟩
    · simp at hi
      have := hc (k + i) (by omega)
      rwa [← Nat.add_assoc] at this
    · have := hm fr hf; simp; omega
    · rw [List.getElem?_drop] at hd
      exact hr _ d hd

theorem pureV_sound {o : Oper} {ρ : Operand → Value} {e : Operand → V} {u : V} (hρ : ∀ x, Rs m w β (ρ x) (e x)) (h : pureV E o.op e = some u) :
    ∃ v, (execOp ρ o).run E.P w = .ok (.value v) w ∧ Rs m w β v u := by
  unfold pureV at h
  split at h
  · rename_i x ho
    cases h
    exact ⟨_, by simp only [execOp, ho, Sem.run_pure], hρ x⟩
  · rename_i x ho
    cases h
    exact ⟨_, by simp only [execOp, ho, Sem.run_pure], hρ x⟩
  · rename_i c x y ho
    split at h
    · rename_i t hc
      cases h
      have hct := (hc ▸ hρ c).x
      refine ⟨_, by simp only [execOp, ho, hct, asBool, Sem.run_bind, Sem.run_pure, Result.andThen_ok], iteV_sound (hρ x) (hρ y)⟩
    · simp at h
  · rename_i op t x y yt ho
    obtain ⟨v, hr, hd⟩ := binV_sound (m := m) (β := β) (w := w) (P := E.P) (xo := x) (yo := y) (hρ x) (hρ y) h
    exact ⟨v, by simp only [execOp, ho]; rw [Sem.run_bind, hr]; rfl, .of hd⟩
  · rename_i t x ho
    split at h
    · rename_i b hb
      cases h
      have hbt := (hb ▸ hρ x).x
      exact ⟨_, by simp only [execOp, ho, hbt, Op.unary, Sem.run_bind, Sem.run_pure, Result.andThen_ok], .of (.x _)⟩
    · simp at h
  · rename_i t x ho
    split at h
    · rename_i k n hb
      cases h
      have hbt := (hb ▸ hρ x).x
      exact ⟨_, by simp only [execOp, ho, hbt, Op.unary, Op.intArith, bWrap_eq, Sem.run_bind, Sem.run_pure, Result.andThen_ok], .of (.x _)⟩
    · simp at h
  · rename_i x i ho
    split at h
    · rename_i vs hv
      replace h := (np_some h).1
      obtain ⟨cs, hcs, hl⟩ := (hv ▸ hρ x).tup
      have hlt : i < vs.length := by
        rcases Nat.lt_or_ge i vs.length with h' | h'
        · exact h'
        · simp [List.getElem?_eq_none h'] at h
      have hlen := hl.length
      simp at hlen
      have hget : cs[i]? = some (cs[i]'(by omega)) := Array.getElem?_eq_getElem _
      exact ⟨cs[i]'(by omega), by simp only [execOp, ho, hcs, Instr.extract, hget, Sem.run_bind, Sem.run_pure, Result.andThen_ok], .of (hl.get i _ u (by simp) h)⟩
    · simp at h
  · rename_i t x f ho
    split at h
    · rename_i cs fs hx ht
      obtain ⟨vs, hvs, hl⟩ := (hx ▸ hρ x).agg
      cases hf : fs[f]? with
      | none => simp [hf] at h
      | some fd =>
        simp only [hf, Option.bind_some] at h
        replace h := (np_some h).1
        obtain ⟨v, hr, hd⟩ := partV_sound hl h
        exact ⟨v, by simp only [execOp, ho, hvs, Instr.field, Sem.run_bind, run_und ht, Result.andThen_ok, hf, asAgg, Sem.run_pure, hr], .of hd⟩
    · simp at h
  · rename_i t parts ho
    unfold buildV at h
    split at h
    · rename_i z fs hz ht
      split at h
      · rename_i l hl
        split at h
        · rename_i us hus
          cases h
          obtain ⟨zv, hzr, hzd⟩ := zeroB_sound (w := w) (m := m) hz
          have hfill := fillV_sound (m := m) (w := w) (β := β) (parts := parts.toList.map fun p => (p.1, e p.2)) (vs := parts.toList.map fun p => (p.1, ρ p.2)) hzd (by simp) (by
            intro i v u hv hu
            simp only [List.getElem?_map, Option.map_eq_some_iff] at hv hu
            obtain ⟨p, hp, rfl⟩ := hv
            obtain ⟨q, hq, rfl⟩ := hu
            rw [hp] at hq; cases hq
            exact hρ _) hus
          obtain ⟨cs', hcs', hd⟩ := hfill
          have hm := mapM_places (P := E.P) (w := w) fs.toList l hl
          refine ⟨.agg cs', ?_, .of (Rd.agg_iff.2 ⟨cs', rfl, hd⟩)⟩
          simp only [execOp, ho, Instr.build, Sem.run_bind, hzr, Result.andThen_ok, run_und ht]
          rw [Array.mapM_eq_mapM_toList]
          simp only [Sem.run_map, hm, Result.andThen_ok]
          have hq : (Array.map (fun (x : Nat × Operand) => (x.fst, ρ x.snd)) parts).toList = parts.toList.map fun p => (p.1, ρ p.2) := by simp
          rw [hq]
          have hpl : (fun (i : Nat) => (l.toArray)[i]?) = (fun (i : Nat) => l[i]?) := by funext i; simp
          rw [hpl, hcs']
          rfl
        · simp at h
      · simp at h
    · simp at h
  · rename_i t x f ho
    split at h
    · rename_i fs ht
      split at h
      · rename_i fd hf
        split at h
        · rename_i n hn
          split at h
          · simp at h
          · rename_i hn0
            split at h
            · rename_i s off hx
              cases h
              rcases (hx ▸ hρ x : Rs m w β (ρ x) (.ptr s off)) with h' | ⟨s', off', he, hv⟩
              · exact h'.not_ptr.elim
              · cases he
                refine ⟨.pointer (some ⟨β s, off + fd.offset, none⟩), ?_, .inr ⟨s, off + fd.offset, rfl, rfl⟩⟩
                simp only [execOp, ho, hv, Instr.fieldAt, Sem.run_bind, run_und ht, Result.andThen_ok, hf, Instr.sureAddr, fieldPlace, run_szB hn, hn0, if_false, Sem.run_pure, Addr_add_eq]
            · rename_i cs hx
              split at h
              · rename_i hle
                cases h
                obtain ⟨b, off, hv, hd⟩ := ((hx ▸ hρ x : Rs m w β (ρ x) (.ip cs)).rd (by intros; simp)).ip_drop hle
                refine ⟨.pointer (some ⟨b, off + fd.offset, none⟩), ?_, .of hd⟩
                simp only [execOp, ho, hv, Instr.fieldAt, Sem.run_bind, run_und ht, Result.andThen_ok, hf, Instr.sureAddr, fieldPlace, run_szB hn, hn0, if_false, Sem.run_pure, Addr_add_eq]
              · simp at h
            · simp at h
        · simp at h
      · simp at h
    · simp at h
  · rename_i s d x ho
    split at h
    · rename_i k0 k k1 n hs hd hx
      cases h
      have hxv := (hx ▸ hρ x).x
      exact ⟨_, by simp only [execOp, ho, hxv, convert, Sem.run_bind, run_und hs, run_und hd, Result.andThen_ok, Conv.intToInt, bWrap_eq, Sem.run_pure], .of (.x _)⟩
    · rename_i s' hs hd hx
      cases h
      have hxv := (hx ▸ hρ x).x
      exact ⟨_, by simp only [execOp, ho, hxv, convert, Sem.run_bind, run_und hs, run_und hd, Result.andThen_ok, Sem.run_pure], .of (.x _)⟩
    · simp at h
  · rename_i args argTypes ho
    split at h
    · rename_i x t ha ht
      have hargs : args = #[x] := by apply Array.toList_inj.1; simpa using ha
      have hts : argTypes = #[t] := by apply Array.toList_inj.1; simpa using ht
      subst hargs hts
      split at h
      · rename_i s hu hx
        cases h
        have hxv := (hx ▸ hρ x).x
        refine ⟨.int .i64 s.size, ?_, .of (.x _)⟩
        simp [execOp, ho, resolve, invoke, builtin, Builtin.len_, hxv, run_und hu, goInt]
      · rename_i e' nl es tok hu hx
        cases h
        obtain ⟨a, cap, hxv, _, _⟩ := (hx ▸ hρ x).sl
        refine ⟨.int .i64 es.length, ?_, .of (.x _)⟩
        simp [execOp, ho, resolve, invoke, builtin, Builtin.len_, hxv, run_und hu, goInt]
      · simp at h
    · simp at h
  · simp at h
end
end Go.Proofs.YtkkcjhbkdlenpaaDoor

/- What the run over plain data says of an operation that leaves memory alone is what the program's operation makes. No program is named here. -/
import Derived.Test.YtkacldoiimlmcaaPfMp
namespace Go.Proofs.Ytkacldoiimlmcaa
open Go Go.RowKit

section
variable {m : Lim} {w : World} {β : Nat → Nat} {E : Env}

theorem iteV_sound {t : Bool} {v1 v2 : Value} {u1 u2 : V} (h1 : Rs m w β v1 u1) (h2 : Rs m w β v2 u2) : Rs m w β (if t then v1 else v2) (iteV t u1 u2) := by
  unfold iteV
  cases t
  · simp only [Bool.false_eq_true, if_false]
    split <;> exact h2
  · simp only [if_true]
    split <;> exact h1

theorem Addr_add_eq (b off k : Nat) : Addr.add ⟨b, off, none⟩ k = ⟨b, off + k, none⟩ := by
  unfold Addr.add
  split
  · rename_i h; subst h; rfl
  · rfl

theorem Rd.ip_drop {v : Value} {cs : List V} {k : Nat} (h : Rd m w v (.ip cs)) (hk : k ≤ cs.length) : ∃ b off, v = .pointer (some ⟨b, off, none⟩) ∧ Rd m w (.pointer (some ⟨b, off + k, none⟩)) (.ip (cs.drop k)) := by
  cases h with
  | ip blk off cs c hb hc hm hr =>
    refine ⟨blk, off, rfl, .ip blk (off + k) _ (fun i => c (k + i)) hb (fun i hi => ?_) (fun fr hf => ?_) (fun i d hd => ?_)⟩
    · simp at hi
      have := hc (k + i) (by omega)
      rwa [← Nat.add_assoc] at this
    · have := hm fr hf; simp; omega
    · rw [List.getElem?_drop] at hd
      exact hr _ d hd

theorem Rd.sl_at {v : Value} {nl : Bool} {sz : Nat} {es : List V} {tok : Option Nat} {i : Nat} {u : V} (h : Rd m w v (.sl nl sz es tok)) (hi : es[i]? = some u) :
    ∃ blk off cap, v = .slice (some ⟨blk, off, none⟩) es.length cap ∧ Rd m w (.pointer (some ⟨blk, off + i * sz, none⟩)) (.ip u.cells) := by
  cases h with
  | nil sz tok => simp at hi
  | emp a cap sz => simp at hi
  | sl blk off cap sz es tok c hb hcap hsz hc hm hr =>
    have hlt : i < es.length := by
      rcases Nat.lt_or_ge i es.length with h' | h'
      · exact h'
      · simp [List.getElem?_eq_none h'] at hi
    have hl := hsz i u hi
    have hle : (i + 1) * sz ≤ es.length * sz := Nat.mul_le_mul_right _ hlt
    rw [Nat.add_mul, Nat.one_mul] at hle
    refine ⟨blk, off, cap, rfl, .ip blk (off + i * sz) _ (fun k => c (i * sz + k)) hb (fun k hk => ?_) (fun fr hf => ?_) (fun k d hd => hr i u hi k d hd)⟩
    · rw [hl] at hk
      have := hc (i * sz + k) (by omega)
      rwa [← Nat.add_assoc] at this
    · have := hm fr hf
      rw [hl]; omega

theorem Rd.sl_sub {v : Value} {nl : Bool} {sz : Nat} {es : List V} {tok : Option Nat} (h : Rd m w v (.sl nl sz es tok)) {l k : Nat} (hlk : l ≤ k) (hk : k ≤ es.length) :
    ∃ a cap, v = .slice a es.length cap ∧ es.length ≤ cap ∧ Rd m w (.slice (if cap = l then a else a.map (·.add (l * sz))) (k - l) (cap - l)) (.sl nl sz ((es.drop l).take (k - l)) none) := by
  cases h with
  | nil sz tok =>
    simp at hk
    obtain rfl : k = 0 := hk
    obtain rfl : l = 0 := by omega
    exact ⟨none, 0, rfl, Nat.le_refl _, by simpa using Rd.nil sz none⟩
  | emp a cap sz =>
    simp at hk
    obtain rfl : k = 0 := hk
    obtain rfl : l = 0 := by omega
    exact ⟨some a, cap, rfl, Nat.zero_le _, by split <;> exact .emp _ _ _⟩
  | sl blk off cap sz es tok c hb hcap hsz hc hm hr =>
    refine ⟨_, cap, rfl, hcap, ?_⟩
    have hlen : ((es.drop l).take (k - l)).length = k - l := by simp; omega
    have hle : k * sz ≤ es.length * sz := Nat.mul_le_mul_right _ hk
    have hadd : l * sz + (k - l) * sz = k * sz := by rw [← Nat.add_mul]; congr 1; omega
    by_cases hcl : cap = l
    · rw [if_pos hcl]
      have h0 : k - l = 0 := by omega
      have := Rd.sl (m := m) (w := w) blk off (cap - l) sz ((es.drop l).take (k - l)) none c hb (by rw [hlen]; omega) (fun i e he => by rw [h0] at he; simp at he) (fun j hj => by rw [hlen, h0] at hj; omega)
        (fun fr hf => by have := hm fr hf; rw [hlen, h0]; omega) (fun i e he => by rw [h0] at he; simp at he)
      rwa [hlen] at this
    · rw [if_neg hcl]
      have := Rd.sl (m := m) (w := w) blk (off + l * sz) (cap - l) sz ((es.drop l).take (k - l)) none (fun j => c (l * sz + j)) hb (by rw [hlen]; omega) (fun i e he => by
          rw [List.getElem?_take] at he
          split at he
          · rw [List.getElem?_drop] at he; exact hsz _ e he
          · simp at he) (fun j hj => by
          rw [hlen] at hj
          have := hc (l * sz + j) (by omega)
          rwa [← Nat.add_assoc] at this)
        (fun fr hf => by have := hm fr hf; rw [hlen]; omega) (fun i e he j d hd => by
          rw [List.getElem?_take] at he
          split at he
          · rw [List.getElem?_drop] at he
            have := hr _ e he j d hd
            rwa [Nat.add_mul, Nat.add_assoc] at this
          · simp at he)
      rw [hlen] at this
      simpa [Addr_add_eq] using this

theorem bound_is {ρ : Operand → Value} {e : Operand → V} (hρ : ∀ x, Rs m w β (ρ x) (e x)) {d l : Int} {o : Option Operand} (h : boundV e d o = some l) :
    (o = none ∧ l = d) ∨ ∃ x k, o = some x ∧ ρ x = .int k l := by
  cases o with
  | none => simp only [boundV, Option.some.injEq] at h; exact .inl ⟨rfl, h.symm⟩
  | some x =>
    simp only [boundV] at h
    split at h
    · rename_i k i hx
      cases h
      exact .inr ⟨x, k, rfl, (hx ▸ hρ x).x⟩
    · simp at h

theorem sliceBound_run {P : Program} {k : IntKind} {l y : Nat} (code : BoundsCode) (h : l ≤ y) : (Instr.sliceBound (.int k (l : Int)) y code).run P w = .ok l w := by
  simp only [Instr.sliceBound, asIntOf, Sem.run_bind, Sem.run_pure, Result.andThen_ok, Sem.run_ite]
  rw [if_pos ⟨by omega, by omega⟩]
  simp

theorem bounds_sound {ρ : Operand → Value} {e : Operand → V} (hρ : ∀ x, Rs m w β (ρ x) (e x)) {P : Program} {isS : Bool} {len cap l h : Nat} {lo hi : Option Operand}
    (hl : boundV e 0 lo = some (l : Int)) (hh : boundV e len hi = some (h : Int)) (h1 : l ≤ h) (h2 : h ≤ cap) :
    (Instr.sliceBounds isS len cap (lo.map ρ) (hi.map ρ) none).run P w = .ok (l, h, cap) w := by
  have hs : ∀ code, (match hi.map ρ with | some v => Instr.sliceBound v cap code | none => pure len : Sem Nat).run P w = .ok h w := by
    intro code
    rcases bound_is hρ hh with ⟨rfl, he⟩ | ⟨x, k, rfl, hx⟩
    · have : h = len := by omega
      subst this; rfl
    · simp only [Option.map_some, hx]
      exact sliceBound_run code h2
  have ls : ∀ code, (match lo.map ρ with | some v => Instr.sliceBound v h code | none => pure 0 : Sem Nat).run P w = .ok l w := by
    intro code
    rcases bound_is hρ hl with ⟨rfl, he⟩ | ⟨x, k, rfl, hx⟩
    · have : l = 0 := by omega
      subst this; rfl
    · simp only [Option.map_some, hx]
      exact sliceBound_run code h1
  rcases bound_is hρ hh with ⟨rfl, he⟩ | ⟨x, k, rfl, hx⟩ <;> rcases bound_is hρ hl with ⟨rfl, he'⟩ | ⟨x', k', rfl, hx'⟩
  · have e1 : h = len := by omega
    have e2 : l = 0 := by omega
    subst e1 e2
    simp [Instr.sliceBounds]
  · have e1 : h = len := by omega
    subst e1
    simp [Instr.sliceBounds, hx', sliceBound_run _ h1]
  · have e2 : l = 0 := by omega
    subst e2
    simp [Instr.sliceBounds, hx, sliceBound_run _ h2]
  · simp [Instr.sliceBounds, hx, hx', sliceBound_run _ h1, sliceBound_run _ h2]

theorem bytesOf_at : ∀ {es : List V} {l : List UInt8}, bytesOf es = some l → es.length = l.length ∧ ∀ (i : Nat) (b : UInt8), l[i]? = some b → ∃ n : Int, es[i]? = some (.x (.int .u8 n)) ∧ b = UInt8.ofNat n.toNat
  | [], l, h => by cases h; exact ⟨rfl, fun i b h => by simp at h⟩
  | e :: es, l, h => by
    unfold bytesOf at h
    split at h
    · cases ‹e :: es = []›
    · rename_i n l' he
      cases he
      split at h
      · rename_i r hr
        cases h
        obtain ⟨h1, h2⟩ := bytesOf_at hr
        refine ⟨by simp [h1], fun i b hb => ?_⟩
        cases i with
        | zero => simp at hb; exact ⟨n, rfl, hb.symm⟩
        | succ i => simpa using h2 i b (by simpa using hb)
      · cases h
    · cases h
theorem push_fold {P : Program} {f : Value → ByteArray → Sem (ForInStep ByteArray)} (hf : ∀ (n : Int) (s : ByteArray), (f (.int .u8 n) s).run P w = .ok (.yield (s.push (UInt8.ofNat n.toNat))) w)
    (cs : List Value) (l : List UInt8) (acc : ByteArray) (hlen : cs.length = l.length) (h : ∀ (i : Nat) (b : UInt8), l[i]? = some b → ∃ n : Int, cs[i]? = some (.int .u8 n) ∧ b = UInt8.ofNat n.toNat) :
    (forIn cs acc f).run P w = .ok ⟨acc.data ++ l.toArray⟩ w := by
  induction cs generalizing l acc with
  | nil =>
    cases l with
    | nil => simp
    | cons b l => simp at hlen
  | cons c cs ih =>
    cases l with
    | nil => simp at hlen
    | cons b l =>
      obtain ⟨n, hn, hb⟩ := h 0 b rfl
      simp at hn
      subst hn
      rw [List.forIn_cons, Sem.run_bind, hf]
      simp only [Result.andThen_ok]
      rw [ih l _ (by simpa using hlen) (fun i b hb => by simpa using h (i + 1) b (by simpa using hb))]
      subst hb
      congr 2
      apply Array.toList_inj.1
      simp [ByteArray.push]
theorem bytes_run {P : Program} {v : Value} {nl : Bool} {sz : Nat} {es : List V} {tok : Option Nat} {l : List UInt8} (h : Rd m w v (.sl nl sz es tok)) (hl : bytesOf es = some l) :
    ∃ a cap, v = .slice a es.length cap ∧ (Conv.bytesToString v).run P w = .ok (.string ⟨l.toArray⟩) w := by
  obtain ⟨hlen, hat⟩ := bytesOf_at hl
  cases h with
  | nil sz tok =>
    cases l with
    | nil => exact ⟨none, 0, rfl, rfl⟩
    | cons b l => simp at hlen
  | emp a cap sz =>
    cases l with
    | nil =>
      have h0 := run_loadCells_list (P := P) w a [] (fun j v hj => by simp at hj)
      simp only [List.length_nil] at h0
      refine ⟨some a, cap, rfl, ?_⟩
      simp [Conv.bytesToString, h0]
      rfl
    | cons b l => simp at hlen
  | sl blk off cap sz es tok c hb hcap hsz hc hm hr =>
    refine ⟨_, cap, rfl, ?_⟩
    have hcs : ∀ (j : Nat) (b : UInt8), l[j]? = some b → ∃ n : Int, w.cell? ⟨blk, off + j, none⟩ = some (.int .u8 n) ∧ b = UInt8.ofNat n.toNat := by
      intro j b hj
      obtain ⟨n, he, hb⟩ := hat j b hj
      have hs1 := hsz j _ he
      simp [V.cells] at hs1
      subst hs1
      have hjl : j < es.length := by
        rcases Nat.lt_or_ge j es.length with h' | h'
        · exact h'
        · simp [List.getElem?_eq_none h'] at he
      have h1 := hc j (by omega)
      have h2 := Rd.x_iff.1 (hr j _ he 0 _ rfl)
      simp at h2
      rw [h2] at h1
      exact ⟨n, h1, hb⟩
    have hrun := run_loadCells_list (P := P) w ⟨blk, off, none⟩ ((List.range l.length).map fun j => (w.cell? ⟨blk, off + j, none⟩).getD Go.undef) (fun j v hj => by
      rw [Addr_add_eq]
      simp only [List.getElem?_map, Option.map_eq_some_iff] at hj
      obtain ⟨i, hi, rfl⟩ := hj
      have hlt : j < l.length := by
        rcases Nat.lt_or_ge j l.length with h' | h'
        · exact h'
        · simp [h'] at hi
      rw [List.getElem?_range hlt] at hi
      cases hi
      obtain ⟨n, h1, _⟩ := hcs j _ (List.getElem?_eq_getElem hlt)
      rw [h1]; rfl)
    simp only [List.length_map, List.length_range] at hrun
    rw [← hlen] at hrun
    simp only [Conv.bytesToString, Sem.run_bind, hrun, Result.andThen_ok]
    rw [← Array.forIn_toList]
    rw [push_fold (fun n s => rfl) _ l .empty (by simpa using hlen) (fun i b hb => by
      have hlt : i < es.length := by
        rcases Nat.lt_or_ge i l.length with h' | h'
        · omega
        · simp [List.getElem?_eq_none h'] at hb
      obtain ⟨n, h1, h2⟩ := hcs i b hb
      refine ⟨n, ?_, h2⟩
      rw [List.getElem?_map, List.getElem?_range hlt]
      simp [h1])]
    simp
theorem move_sound {o : Oper} {ρ : Operand → Value} {e : Operand → V} {u : V} {P : Program} (hρ : ∀ x, Rs m w β (ρ x) (e x)) (hm : isMv o.op = true) (h : pureV E o.op e = some u) :
    ∃ x, (execOp ρ o).run P w = .ok (.value (ρ x)) w ∧ u = e x := by
  unfold pureV at h
  split at h
  · rename_i x ho
    cases h
    exact ⟨x, by simp only [execOp, ho, Sem.run_pure], rfl⟩
  · rename_i x ho
    cases h
    exact ⟨x, by simp only [execOp, ho, Sem.run_pure], rfl⟩
  · rename_i c x y ho
    split at h
    · rename_i t hc
      cases h
      have hct := (hc ▸ hρ c).x
      cases t
      · refine ⟨y, by simp only [execOp, ho, hct, asBool, Sem.run_bind, Sem.run_pure, Result.andThen_ok]; rfl, ?_⟩
        unfold iteV
        split <;> simp_all
      · refine ⟨x, by simp only [execOp, ho, hct, asBool, Sem.run_bind, Sem.run_pure, Result.andThen_ok]; rfl, ?_⟩
        unfold iteV
        split <;> simp_all
    · simp at h
  all_goals first
    | (simp at h; done)
    | (rename_i ho; rw [ho] at hm; simp [isMv] at hm)

theorem pureV_sound {o : Oper} {ρ : Operand → Value} {e : Operand → V} {u : V} (hρ : ∀ x, Rs m w β (ρ x) (e x)) (hM : ∀ x s ks vs, e x = .mp s ks vs → MapAt m w (β s) ks vs) (h : pureV E o.op e = some u) :
    ∃ v, (execOp ρ o).run E.P w = .ok (.value v) w ∧ Rs m w β v u := by
  unfold pureV at h
  split at h
  · rename_i x ho
    cases h
    exact ⟨_, by simp only [execOp, ho, Sem.run_pure], hρ x⟩
  · rename_i x ho
    cases h
    exact ⟨_, by simp only [execOp, ho, Sem.run_pure], hρ x⟩
  · rename_i c x y ho
    split at h
    · rename_i t hc
      cases h
      have hct := (hc ▸ hρ c).x
      refine ⟨_, by simp only [execOp, ho, hct, asBool, Sem.run_bind, Sem.run_pure, Result.andThen_ok], iteV_sound (hρ x) (hρ y)⟩
    · simp at h
  · rename_i x ho
    split at h
    · rename_i s off hx
      cases h
      have hv := (hx ▸ hρ x : Rs m w β (ρ x) (.ptr s off)).ptr
      refine ⟨.pointer (some ⟨β s, off, none⟩), ?_, .ofPtr _ _⟩
      simp only [execOp, ho, hv, Sem.run_pure]
    · rename_i cs hx
      cases h
      obtain ⟨b, off, hv, hd⟩ := ((hx ▸ hρ x : Rs m w β (ρ x) (.ip cs)).rd (by intros; simp)).ip_drop (k := 0) (Nat.zero_le _)
      refine ⟨.pointer (some ⟨b, off, none⟩), ?_, .of (by simpa using hd)⟩
      simp only [execOp, ho, hv, Sem.run_pure]
    · simp at h
  · rename_i op t x y yt ho
    obtain ⟨v, hr, hd⟩ := binV_sound (m := m) (β := β) (w := w) (P := E.P) (xo := x) (yo := y) (hρ x) (hρ y) h
    exact ⟨v, by simp only [execOp, ho]; rw [Sem.run_bind, hr]; rfl, .of hd⟩
  · rename_i t x ho
    split at h
    · rename_i b hb
      cases h
      have hbt := (hb ▸ hρ x).x
      exact ⟨_, by simp only [execOp, ho, hbt, Op.unary, Sem.run_bind, Sem.run_pure, Result.andThen_ok], .of (.x _)⟩
    · simp at h
  · rename_i t x ho
    split at h
    · rename_i k n hb
      cases h
      have hbt := (hb ▸ hρ x).x
      exact ⟨_, by simp only [execOp, ho, hbt, Op.unary, Op.intArith, bWrap_eq, Sem.run_bind, Sem.run_pure, Result.andThen_ok], .of (.x _)⟩
    · simp at h
  · rename_i x i ho
    split at h
    · rename_i vs hv
      replace h := (np_some h).1
      obtain ⟨cs, hcs, hl⟩ := (hv ▸ hρ x).tup
      have hlt : i < vs.length := by
        rcases Nat.lt_or_ge i vs.length with h' | h'
        · exact h'
        · simp [List.getElem?_eq_none h'] at h
      have hlen := hl.length
      simp at hlen
      have hget : cs[i]? = some (cs[i]'(by omega)) := Array.getElem?_eq_getElem _
      exact ⟨cs[i]'(by omega), by simp only [execOp, ho, hcs, Instr.extract, hget, Sem.run_bind, Sem.run_pure, Result.andThen_ok], .of (hl.get i _ u (by simp) h)⟩
    · simp at h
  · rename_i t x f ho
    split at h
    · rename_i cs fs hx ht
      obtain ⟨vs, hvs, hl⟩ := (hx ▸ hρ x).agg
      cases hf : fs[f]? with
      | none => simp [hf] at h
      | some fd =>
        simp only [hf, Option.bind_some] at h
        replace h := (np_some h).1
        obtain ⟨v, hr, hd⟩ := partV_sound hl h
        exact ⟨v, by simp only [execOp, ho, hvs, Instr.field, Sem.run_bind, run_und ht, Result.andThen_ok, hf, asAgg, Sem.run_pure, hr], .of hd⟩
    · simp at h
  · rename_i t parts ho
    unfold buildV at h
    split at h
    · rename_i z fs hz ht
      split at h
      · rename_i l hl
        split at h
        · rename_i us hus
          cases h
          obtain ⟨zv, hzr, hzd⟩ := zeroB_sound (w := w) (m := m) hz
          have hfill := fillV_sound (m := m) (w := w) (β := β) (parts := parts.toList.map fun p => (p.1, (e p.2).bare)) (vs := parts.toList.map fun p => (p.1, ρ p.2)) hzd (by simp) (by
            intro i v u hv hu
            simp only [List.getElem?_map, Option.map_eq_some_iff] at hv hu
            obtain ⟨p, hp, rfl⟩ := hv
            obtain ⟨q, hq, rfl⟩ := hu
            rw [hp] at hq; cases hq
            exact (hρ _).bare) hus
          obtain ⟨cs', hcs', hd⟩ := hfill
          have hm := mapM_places (P := E.P) (w := w) fs.toList l hl
          refine ⟨.agg cs', ?_, .of (Rd.agg_iff.2 ⟨cs', rfl, hd⟩)⟩
          simp only [execOp, ho, Instr.build, Sem.run_bind, hzr, Result.andThen_ok, run_und ht]
          rw [Array.mapM_eq_mapM_toList]
          simp only [Sem.run_map, hm, Result.andThen_ok]
          have hq : (Array.map (fun (x : Nat × Operand) => (x.fst, ρ x.snd)) parts).toList = parts.toList.map fun p => (p.1, ρ p.2) := by simp
          rw [hq]
          have hpl : (fun (i : Nat) => (l.toArray)[i]?) = (fun (i : Nat) => l[i]?) := by funext i; simp
          rw [hpl, hcs']
          rfl
        · simp at h
      · simp at h
    · simp at h
  · rename_i t x f ho
    split at h
    · rename_i fs ht
      split at h
      · rename_i fd hf
        split at h
        · rename_i n hn
          split at h
          · simp at h
          · rename_i hn0
            split at h
            · rename_i s off hx
              cases h
              have hv := (hx ▸ hρ x : Rs m w β (ρ x) (.ptr s off)).ptr
              · refine ⟨.pointer (some ⟨β s, off + fd.offset, none⟩), ?_, .ofPtr _ _⟩
                simp only [execOp, ho, hv, Instr.fieldAt, Sem.run_bind, run_und ht, Result.andThen_ok, hf, Instr.sureAddr, fieldPlace, run_szB hn, hn0, if_false, Sem.run_pure, Addr_add_eq]
            · rename_i cs hx
              split at h
              · rename_i hle
                cases h
                obtain ⟨b, off, hv, hd⟩ := ((hx ▸ hρ x : Rs m w β (ρ x) (.ip cs)).rd (by intros; simp)).ip_drop hle
                refine ⟨.pointer (some ⟨b, off + fd.offset, none⟩), ?_, .of hd⟩
                simp only [execOp, ho, hv, Instr.fieldAt, Sem.run_bind, run_und ht, Result.andThen_ok, hf, Instr.sureAddr, fieldPlace, run_szB hn, hn0, if_false, Sem.run_pure, Addr_add_eq]
              · simp at h
            · simp at h
        · simp at h
      · simp at h
    · simp at h
  · rename_i s d x ho
    split at h
    · rename_i k0 k k1 n hs hd hx
      cases h
      have hxv := (hx ▸ hρ x).x
      exact ⟨_, by simp only [execOp, ho, hxv, convert, Sem.run_bind, run_und hs, run_und hd, Result.andThen_ok, Conv.intToInt, bWrap_eq, Sem.run_pure], .of (.x _)⟩
    · rename_i s' hs hd hx
      cases h
      have hxv := (hx ▸ hρ x).x
      exact ⟨_, by simp only [execOp, ho, hxv, convert, Sem.run_bind, run_und hs, run_und hd, Result.andThen_ok, Sem.run_pure], .of (.x _)⟩
    · rename_i k0 k1 n hs hd hx
      cases h
      have hxv := (hx ▸ hρ x).x
      exact ⟨_, by simp only [execOp, ho, hxv, convert, Sem.run_bind, run_und hs, run_und hd, Result.andThen_ok, Conv.intToString, Sem.run_pure], .of (.x _)⟩
    · rename_i el nl sz es tok hs hd hx
      split at h
      · rename_i l hel hl
        cases h
        have hrd := (hx ▸ hρ x : Rs m w β (ρ x) (.sl nl sz es tok)).rd (by intros; simp)
        obtain ⟨a, cap, hv, hrun⟩ := bytes_run (P := E.P) hrd hl
        refine ⟨.string ⟨l.toArray⟩, ?_, .of (.x _)⟩
        rw [hv] at hrun
        cases a with
        | none => simp only [execOp, ho, hv, convert, Sem.run_bind, run_und hs, run_und hd, run_und hel, Result.andThen_ok, hrun, Sem.run_pure]
        | some a => simp only [execOp, ho, hv, convert, Sem.run_bind, run_und hs, run_und hd, run_und hel, Result.andThen_ok, hrun, Sem.run_pure]
      · simp at h
    · simp at h
  · rename_i t x ix ho
    split at h
    · rename_i elem nl sz es tok k i ht hx hix
      split at h
      · rename_i hc
        obtain ⟨hsz, h0⟩ := hc
        obtain ⟨u', hu, rfl⟩ := Option.map_eq_some_iff.1 h
        obtain ⟨blk, off, cap, hv, hd⟩ := ((hx ▸ hρ x : Rs m w β (ρ x) (.sl nl sz es tok)).rd (by intros; simp)).sl_at hu
        have hi := (hix ▸ hρ ix).x
        have hlt : i.toNat < es.length := by
          rcases Nat.lt_or_ge i.toNat es.length with h' | h'
          · exact h'
          · simp [List.getElem?_eq_none h'] at hu
        refine ⟨.pointer (some ⟨blk, off + i.toNat * sz, none⟩), ?_, .of hd⟩
        simp only [execOp, ho, hv, hi, Instr.indexAt, asIntOf, Sem.run_bind, Sem.run_pure, Result.andThen_ok, run_und ht, Sem.run_ite]
        rw [if_pos ⟨h0, by omega⟩]
        simp only [run_szB hsz, Result.andThen_ok, Addr_add_eq]
      · simp at h
    · rename_i elem s sz len k i ht hx hix
      split at h
      · rename_i hc
        obtain ⟨hsz, h0, hlt⟩ := hc
        cases h
        obtain ⟨cap, hv, hcap⟩ := (hx ▸ hρ x : Rs m w β (ρ x) (.row s sz len)).row
        have hi := (hix ▸ hρ ix).x
        have he : Rs m w β (.pointer (some ⟨β s, i.toNat * sz, none⟩)) (.ptr s (i.toNat * sz)) := .ofPtr _ _
        refine ⟨_, ?_, he⟩
        simp only [execOp, ho, hv, hi, Instr.indexAt, asIntOf, Sem.run_bind, Sem.run_pure, Result.andThen_ok, run_und ht, Sem.run_ite]
        rw [if_pos ⟨h0, hlt⟩]
        simp only [run_szB hsz, Result.andThen_ok, Addr_add_eq, Nat.zero_add]
      · simp at h
    · simp at h
  · rename_i t x ix ho
    split at h
    · rename_i s k i ht hx hix
      split at h
      · rename_i hc
        cases h
        have hs := (hx ▸ hρ x).x
        have hi := (hix ▸ hρ ix).x
        have hlt : i.toNat < s.size := by omega
        have hget : s[i.toNat]? = some s[i.toNat] := getElem?_pos s i.toNat hlt
        have hb : byteV s i = (s[i.toNat].toNat : Int) := by
          unfold byteV
          have : s.data[i.toNat]? = some s[i.toNat] := Array.getElem?_eq_getElem (by exact hlt)
          rw [this]; rfl
        rw [hb]
        refine ⟨_, ?_, .of (.x _)⟩
        simp only [execOp, ho, hs, hi, Instr.index, asIntOf, Sem.run_bind, Sem.run_pure, Result.andThen_ok, run_und ht, hc.1, if_true, hget]
      · simp at h
    · simp at h
  · rename_i t x lo hi ho
    split at h
    · rename_i s ht hx
      have hs := (hx ▸ hρ x).x
      split at h
      · rename_i l k hl hk
        split at h
        · rename_i hc
          cases h
          obtain ⟨l, rfl⟩ := Int.eq_ofNat_of_zero_le hc.1
          obtain ⟨k, rfl⟩ := Int.eq_ofNat_of_zero_le (show 0 ≤ k by omega)
          have hb := bounds_sound (P := E.P) (isS := false) (len := s.size) (cap := s.size) hρ hl hk (by omega) (by omega)
          refine ⟨.string (s.extract l k), ?_, by simpa [subV] using Rs.of (Rd.x (.string (s.extract l k)))⟩
          simp only [execOp, ho, Instr.sliceAt, Sem.run_bind, run_und ht, Result.andThen_ok, Instr.slice, hs, Option.map_none, Option.isSome_none, Bool.false_eq_true, if_false, Sem.run_pure, hb]
        · simp at h
      · simp at h
    · rename_i elem nl sz es tok ht hx
      split at h
      · rename_i l k hl hk
        split at h
        · rename_i hc
          cases h
          obtain ⟨hsz, hl0, hlk, hke⟩ := hc
          obtain ⟨l, rfl⟩ := Int.eq_ofNat_of_zero_le hl0
          obtain ⟨k, rfl⟩ := Int.eq_ofNat_of_zero_le (show 0 ≤ k by omega)
          obtain ⟨a', cap, hv, hcap, hd⟩ := ((hx ▸ hρ x : Rs m w β (ρ x) (.sl nl sz es tok)).rd (by intros; simp)).sl_sub (l := l) (k := k) (by omega) (by omega)
          have hb := bounds_sound (P := E.P) (isS := true) (len := es.length) (cap := cap) hρ hl hk (by omega) (by omega)
          refine ⟨_, ?_, by simpa using Rs.of hd⟩
          simp only [execOp, ho, Instr.sliceAt, Sem.run_bind, run_und ht, Result.andThen_ok, Instr.slice, hv, Option.map_none, hb, run_szB hsz, Sem.run_pure]
        · simp at h
      · simp at h
    · rename_i elem s sz len ht hx
      split at h
      · rename_i l k hl hk
        split at h
        · rename_i hc
          cases h
          obtain ⟨hsz, rfl, h0, hke⟩ := hc
          obtain ⟨k, rfl⟩ := Int.eq_ofNat_of_zero_le h0
          obtain ⟨cap, hv, hcap⟩ := (hx ▸ hρ x : Rs m w β (ρ x) (.row s sz len)).row
          have hb := bounds_sound (P := E.P) (isS := true) (len := len) (cap := cap) (l := 0) hρ hl hk (by omega) (by omega)
          refine ⟨.slice (some ⟨β s, 0, none⟩) k cap, ?_, .ofRow _ _ (by omega)⟩
          simp only [execOp, ho, Instr.sliceAt, Sem.run_bind, run_und ht, Result.andThen_ok, Instr.slice, hv, Option.map_none, hb, run_szB hsz, Sem.run_pure]
          congr 2
          cases cap <;> simp [Addr_add_eq]
        · simp at h
      · simp at h
    · simp at h
  · rename_i args argTypes ho
    split at h
    · rename_i x t ha ht
      have hargs : args = #[x] := by apply Array.toList_inj.1; simpa using ha
      have hts : argTypes = #[t] := by apply Array.toList_inj.1; simpa using ht
      subst hargs hts
      split at h
      · rename_i s hu hx
        cases h
        have hxv := (hx ▸ hρ x).x
        refine ⟨.int .i64 s.size, ?_, .of (.x _)⟩
        simp [execOp, ho, resolve, invoke, builtin, Builtin.len_, hxv, run_und hu, goInt]
      · rename_i e' nl sz es tok hu hx
        cases h
        obtain ⟨a, cap, hxv, _, _⟩ := (hx ▸ hρ x).sl
        refine ⟨.int .i64 es.length, ?_, .of (.x _)⟩
        simp [execOp, ho, resolve, invoke, builtin, Builtin.len_, hxv, run_und hu, goInt]
      · rename_i e' s sz len hu hx
        cases h
        obtain ⟨cap, hxv, _⟩ := (hx ▸ hρ x : Rs m w β (ρ x) (.row s sz len)).row
        refine ⟨.int .i64 len, ?_, .of (.x _)⟩
        simp [execOp, ho, resolve, invoke, builtin, Builtin.len_, hxv, run_und hu, goInt]
      · rename_i kt et s ks vs hu hx
        cases h
        have hxv := (hx ▸ hρ x : Rs m w β (ρ x) (.mp s ks vs)).mp
        obtain ⟨ents, clock, hh, hrd, _, _⟩ := hM x s ks vs hx
        have hl : ents.size = ks.length := by rw [← Array.length_toList]; exact hrd.len.1
        refine ⟨.int .i64 ks.length, ?_, .of (.x _)⟩
        simp [execOp, ho, resolve, invoke, builtin, Builtin.len_, hxv, run_und hu, MapKept.run_getObj_map hh, goInt, hl]
      · rename_i kt et ks vs hu hx
        cases h
        obtain ⟨g, ents, clock, hxv, hh, hrd, _⟩ := ((hx ▸ hρ x : Rs m w β (ρ x) (.fm ks vs)).rd rfl).fm_at
        have hl : ents.size = ks.length := by rw [← Array.length_toList]; exact hrd.len.1
        refine ⟨.int .i64 ks.length, ?_, .of (.x _)⟩
        simp [execOp, ho, resolve, invoke, builtin, Builtin.len_, hxv, run_und hu, MapKept.run_getObj_map hh, goInt, hl]
      · simp at h
    · simp at h
  · rename_i args argTypes ho
    split at h
    · rename_i x y ha
      have hargs : args = #[x, y] := by apply Array.toList_inj.1; simpa using ha
      subst hargs
      split at h
      · rename_i k a k' b hx hy
        cases h
        have hxv := (hx ▸ hρ x).x
        have hyv := (hy ▸ hρ y).x
        refine ⟨.int k (maxI a b), ?_, .of (.x _)⟩
        simp [execOp, ho, resolve, invoke, builtin, Builtin.max_, Builtin.max2, hxv, hyv, maxI]
      · simp at h
    · simp at h
  · rename_i args argTypes ho
    split at h
    · rename_i x y ha
      have hargs : args = #[x, y] := by apply Array.toList_inj.1; simpa using ha
      subst hargs
      split at h
      · rename_i k a k' b hx hy
        cases h
        have hxv := (hx ▸ hρ x).x
        have hyv := (hy ▸ hρ y).x
        refine ⟨.int k (minI a b), ?_, .of (.x _)⟩
        simp [execOp, ho, resolve, invoke, builtin, Builtin.min_, Builtin.min2, hxv, hyv, minI]
      · simp at h
    · simp at h
  · simp at h
end
end Go.Proofs.Ytkacldoiimlmcaa

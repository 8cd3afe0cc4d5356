/- The run where what an iterator goes over lies as it did: an environment whose memory is kept from a beginning on; functions that are handed such an iterator; loops over it. -/
import Derived.Test.YtfngpfnbhafmlaaGreatDoorMF
import Derived.Test.YtfngpfnbhafmlaaGreatDoorMI
import Derived.Test.YtfngpfnbhafmlaaGreatDoorMG
import Derived.Test.YtfngpfnbhafmlaaGreatDoorML
import Derived.Test.YtfngpfnbhafmlaaGreatDoorMQ
import Derived.Test.YtfngpfnbhafmlaaGreatDoorShelf
import Derived.Lib.Builder
import Derived.Lib.AppendStr
import Derived.Lib.UnsafeStr
import Derived.WalkKit
import Derived.Laws.Externs
namespace Go.Proofs.YtfngpfnbhafmlaaGreatDoor
open Go Go.RowKit
set_option linter.unusedSimpArgs false
def Since (w0 w : World) : Prop := Glob w ∧ globK ≤ w0.heap.size ∧ Below w0.heap.size w0 w
noncomputable def envW (w0 : World) (l : List (Nat × (List V → Option V))) : Env := ⟨Tryz.prog, lkF l, fun _ => .undef, Since w0, fun _ => false, fun _ => none, w0.heap.size, fun _ => false, fun _ => false, fun _ _ => none, 0, fun _ => none, fun _ => false⟩
section
variable (w0 : World) (l : List (Nat × (List V → Option V))) (st : St) (b : Nat → Option (List V)) (k s i : Nat) (p u : V) (d : Option Nat) (cs : List V)
theorem envW_P : (envW w0 l).P = Tryz.prog := rfl
theorem envW_F : (envW w0 l).F = lkF l := rfl
theorem envW_FP : (envW w0 l).FP = fun _ => none := rfl
theorem envW_FM : (envW w0 l).FM = fun _ => none := rfl
theorem envW_G : (envW w0 l).G = fun _ => .undef := rfl
theorem envW_MB : (envW w0 l).MB = fun _ => false := rfl
theorem envW_any : (envW w0 l).any i = false := rfl
theorem envW_own : (envW w0 l).own d = false := by cases d <;> rfl
theorem envW_plain : (envW w0 l).plain = envW w0 l := rfl
theorem wipe_W : wipe (envW w0 l) st = st := rfl
theorem stripB_W : stripB (envW w0 l) k b = b := rfl
theorem kept_W : (envW w0 l).kept s u = u.bare := rfl
theorem okS_W : (envW w0 l).okS s u = true := rfl
theorem okN_W : (envW w0 l).okN d cs = true := by cases d <;> rfl
theorem keepL_W : (envW w0 l).keepL p u = u.bare := by cases p <;> rfl
theorem effV_W : effV (envW w0 l) u = none := by unfold effV; split <;> rfl
end
attribute [go_sem] envW_P envW_F envW_FP envW_FM envW_G envW_MB envW_any envW_own envW_plain wipe_W stripB_W kept_W okS_W okN_W keepL_W effV_W
theorem fun_W {f : FuncId} {F : List V → Option V} (w0 : World) (h : FunV f F) : Fun (envW w0 []) f F :=
 ⟨h.1, fun m w vs us r hF hd hr hj hg => h.2 m w vs us r hF hd hr hj.1 hg⟩
def AllW (w0 : World) : List (Nat × (List V → Option V)) → Prop
 | [] => True
 | p :: l => Fun (envW w0 []) p.1 p.2 ∧ AllW w0 l
theorem Since.refl {w0 : World} (h : Glob w0) : Since w0 w0 := ⟨h, Glob.high h, Below.refl _ _⟩
theorem envOK_W {w0 : World} {l : List (Nat × (List V → Option V))} (h : AllW w0 l) : EnvOK (envW w0 l) := by
 refine ⟨fun f F hF => ?_, (fun f F e => by cases e), fun X w w' hX hj hb => ?_, fun w hj => hj.2.2.size, (fun f lb => rfl), fun f F hF => by cases hF⟩
 · have key : ∀ l, AllW w0 l → lkF l f = some F → Fun (envW w0 []) f F := by
    intro l
    induction l with
    | nil => intro _ h; cases h
    | cons p l ih =>
      intro h hF
      simp only [lkF] at hF
      split at hF
      · rename_i e; cases hF; exact e ▸ h.1
      · exact ih h.2 hF
   exact key l h hF
 · obtain ⟨h1, h2, h3⟩ := hj
   have hlow : Below w0.heap.size w w' := ⟨hb.os, hb.tape, hb.output, hb.size, fun k hk => hb.block k (Nat.lt_of_lt_of_le hk h3.size) (fun hm => absurd (hX k hm) (Nat.not_le.2 hk))⟩
   exact ⟨Glob.low h1 hb.size ⟨hb.os, hb.tape, hb.output, hb.size, fun k hk => hlow.block k (Nat.lt_of_lt_of_le hk h2)⟩, h2,
    ⟨hlow.os.trans h3.os, hlow.tape.trans h3.tape, hlow.output.trans h3.output, Nat.le_trans h3.size hlow.size, fun k hk => (hlow.block k hk).trans (h3.block k hk)⟩⟩
def Exact (r : V) : Prop := ∀ m w v, Rd m w v r → ∀ m' w', Rd m' w' v r
theorem exact_x (v : Value) : Exact (.x v) := fun m w v' h m' w' => by cases h; exact .x _
theorem exact_agg {cs : List V} (h : ∀ c ∈ cs, Exact c) : Exact (.agg cs) := fun m w v hv m' w' => by
 cases hv with
 | agg vs _ hl hr => exact .agg vs cs hl (fun i v u h1 h2 => h u (List.mem_of_getElem? h2) _ _ _ (hr i v u h1 h2) _ _)
theorem exact_tup {cs : List V} (h : ∀ c ∈ cs, Exact c) : Exact (.tup cs) := fun m w v hv m' w' => by
 cases hv with
 | tup vs _ hl hr => exact .tup vs cs hl (fun i v u h1 h2 => h u (List.mem_of_getElem? h2) _ _ _ (hr i v u h1 h2) _ _)
theorem exact_tv (a : T3) : Exact (tv a) := exact_agg (fun c hc => by
 simp only [List.mem_cons, List.not_mem_nil, or_false] at hc
 rcases hc with rfl | rfl | rfl <;> exact exact_x _)
theorem exact_two {a b : V} (h1 : Exact a) (h2 : Exact b) : Exact (.tup [a, b]) := exact_tup (fun c hc => by
 simp only [List.mem_cons, List.not_mem_nil, or_false] at hc
 rcases hc with rfl | rfl
 · exact h1
 · exact h2)
theorem rdL_exact {m : Lim} {w : World} : ∀ {vs : List Value} {us : List V}, RdL m w vs us → (∀ u ∈ us, Exact u) → ∀ m' w', RdL m' w' vs us
 | [], [], _, _, _, _ => trivial
 | _ :: _, u :: _, h, he, m', w' => ⟨he u (List.mem_cons_self ..) _ _ _ h.1 _ _, rdL_exact h.2 (fun x hx => he x (List.mem_cons_of_mem _ hx)) m' w'⟩
 | [], _ :: _, h, _, _, _ => h.elim
 | _ :: _, [], h, _, _, _ => h.elim
theorem fun_of_each {w0 : World} {l : List (Nat × (List V → Option V))} (hE : EnvOK (envW w0 l)) {q : Value} {u : V} (hq : Rd (fun _ => none) w0 q u) {f : FuncId} {fn : Func} {c : Code} {F : List V → Option V} {k n : Nat} (hf : Tryz.prog.funcs[f]? = some fn) (hb : fn.body = some c)
 (hcall : ∀ args w, (callFunc f args).run Tryz.prog w = .ok (.enter f args) w) (hn : fn.ntmps = n) (hk : k ≤ n) (hn1 : n ≤ 1000)
 (hbody : ∀ us r, F us = some r → us.length = k ∧ (∀ x ∈ us, Exact x) ∧ Exact r ∧ ∀ (w : World) (a : Act), One (envW w0 l) n ⟨[], Kno.rd q u, fun _ => true, #[], fun _ => False, fun _ => none, w⟩ (start us) a w →
  c.wpIn (fen none) 0 Tryz.prog (fun e a' w' => (e = .normal ∨ e = .ret) ∧ ∃ D' Kn' W' t' st', One (envW w0 l) n ⟨D', Kn', W', t', fun _ => False, fun _ => none, w⟩ st' a' w' ∧ resV (envW w0 l) st' fn.results.toList = some r) a w) : Fun (envW w0 []) f F := by
 refine ⟨hcall, fun m w vs us r hF hdat hr hj hg => ?_⟩
 obtain ⟨h1, h2, h3, h4⟩ := hbody us r hF
 have hj' : Since w0 w := hj
 have hx : Ext (fun _ => none) w0 (fun _ => none) w := Ext.of_below hj'.2.2 (fun _ _ => rfl)
 refine (calls_of_one (E := envW w0 l) (m := fun _ => none) (Pr := fun z => z = r) hE hf hb hn hk hn1 (rdL_exact hr h2 _ _) hdat h1 hj (fun g => .undef _) (Kn := Kno.rd q u) (hq.mono hx) (fun a ha => ?_)).mono ?_
 · refine wpIn_mono (h4 w a ha) ?_
   rintro e a' w' ⟨he, D', Kn', W', t', st', ho, hres⟩
   exact ⟨he, D', Kn', W', t', st', r, ho, .inr hres, rfl⟩
 · rintro e w' ⟨v, m', r', rfl, rfl, hv, _, hs, _⟩
   exact ⟨v, m, rfl, h3 _ _ _ hv _ _, hs.below (fun _ _ h => h), fun _ _ => rfl⟩
def rv (v : T3) : List V := [tv v]
theorem rv_inj {a b : T3} (e : rv a = rv b) : a = b := tv_inj (List.cons.inj e).1
def OkU (U : List T3) (pre : List (List V)) : Prop := ∃ p post, U = p ++ post ∧ pre = p.map rv
def DoneU (U : List T3) (xs : List (List V)) : Prop := xs = U.map rv
theorem OkU.snoc {U : List T3} {pre : List (List V)} {x : List V} (h : OkU U (pre ++ [x])) : ∃ p v post, U = p ++ v :: post ∧ pre = p.map rv ∧ x = rv v := by
 obtain ⟨p, post, e1, e2⟩ := h
 have hne : p ≠ [] := by rintro rfl; simp at e2
 obtain ⟨p', v, rfl⟩ : ∃ p' v, p = p' ++ [v] := ⟨p.dropLast, p.getLast hne, (List.dropLast_concat_getLast hne).symm⟩
 rw [List.map_append] at e2
 obtain ⟨h1, h2⟩ := List.append_inj' e2 rfl
 exact ⟨p', v, post, by rw [e1, List.append_assoc]; rfl, h1, (List.cons.inj h2).1⟩
theorem take_pre {U p post : List T3} (e : U = p ++ post) : U.take (p.map rv).length = p := by
 rw [e, List.length_map, List.take_left]
def roundU (W : Nat → Bool) (Inv : List T3 → Prop) (T : List T3 → List (Nat × V)) (B : List T3 → List (Nat × List V)) (Rx : Prop) (TX : List (Nat × V)) (BX : List (Nat × List V)) (pre : List T3) : Out → St → Prop
 | .normal, st => Inv pre ∧ leT (cut W st) (T pre) ∧ leB st (B pre)
 | .ret, st => Rx ∧ leT (cut W st) TX ∧ leB st BX
 | .exit _, _ => False
section
variable (W : Nat → Bool) (Inv : List T3 → Prop) (T : List T3 → List (Nat × V)) (B : List T3 → List (Nat × List V)) (Rx : Prop) (TX : List (Nat × V)) (BX : List (Nat × List V)) (pre : List T3) (st : St)
theorem roundU_normal : roundU W Inv T B Rx TX BX pre .normal st = (Inv pre ∧ leT (cut W st) (T pre) ∧ leB st (B pre)) := rfl
theorem roundU_ret : roundU W Inv T B Rx TX BX pre .ret st = (Rx ∧ leT (cut W st) TX ∧ leB st BX) := rfl
end
attribute [go_sem] roundU_normal roundU_ret
section
variable {E : Env} {n : Nat} {B : Bs} {w : World} {st : St} {a : Act}
theorem each_range (hE : EnvOK E) (hm : E.P.follows .mixedOrders = true) (h : One E n B st a w) {g : Operand} {d : Tmp} {assign body : Code} {Q : Exit → Act → World → Prop} {gf : FuncId} {lb : Array Value} (W : Nat → Bool)
 (hg : a.eval g = .func (.func gf) #[] lb) (hcall : ∀ args w, (callFunc gf args).run E.P w = .ok (.enter gf args) w) {U : List T3}
 (hit : ∀ m w, B.Kn.P m w → E.J w → IterAt E (fun _ => False) gf lb (OkU U) (DoneU U) m w)
 (hoka : okCode E.any n assign = true) (hokb : okCode E.any n body = true) (hWa : wrC W assign = true) (hWb : wrC W body = true) (hd : W d = true ∧ d < n)
 (Inv : List T3 → Prop) (T : List T3 → List (Nat × V)) (BB : List T3 → List (Nat × List V)) (Rx : Prop) (TX : List (Nat × V)) (BX : List (Nat × List V)) (hi0 : Inv []) (h0 : leT st (T []) ∧ leB st (BB []))
 (TA : List T3 → T3 → List (Nat × V)) (BA : List T3 → T3 → List (Nat × List V))
 (hassign : ∀ pre v post, U = pre ++ v :: post → Inv pre → run E assign (putL [d] [tv v] (stOf (T pre) (BB pre))) (endT (TA pre v) (BA pre v)))
 (hround : ∀ pre v post, U = pre ++ v :: post → Inv pre → run E body (stOf (TA pre v) (BA pre v)) (roundU W Inv T BB Rx TX BX (pre ++ [v])))
 (hdone : ∀ b a' w', Inv U → One E n { B with D := markD b :: B.D } (stOf (T U) (BB U)) a' w' → Q .normal a' w')
 (hstop : ∀ b a' w', Rx → One E n { B with D := markD b :: B.D } (stOf TX BX) a' w' → Q .ret a' w') : (Code.rangeFunc g #[d] assign body).wpIn (fen none) 0 E.P Q a w := by
 refine one_rangeS hE h W hg hcall (Ok := OkU U) (Done := DoneU U) (G := fun _ => False) (fun _ h => h.elim) (fun m O hn hk hs m1 w1 hs1 hj => hit m1 w1 (B.Kn.mono _ _ _ _ hk hs1.ext) hj) (fun p hp => by simp at hp; subst hp; exact hd) (fun pre x hok => by obtain ⟨_, _, _, _, _, rfl⟩ := hok.snoc; rfl)
  (fun pre => ∃ p post, U = p ++ post ∧ pre = p.map rv ∧ Inv p) (fun pre => stOf (T (U.take pre.length)) (BB (U.take pre.length))) (fun pre x => stOf (TA (U.take pre.length) (U.getD pre.length (0, 0, ⟨#[]⟩))) (BA (U.take pre.length) (U.getD pre.length (0, 0, ⟨#[]⟩)))) (fun c _ st => c = .ret ∧ Rx ∧ Le (stOf TX BX) st)
  ⟨[], U, rfl, rfl, hi0⟩ (le_stOf h0.1 h0.2) ?_ ?_ ?_ ?_
 · rintro pre x l B' a1 w1 hok ⟨p, post, e1, rfl, hinv⟩ _ _ hW' _ ho
   obtain ⟨p', v, post', e2, e3, rfl⟩ := hok.snoc
   obtain rfl : p = p' := map_inj' (fun _ _ => rv_inj) e3
   have e4 : U.getD (p.map rv).length (0, 0, ⟨#[]⟩) = v := by rw [e2, List.length_map]; simp
   rw [take_pre e1] at ho ⊢
   rw [e4]
   exact one_TW hE hm _ _ hoka (by rw [hW']; exact hWa) ho (hassign p v post' e2 hinv) (fun a2 w2 h2 => ⟨rfl, h2⟩)
 · rintro pre x l B' a1 w1 hok ⟨p, post, e1, rfl, hinv⟩ _ _ hW' _ ho
   obtain ⟨p', v, post', e2, e3, rfl⟩ := hok.snoc
   obtain rfl : p = p' := map_inj' (fun _ _ => rv_inj) e3
   have e4 : U.getD (p.map rv).length (0, 0, ⟨#[]⟩) = v := by rw [e2, List.length_map]; simp
   have e5 : U = (p ++ [v]) ++ post' := by rw [e2, List.append_assoc]; rfl
   have e6 : p.map rv ++ [rv v] = (p ++ [v]).map rv := by rw [List.map_append]; rfl
   rw [take_pre e1, e4] at ho
   refine wpIn_mono (run_one hE hm hokb (by rw [hW']; exact hWb) ho (hround p v post' e2 hinv)) ?_
   rintro e a2 w2 ⟨o, st', hoe, hK, h2⟩
   refine ⟨st', h2, ?_⟩
   rw [e6, take_pre e5]
   cases o with
   | ret => cases e <;> simp only [outE, Option.some.injEq, reduceCtorEq] at hoe; exact ⟨rfl, hK.1, le_stOf hK.2.1 (cut_leB W st' hK.2.2)⟩
   | exit id => exact hK.elim
   | normal => cases e <;> simp only [outE, Option.some.injEq, reduceCtorEq] at hoe; exact ⟨⟨_, _, e5, rfl, hK.1⟩, le_stOf hK.2.1 (cut_leB W st' hK.2.2)⟩
 · rintro xs b a' w' hd ⟨p, post, e1, e2, hinv⟩ _ h3
   obtain rfl : xs = U.map rv := hd
   obtain rfl : U = p := map_inj' (fun _ _ => rv_inj) e2
   rw [List.length_map, List.take_length] at h3
   exact hdone b a' w' hinv h3
 · rintro c pre st2 b a' w' ⟨rfl, hx, hle⟩ h3
   exact wpIn_ret (hstop b a' w' hx (h3.le hle))
end
end Go.Proofs.YtfngpfnbhafmlaaGreatDoor
namespace Go.Proofs.YtfngpfnbhafmlaaGreatDoor
open Go Go.RowKit
set_option linter.unusedSimpArgs false
def truE (v : T3) : Option T3 := if v.1 = 3 ∨ v.1 = 0 then none else if v.1 = 4 then some v else some (4, 3, ⟨#[]⟩)
def FTextG : List V → Option V
 | [.x (.string s)] => some (vl 2 0 s)
 | _ => none
def FIsInt : List V → Option V
 | [.agg [.x (.int .i64 k), .x (.int .i64 _), .x (.string _)]] => some (.x (.bool (decide (k = 1))))
 | _ => none
def FFilled : List V → Option V
 | [.agg [.x (.int .i64 k), .x (.int .i64 _), .x (.string _)]] => some (.x (.bool (!decide (k = 0))))
 | _ => none
def truthV (k n : Int) (s : ByteArray) : V := match truE (k, n, s) with
 | none => .tup [.x (.bool (decide (k = 3) && decide (n = 1))), vl 0 0 ⟨#[]⟩, .x (.bool true)]
 | some w => .tup [.x (.bool false), vl w.1 w.2.1 w.2.2, .x (.bool false)]
def FTruthOf : List V → Option V
 | [.agg [.x (.int .i64 k), .x (.int .i64 n), .x (.string s)]] => some (truthV k n s)
 | _ => none
theorem FTruthOf_no {k n : Int} {s : ByteArray} {a b : Int} {c : ByteArray} (h : truE (k, n, s) = some (a, b, c)) : FTruthOf [.agg [.x (.int .i64 k), .x (.int .i64 n), .x (.string s)]] = some (.tup [.x (.bool false), vl a b c, .x (.bool false)]) := by
 show some (truthV k n s) = _
 unfold truthV; rw [h]
theorem FTruthOf_yes {k n : Int} {s : ByteArray} (h : truE (k, n, s) = none) : FTruthOf [.agg [.x (.int .i64 k), .x (.int .i64 n), .x (.string s)]] = some (.tup [.x (.bool (decide (k = 3) && decide (n = 1))), vl 0 0 ⟨#[]⟩, .x (.bool true)]) := by
 show some (truthV k n s) = _
 unfold truthV; rw [h]
def placeW (i : Int) : T3 := if i < 0 then (4, 7, ⟨#[]⟩) else (1, i + 1, ⟨#[]⟩)
def FPlaceG : List V → Option V
 | [.x (.int .i64 i)] => if i < 9223372036854775807 ∧ -9223372036854775808 ≤ i then some (tv (placeW i)) else none
 | _ => none
theorem FPlace_of {i : Int} (h : i < 9223372036854775807 ∧ -9223372036854775808 ≤ i) : FPlaceG [.x (.int .i64 i)] = some (tv (placeW i)) := if_pos h
def fromE (least k n : Int) (s : ByteArray) : Option T3 := match numE k n s with
 | some w => some w
 | none => if n < least then some (4, 3, ⟨#[]⟩) else none
def fromV (least k n : Int) (s : ByteArray) : V := match fromE least k n s with
 | some w => .tup [.x (.int .i64 0), vl w.1 w.2.1 w.2.2, .x (.bool false)]
 | none => .tup [.x (.int .i64 n), vl 0 0 ⟨#[]⟩, .x (.bool true)]
def FFrom : List V → Option V
 | [.x (.int .i64 least), .agg [.x (.int .i64 k), .x (.int .i64 n), .x (.string s)]] => some (fromV least k n s)
 | _ => none
theorem FFrom_no {least k n : Int} {s : ByteArray} {a b : Int} {c : ByteArray} (h : fromE least k n s = some (a, b, c)) : FFrom [.x (.int .i64 least), .agg [.x (.int .i64 k), .x (.int .i64 n), .x (.string s)]] = some (.tup [.x (.int .i64 0), vl a b c, .x (.bool false)]) := by
 show some (fromV least k n s) = _
 unfold fromV; rw [h]
theorem FFrom_yes {least k n : Int} {s : ByteArray} (h : fromE least k n s = none) : FFrom [.x (.int .i64 least), .agg [.x (.int .i64 k), .x (.int .i64 n), .x (.string s)]] = some (.tup [.x (.int .i64 n), vl 0 0 ⟨#[]⟩, .x (.bool true)]) := by
 show some (fromV least k n s) = _
 unfold fromV; rw [h]
def FOwn : List V → Option V
 | [.agg [.x (.int .i64 k), .x (.int .i64 n), .x (.string s)]] => if s.size ≤ 281474976710656 then some (vl k n s) else none
 | _ => none
theorem FOwn_of {k n : Int} {s : ByteArray} (h : s.size ≤ 281474976710656) : FOwn [.agg [.x (.int .i64 k), .x (.int .i64 n), .x (.string s)]] = some (vl k n s) := if_pos h
def notW (v : T3) : T3 := match truE v with
 | some w => w
 | none => boolW (!(decide (v.1 = 3) && decide (v.2.1 = 1)))
def FNot : List V → Option V
 | [.agg [.x (.int .i64 k), .x (.int .i64 n), .x (.string s)]] => some (tv (notW (k, n, s)))
 | _ => none
def branchW (v a b : T3) : T3 := match truE v with
 | some w => w
 | none => if (decide (v.1 = 3) && decide (v.2.1 = 1)) = true then a else b
def small3 (v : T3) : Prop := v.2.2.size ≤ 281474976710656
instance (v : T3) : Decidable (small3 v) := by unfold small3; exact inferInstance
def FBranch : List V → Option V
 | [.agg [.x (.int .i64 k), .x (.int .i64 n), .x (.string s)], .agg [.x (.int .i64 k'), .x (.int .i64 n'), .x (.string s')], .agg [.x (.int .i64 k2), .x (.int .i64 n2), .x (.string s2)]] => if s'.size ≤ 281474976710656 ∧ s2.size ≤ 281474976710656 then some (tv (branchW (k, n, s) (k', n', s') (k2, n2, s2))) else none
 | _ => none
def ofNumW (name : ByteArray) (v : T3) : T3 := match numE v.1 v.2.1 v.2.2 with
 | some w => w
 | none => if name = ⟨#[83, 73, 71, 78]⟩ then (1, cmpV 1 v.2.1 ⟨#[]⟩ 1 0 ⟨#[]⟩, ⟨#[]⟩) else if v.2.1 < 0 then pairW ⟨#[45]⟩ 1 0 ⟨#[]⟩ v.1 v.2.1 v.2.2 else (1, v.2.1, ⟨#[]⟩)
def FOfNum : List V → Option V
 | [.x (.string name), .agg [.x (.int .i64 k), .x (.int .i64 n), .x (.string s)]] => if inR n then some (tv (ofNumW name (k, n, s))) else none
 | _ => none
def modG (a b : T3) : T3 := match numE a.1 a.2.1 a.2.2 with
 | some w => w
 | none => match numE b.1 b.2.1 b.2.2 with
   | some w => w
   | none => if b.2.1 = 0 then (4, 2, ⟨#[]⟩) else (1, a.2.1.tmod b.2.1, ⟨#[]⟩)
def FModG : List V → Option V
 | [.agg [.x (.int .i64 k), .x (.int .i64 n), .x (.string s)], .agg [.x (.int .i64 k'), .x (.int .i64 n'), .x (.string s')]] => if inR n ∧ inR n' then some (tv (modG (k, n, s) (k', n', s'))) else none
 | _ => none
set_option maxRecDepth 100000 in
theorem gnumber_fun : FunV 49 FNumber := by
 refine fun_of_run (E := envOf []) (k := 1) (envOK_of _ trivial) (by kernel_rfl) Tryz.func49 rfl (fun a w => Tryz.call49 a w) Tryz.ntmps49 (by kernel_rfl) (by decide) (by decide) ?_
 intro us r hF hdat
 unfold FNumber at hF
 split at hF
 case h_2 => cases hF
 rename_i n
 cases hF
 refine ⟨rfl, ?_⟩
 simp +decide (maxDischargeDepth := 200) only [go_sem, Tryz.results49]
set_option maxRecDepth 100000 in
theorem gfault_fun : FunV 56 FFault := by
 refine fun_of_run (E := envOf []) (k := 1) (envOK_of _ trivial) (by kernel_rfl) Tryz.func56 rfl (fun a w => Tryz.call56 a w) Tryz.ntmps56 (by kernel_rfl) (by decide) (by decide) ?_
 intro us r hF hdat
 unfold FFault at hF
 split at hF
 case h_2 => cases hF
 rename_i n
 cases hF
 refine ⟨rfl, ?_⟩
 simp +decide (maxDischargeDepth := 200) only [go_sem, Tryz.results56]
set_option maxRecDepth 100000 in
theorem gtext_fun : FunV 131 FTextG := by
 refine fun_of_run (E := envOf []) (k := 1) (envOK_of _ trivial) (by kernel_rfl) Tryz.func131 rfl (fun a w => Tryz.call131 a w) Tryz.ntmps131 (by kernel_rfl) (by decide) (by decide) ?_
 intro us r hF hdat
 unfold FTextG at hF
 split at hF
 case h_2 => cases hF
 rename_i s
 cases hF
 refine ⟨rfl, ?_⟩
 simp +decide (maxDischargeDepth := 200) only [go_sem, Tryz.results131]
set_option maxRecDepth 100000 in
theorem gtruth_fun : FunV 105 FTruth := by
 refine fun_of_run (E := envOf []) (k := 1) (envOK_of _ trivial) (by kernel_rfl) Tryz.func105 rfl (fun a w => Tryz.call105 a w) Tryz.ntmps105 (by kernel_rfl) (by decide) (by decide) ?_
 intro us r hF hdat
 unfold FTruth at hF
 split at hF
 case h_2 => cases hF
 rename_i b
 cases hF
 refine ⟨rfl, ?_⟩
 cases b
 · simp +decide (maxDischargeDepth := 200) only [go_sem, Tryz.results105]
 · simp +decide (maxDischargeDepth := 200) only [go_sem, Tryz.results105]
set_option maxRecDepth 100000 in
theorem gisint_fun : FunV 101 FIsInt := by
 refine fun_of_run (E := envOf []) (k := 1) (envOK_of _ trivial) (by kernel_rfl) Tryz.func101 rfl (fun a w => Tryz.call101 a w) Tryz.ntmps101 (by kernel_rfl) (by decide) (by decide) ?_
 intro us r hF hdat
 unfold FIsInt at hF
 split at hF
 case h_2 => cases hF
 rename_i k n s
 cases hF
 refine ⟨rfl, ?_⟩
 simp +decide (maxDischargeDepth := 200) only [go_sem, Tryz.results101]
set_option maxRecDepth 100000 in
theorem gfilled_fun : FunV 52 FFilled := by
 refine fun_of_run (E := envOf []) (k := 1) (envOK_of _ trivial) (by kernel_rfl) Tryz.func52 rfl (fun a w => Tryz.call52 a w) Tryz.ntmps52 (by kernel_rfl) (by decide) (by decide) ?_
 intro us r hF hdat
 unfold FFilled at hF
 split at hF
 case h_2 => cases hF
 rename_i k n s
 cases hF
 refine ⟨rfl, ?_⟩
 simp +decide (maxDischargeDepth := 200) only [go_sem, Tryz.results52]
set_option maxRecDepth 100000 in
theorem gusable_fun : FunV 97 FPlain := by
 refine fun_of_run (E := envOf [(43, FRight), (56, FFault)]) (k := 1) (envOK_of _ ⟨valr_fun, gfault_fun, trivial⟩) (by kernel_rfl) Tryz.func97 rfl (fun a w => Tryz.call97 a w) Tryz.ntmps97 (by kernel_rfl) (by decide) (by decide) ?_
 intro us r hF hdat
 unfold FPlain at hF
 split at hF
 case h_2 => cases hF
 rename_i k n s
 cases hF
 refine ⟨rfl, ?_⟩
 unfold plainW
 cases hr : rightB k n s
 · simp +decide (maxDischargeDepth := 200) only [go_sem, FRight, FFault, hr, Tryz.results97]
 · simp +decide (maxDischargeDepth := 200) only [go_sem, FRight, FFault, hr, Tryz.results97]
set_option maxRecDepth 100000 in
theorem gtruthof_fun : FunV 128 FTruthOf := by
 refine fun_of_run (E := envOf [(56, FFault)]) (k := 1) (envOK_of _ ⟨gfault_fun, trivial⟩) (by kernel_rfl) Tryz.func128 rfl (fun a w => Tryz.call128 a w) Tryz.ntmps128 (by kernel_rfl) (by decide) (by decide) ?_
 intro us r hF hdat
 unfold FTruthOf at hF
 split at hF
 case h_2 => cases hF
 rename_i k n s
 cases hF
 refine ⟨rfl, ?_⟩
 by_cases h3 : k = 3
 · subst h3
   have e : truthV 3 n s = .tup [.x (.bool (decide (n = 1))), vl 0 0 ⟨#[]⟩, .x (.bool true)] := by unfold truthV; rw [show truE (3, n, s) = none from rfl]; rfl
   rw [e]
   simp +decide (maxDischargeDepth := 200) only [go_sem, FFault, *, Tryz.results128]
 · by_cases h0 : k = 0
   · subst h0
     have e : truthV 0 n s = .tup [.x (.bool false), vl 0 0 ⟨#[]⟩, .x (.bool true)] := by unfold truthV; rw [show truE (0, n, s) = none from rfl]; rfl
     rw [e]
     simp +decide (maxDischargeDepth := 200) only [go_sem, FFault, *, Tryz.results128]
   · have d3 := decide_eq_false h3
     have d0 := decide_eq_false h0
     by_cases h4 : k = 4
     · subst h4
       have e : truthV 4 n s = .tup [.x (.bool false), vl 4 n s, .x (.bool false)] := by unfold truthV; rw [show truE (4, n, s) = some (4, n, s) from rfl]
       rw [e]
       simp +decide (maxDischargeDepth := 200) only [go_sem, FFault, *, Tryz.results128]
     · have d4 := decide_eq_false h4
       have e : truthV k n s = .tup [.x (.bool false), vl 4 3 ⟨#[]⟩, .x (.bool false)] := by
        have : truE (k, n, s) = some (4, 3, ⟨#[]⟩) := by unfold truE; rw [if_neg (fun h => h.elim h3 h0), if_neg h4]
        unfold truthV; rw [this]
       rw [e]
       simp +decide (maxDischargeDepth := 200) only [go_sem, FFault, *, Tryz.results128]
set_option maxRecDepth 100000 in
theorem gnot_fun : FunV 108 FNot := by
 refine fun_of_run (E := envOf [(128, FTruthOf), (105, FTruth)]) (k := 1) (envOK_of _ ⟨gtruthof_fun, gtruth_fun, trivial⟩) (by kernel_rfl) Tryz.func108 rfl (fun a w => Tryz.call108 a w) Tryz.ntmps108 (by kernel_rfl) (by decide) (by decide) ?_
 intro us r hF hdat
 unfold FNot at hF
 split at hF
 case h_2 => cases hF
 rename_i k n s
 cases hF
 refine ⟨rfl, ?_⟩
 cases hE : truE (k, n, s) with
 | some w =>
   obtain ⟨wk, wn, ws⟩ := w
   have eT := FTruthOf_no hE
   have e : notW (k, n, s) = (wk, wn, ws) := by unfold notW; rw [hE]
   rw [e]
   simp +decide (maxDischargeDepth := 200) only [go_sem, eT, Tryz.results108]
 | none =>
   have eT := FTruthOf_yes hE
   have e : notW (k, n, s) = boolW (!(decide (k = 3) && decide (n = 1))) := by unfold notW; rw [hE]
   rw [e, boolW_tv]
   cases hb : (decide (k = 3) && decide (n = 1))
   · rw [hb] at eT
     simp +decide (maxDischargeDepth := 200) only [go_sem, eT, FTruth, hb, Tryz.results108]
   · rw [hb] at eT
     simp +decide (maxDischargeDepth := 200) only [go_sem, eT, FTruth, hb, Tryz.results108]
set_option maxRecDepth 100000 in
theorem gplace_fun : FunV 112 FPlaceG := by
 refine fun_of_run (E := envOf [(56, FFault), (49, FNumber)]) (k := 1) (envOK_of _ ⟨gfault_fun, gnumber_fun, trivial⟩) (by kernel_rfl) Tryz.func112 rfl (fun a w => Tryz.call112 a w) Tryz.ntmps112 (by kernel_rfl) (by decide) (by decide) ?_
 intro us r hF hdat
 unfold FPlaceG at hF
 split at hF
 case h_2 => cases hF
 rename_i i
 split at hF
 case isFalse => cases hF
 rename_i h
 cases hF
 refine ⟨rfl, ?_⟩
 obtain ⟨h1, h2⟩ := h
 unfold placeW
 by_cases h0 : i < 0
 · have d0 := decide_eq_true h0
   rw [if_pos h0]
   simp +decide (maxDischargeDepth := 200) only [go_sem, FFault, d0, Tryz.results112]
 · have d0 := decide_eq_false h0
   have w1 : bWrap .i64 (i + 1) = i + 1 := bwrap_of (by unfold inR; omega)
   rw [if_neg h0]
   simp +decide (maxDischargeDepth := 200) only [go_sem, FNumber, d0, w1, Tryz.results112]
set_option maxRecDepth 100000 in
theorem gfrom_fun : FunV 137 FFrom := by
 refine fun_of_run (E := envOf [(86, FNum), (56, FFault)]) (k := 2) (envOK_of _ ⟨num_fun, gfault_fun, trivial⟩) (by kernel_rfl) Tryz.func137 rfl (fun a w => Tryz.call137 a w) Tryz.ntmps137 (by kernel_rfl) (by decide) (by decide) ?_
 intro us r hF hdat
 unfold FFrom at hF
 split at hF
 case h_2 => cases hF
 rename_i least k n s
 cases hF
 refine ⟨rfl, ?_⟩
 cases hN : numE k n s with
 | some w =>
   obtain ⟨wk, wn, ws⟩ := w
   have eN := FNum_no hN
   have e : fromV least k n s = .tup [.x (.int .i64 0), vl wk wn ws, .x (.bool false)] := by
    have : fromE least k n s = some (wk, wn, ws) := by unfold fromE; rw [hN]
    unfold fromV; rw [this]
   rw [e]
   simp +decide (maxDischargeDepth := 200) only [go_sem, eN, Tryz.results137]
 | none =>
   have eN := FNum_yes hN
   by_cases hl : n < least
   · have d := decide_eq_true hl
     have e : fromV least k n s = .tup [.x (.int .i64 0), vl 4 3 ⟨#[]⟩, .x (.bool false)] := by
      have : fromE least k n s = some (4, 3, ⟨#[]⟩) := by unfold fromE; rw [hN]; exact if_pos hl
      unfold fromV; rw [this]
     rw [e]
     simp +decide (maxDischargeDepth := 200) only [go_sem, eN, d, FFault, Tryz.results137]
   · have d := decide_eq_false hl
     have e : fromV least k n s = .tup [.x (.int .i64 n), vl 0 0 ⟨#[]⟩, .x (.bool true)] := by
      have : fromE least k n s = none := by unfold fromE; rw [hN]; exact if_neg hl
      unfold fromV; rw [this]
     rw [e]
     simp +decide (maxDischargeDepth := 200) only [go_sem, eN, d, Tryz.results137]
set_option maxRecDepth 100000 in
theorem gown_fun : FunV 133 FOwn := by
 refine fun_of_run (E := envOf [(18, FClone)]) (k := 1) (envOK_of _ ⟨clone_fun, trivial⟩) (by kernel_rfl) Tryz.func133 rfl (fun a w => Tryz.call133 a w) Tryz.ntmps133 (by kernel_rfl) (by decide) (by decide) ?_
 intro us r hF hdat
 unfold FOwn at hF
 split at hF
 case h_2 => cases hF
 rename_i k n s
 split at hF
 case isFalse => cases hF
 rename_i h
 cases hF
 refine ⟨rfl, ?_⟩
 simp +decide (maxDischargeDepth := 200) only [go_sem, FClone, h, Tryz.results133]
set_option maxRecDepth 100000 in
theorem gbranch_fun : FunV 106 FBranch := by
 refine fun_of_run (E := envOf [(128, FTruthOf), (133, FOwn)]) (k := 3) (envOK_of _ ⟨gtruthof_fun, gown_fun, trivial⟩) (by kernel_rfl) Tryz.func106 rfl (fun a w => Tryz.call106 a w) Tryz.ntmps106 (by kernel_rfl) (by decide) (by decide) ?_
 intro us r hF hdat
 unfold FBranch at hF
 split at hF
 case h_2 => cases hF
 rename_i k n s k' n' s' k2 n2 s2
 split at hF
 case isFalse => cases hF
 rename_i h
 cases hF
 refine ⟨rfl, ?_⟩
 obtain ⟨h1, h2⟩ := h
 cases hE : truE (k, n, s) with
 | some w =>
   obtain ⟨wk, wn, ws⟩ := w
   have eT := FTruthOf_no hE
   have e : branchW (k, n, s) (k', n', s') (k2, n2, s2) = (wk, wn, ws) := by unfold branchW; rw [hE]
   rw [e]
   simp +decide (maxDischargeDepth := 200) only [go_sem, eT, Tryz.results106]
 | none =>
   have eT := FTruthOf_yes hE
   have e : branchW (k, n, s) (k', n', s') (k2, n2, s2) = if (decide (k = 3) && decide (n = 1)) = true then (k', n', s') else (k2, n2, s2) := by unfold branchW; rw [hE]
   rw [e]
   cases hb : (decide (k = 3) && decide (n = 1))
   · rw [hb] at eT
     simp +decide (maxDischargeDepth := 200) only [go_sem, eT, FOwn, h2, Tryz.results106]
   · rw [hb] at eT
     simp +decide (maxDischargeDepth := 200) only [go_sem, eT, FOwn, h1, Tryz.results106]
set_option maxRecDepth 100000 in
theorem gofnumber_fun : FunV 109 FOfNum := by
 refine fun_of_run (E := envOf [(86, FNum), (49, FNumber), (48, FCompare), (26, FMinus)]) (k := 2) (envOK_of _ ⟨num_fun, gnumber_fun, compare_fun, minus_fun, trivial⟩) (by kernel_rfl) Tryz.func109 rfl (fun a w => Tryz.call109 a w) Tryz.ntmps109 (by kernel_rfl) (by decide) (by decide) ?_
 intro us r hF hdat
 unfold FOfNum at hF
 split at hF
 case h_2 => cases hF
 rename_i name k n s
 split at hF
 case isFalse => cases hF
 rename_i h
 cases hF
 refine ⟨rfl, ?_⟩
 cases hN : numE k n s with
 | some w =>
   obtain ⟨wk, wn, ws⟩ := w
   have eN := FNum_no hN
   have e : ofNumW name (k, n, s) = (wk, wn, ws) := by unfold ofNumW; rw [hN]
   rw [e]
   simp +decide (maxDischargeDepth := 200) only [go_sem, eN, Tryz.results109]
 | none =>
   have eN := FNum_yes hN
   have e : ofNumW name (k, n, s) = if name = ⟨#[83, 73, 71, 78]⟩ then (1, cmpV 1 n ⟨#[]⟩ 1 0 ⟨#[]⟩, ⟨#[]⟩) else if n < 0 then pairW ⟨#[45]⟩ 1 0 ⟨#[]⟩ k n s else (1, n, ⟨#[]⟩) := by unfold ofNumW; rw [hN]
   rw [e]
   by_cases hs : name = ⟨#[83, 73, 71, 78]⟩
   · have ds := decide_eq_true hs
     rw [if_pos hs]
     simp +decide (maxDischargeDepth := 200) only [go_sem, eN, ds, FNumber, FCompare, Tryz.results109]
   · have ds := decide_eq_false hs
     rw [if_neg hs]
     by_cases h0 : n < 0
     · have d0 := decide_eq_true h0
       rw [if_pos h0]
       simp +decide (maxDischargeDepth := 200) only [go_sem, eN, ds, d0, FMinus, h, Tryz.results109]
     · have d0 := decide_eq_false h0
       rw [if_neg h0]
       simp +decide (maxDischargeDepth := 200) only [go_sem, eN, ds, d0, FNumber, Tryz.results109]
set_option maxRecDepth 100000 in
theorem gmod_fun : FunV 110 FModG := by
 refine fun_of_run (E := envOf [(86, FNum), (56, FFault), (49, FNumber)]) (k := 2) (envOK_of _ ⟨num_fun, gfault_fun, gnumber_fun, trivial⟩) (by kernel_rfl) Tryz.func110 rfl (fun a w => Tryz.call110 a w) Tryz.ntmps110 (by kernel_rfl) (by decide) (by decide) ?_
 intro us r hF hdat
 unfold FModG at hF
 split at hF
 case h_2 => cases hF
 rename_i k n s k' n' s'
 split at hF
 case isFalse => cases hF
 rename_i h
 cases hF
 refine ⟨rfl, ?_⟩
 cases hN : numE k n s with
 | some w =>
   obtain ⟨wk, wn, ws⟩ := w
   have eN := FNum_no hN
   have e : modG (k, n, s) (k', n', s') = (wk, wn, ws) := by unfold modG; rw [hN]
   rw [e]
   simp +decide (maxDischargeDepth := 200) only [go_sem, eN, Tryz.results110]
 | none =>
   have eN := FNum_yes hN
   cases hM : numE k' n' s' with
   | some w =>
     obtain ⟨wk, wn, ws⟩ := w
     have eM := FNum_no hM
     have e : modG (k, n, s) (k', n', s') = (wk, wn, ws) := by unfold modG; rw [hN, hM]
     rw [e]
     simp +decide (maxDischargeDepth := 200) only [go_sem, eN, eM, Tryz.results110]
   | none =>
     have eM := FNum_yes hM
     have e : modG (k, n, s) (k', n', s') = if n' = 0 then (4, 2, ⟨#[]⟩) else (1, n.tmod n', ⟨#[]⟩) := by unfold modG; rw [hN, hM]
     rw [e]
     by_cases h0 : n' = 0
     · have d0 := decide_eq_true h0
       rw [if_pos h0]
       simp +decide (maxDischargeDepth := 200) only [go_sem, eN, eM, d0, FFault, Tryz.results110]
     · have d0 := decide_eq_false h0
       rw [if_neg h0]
       simp +decide (maxDischargeDepth := 200) only [go_sem, eN, eM, d0, h0, FNumber, Tryz.results110]
end Go.Proofs.YtfngpfnbhafmlaaGreatDoor
namespace Go.Proofs.YtfngpfnbhafmlaaGreatDoor
open Go Go.RowKit
set_option linter.unusedSimpArgs false
def usL (l : List T3) : List T3 := l.map plainT
theorem plainT_in {v : T3} (h : inR v.2.1) : inR (plainT v).2.1 := by
 obtain ⟨k, n, s⟩ := v
 unfold plainT plainW
 split
 · exact h
 · show inR 3
   unfold inR; omega
theorem usL_in {l : List T3} (h : ∀ v ∈ l, inR v.2.1) : ∀ v ∈ usL l, inR v.2.1 := by
 intro v hv
 obtain ⟨u, hu, rfl⟩ := List.mem_map.1 hv
 exact plainT_in (h u hu)
theorem usL_length (l : List T3) : (usL l).length = l.length := List.length_map ..
def seen (l : List RW) (i : Nat) (c : List T3) (j : Nat) : List T3 := usL (allL (l.take i) ++ c.take j)
theorem seen_end {l : List RW} {i : Nat} {a : Bool} {b : Nat} {c : List T3} (h : l[i]? = some (a, b, c)) : seen l i c c.length = usL (allL (l.take (i + 1))) := by
 unfold seen
 rw [take_snoc3 h, allL_snoc, List.take_length]
theorem seen_next {l : List RW} {i j : Nat} {a : Bool} {b : Nat} {c : List T3} {v : T3} (h : l[i]? = some (a, b, c)) (hv : c[j]? = some v) : seen l i c (j + 1) = seen l i c j ++ [plainT v] ∧ ∃ post, usL (allL l) = seen l i c j ++ plainT v :: post := by
 obtain ⟨hj, rfl⟩ := List.getElem?_eq_some_iff.1 hv
 refine ⟨?_, usL (c.drop (j + 1) ++ allL (l.drop (i + 1))), ?_⟩
 · unfold seen usL
   rw [take_snoc3 hv, ← List.append_assoc, List.map_append]
   rfl
 · have e : allL l = allL (l.take i) ++ (c ++ allL (l.drop (i + 1))) := by
    obtain ⟨hi, e⟩ := List.getElem?_eq_some_iff.1 h
    have e1 : l = l.take i ++ (a, b, c) :: l.drop (i + 1) := by
     rw [← e, ← List.drop_eq_getElem_cons hi, List.take_append_drop]
    have e2 : allL l = allL (l.take i ++ (a, b, c) :: l.drop (i + 1)) := by rw [← e1]
    rw [e2]
    simp [allL]
   have e3 : c = c.take j ++ c[j] :: c.drop (j + 1) := by rw [← List.drop_eq_getElem_cons hj, List.take_append_drop]
   rw [e]
   unfold seen usL
   rw [show allL (l.take i) ++ (c ++ allL (l.drop (i + 1))) = (allL (l.take i) ++ c.take j) ++ (c[j] :: (c.drop (j + 1) ++ allL (l.drop (i + 1)))) from by
    rw [List.append_assoc]
    congr 1
    rw [← List.cons_append, ← List.append_assoc, ← e3]]
   rw [List.map_append, List.map_cons]
theorem okU_next {l : List RW} {i j : Nat} {a : Bool} {b : Nat} {c : List T3} {v : T3} (h : l[i]? = some (a, b, c)) (hv : c[j]? = some v) : OkU (usL (allL l)) ((seen l i c j).map rv ++ [rv (plainT v)]) := by
 obtain ⟨h1, post, h2⟩ := seen_next h hv
 refine ⟨seen l i c (j + 1), post, ?_, ?_⟩
 · rw [h1, h2]; simp
 · rw [h1, List.map_append]; rfl
theorem each_call (ao : Option Addr) (ln cp : Nat) (w : World) : Calls Tryz.prog 51 #[.slice ao ln cp] w fun e w' => e = .returned (.func (.func 96) #[] #[.pointer (some ⟨w.heap.size, 0, none⟩)]) ∧ w' = w.alloc (.cells #[.slice ao ln cp] 56) := by
 go_enter Tryz.func51, Tryz.ntmps51
 go_wp2
 go_ret
 exact ⟨rfl, rfl⟩
set_option maxHeartbeats 16000000 in
set_option maxRecDepth 100000 in
theorem each_iter {w0 : World} {nl : Bool} {sz : Nat} {l : List RW} (hok : okAw (nl, sz, l)) {m : Lim} {w : World} {lb : Array Value} (hr : RdL m w lb.toList [.ip [awV (nl, sz, l)]]) : IterAt (envW w0 []) (fun _ => False) 96 lb (OkU (usL (allL l))) (DoneU (usL (allL l))) m w := by
 refine iter_of (E := envW w0 [(97, FPlain)]) (n := 26) (us := [.ip [awV (nl, sz, l)]]) Tryz.func96 rfl Tryz.ntmps96 Tryz.results96 (by simp) (by decide) hr rfl (fun g => .undef _) ?_
 intro l0 A Ax a0 O hA hX hy h0 _
 have hE : EnvOK (envW w0 [(97, FPlain)]) := envOK_W ⟨fun_W w0 gusable_fun, trivial⟩
 have hm : (envW w0 [(97, FPlain)]).P.follows .mixedOrders = true := by kernel_rfl
 obtain ⟨hsz, hrw, hal, hlen⟩ := hok
 simp only at hsz hrw hal hlen
 unfold awV at h0
 simp only at h0
 refine wpIn_seq (two_T hE hm (hA []) [(0, .x (.func (.yield l0) #[] #[])), (7, .sl nl sz (l.map rwV) none), (8, .x (.int .i64 (l.length : Int))), (9, .x (.int .i64 ((0 : Nat) : Int)))] [] (by kernel_rfl) h0 (by simp +decide (maxDischargeDepth := 200) only [go_sem, Nat.reduceBEq, List.length_map, Int.natCast_zero] <;> (repeat' first | rfl | constructor)) ?_)
 clear h0
 intro a w1 h1
 refine wpIn_block ?_
 refine wpIn_loopX (X := Nat) (fun i a' w' => i ≤ l.length ∧ Two (envW w0 [(97, FPlain)]) 26 O m w (A ((usL (allL (l.take i))).map rv)) (stOf [(0, .x (.func (.yield l0) #[] #[])), (7, .sl nl sz (l.map rwV) none), (8, .x (.int .i64 (l.length : Int))), (9, .x (.int .i64 ((i : Nat) : Int)))] []) a' w') (fun i => l.length - i) 0 ⟨Nat.zero_le _, h1⟩ ?_
 clear h1 a w1 a0
 rintro i a w1 ⟨hi0, h1⟩
 by_cases hi : i < l.length
 · obtain ⟨a1, b1, c, g1, g2, g3⟩ := rw_at hi
   obtain rfl := hsz (List.ne_nil_of_mem g3)
   have c1 : decide ((i : Int) < (l.length : Int)) = true := decide_eq_true (by omega)
   have c2 : (0 : Int) ≤ (i : Int) := by omega
   have c4 := count_up (i := i) (by omega)
   obtain ⟨hb3, hci, hcl⟩ := hrw _ g3
   simp only at hb3 hci hcl
   refine wpIn_seq (two_T hE hm (hA ((usL (allL (l.take i))).map rv)) [(0, .x (.func (.yield l0) #[] #[])), (7, .sl nl 1 (l.map rwV) none), (8, .x (.int .i64 (l.length : Int))), (9, .x (.int .i64 ((i : Nat) : Int))), (10, .x (.bool true))] [] (by kernel_rfl) h1 (by simp +decide (maxDischargeDepth := 200) only [go_sem, Nat.reduceBEq, c1] <;> (repeat' first | rfl | constructor)) ?_)
   clear h1 a w1
   intro a w1 h1
   refine wpIn_seq (two_T hE hm (hA ((usL (allL (l.take i))).map rv)) [(0, .x (.func (.yield l0) #[] #[])), (7, .sl nl 1 (l.map rwV) none), (8, .x (.int .i64 (l.length : Int))), (9, .x (.int .i64 ((i : Nat) : Int)))] [] (by kernel_rfl) h1 (by simp +decide (maxDischargeDepth := 200) only [go_sem, Nat.reduceBEq] <;> (repeat' first | rfl | constructor)) ?_)
   clear h1 a w1
   intro a w1 h1
   refine wpIn_seq (wpIn_block ?_)
   refine wpIn_seq (two_T hE hm (hA ((usL (allL (l.take i))).map rv)) [(0, .x (.func (.yield l0) #[] #[])), (7, .sl nl 1 (l.map rwV) none), (8, .x (.int .i64 (l.length : Int))), (9, .x (.int .i64 ((i : Nat) : Int))), (4, .sl a1 b1 (c.map tv) none)] [] (by kernel_rfl) h1 (by simp +decide (maxDischargeDepth := 200) only [go_sem, Nat.reduceBEq, c1, c2, g2, List.length_map] <;> (repeat' first | rfl | constructor)) ?_)
   clear h1 a w1
   intro a w1 h1
   refine wpIn_seq (two_T hE hm (hA ((usL (allL (l.take i))).map rv)) [(0, .x (.func (.yield l0) #[] #[])), (7, .sl nl 1 (l.map rwV) none), (8, .x (.int .i64 (l.length : Int))), (9, .x (.int .i64 ((i : Nat) : Int))), (13, .sl a1 b1 (c.map tv) none), (14, .x (.int .i64 (c.length : Int))), (15, .x (.int .i64 ((0 : Nat) : Int)))] [] (by kernel_rfl) h1 (by simp +decide (maxDischargeDepth := 200) only [go_sem, Nat.reduceBEq, List.length_map, Int.natCast_zero] <;> (repeat' first | rfl | constructor)) ?_)
   clear h1 a w1
   intro a w1 h1
   refine wpIn_block ?_
   refine wpIn_loopX (X := Nat) (fun j a' w' => j ≤ c.length ∧ Two (envW w0 [(97, FPlain)]) 26 O m w (A ((seen l i c j).map rv)) (stOf [(0, .x (.func (.yield l0) #[] #[])), (7, .sl nl 1 (l.map rwV) none), (8, .x (.int .i64 (l.length : Int))), (9, .x (.int .i64 ((i : Nat) : Int))), (13, .sl a1 b1 (c.map tv) none), (14, .x (.int .i64 (c.length : Int))), (15, .x (.int .i64 ((j : Nat) : Int)))] []) a' w') (fun j => c.length - j) 0 ⟨Nat.zero_le _, ?_⟩ ?_
   · have e : seen l i c 0 = usL (allL (l.take i)) := by unfold seen; rw [List.take_zero, List.append_nil]
     rw [e]
     exact h1
   clear h1 a w1
   rintro j a w1 ⟨hj0, h1⟩
   by_cases hj : j < c.length
   · obtain ⟨k, n, s, q1, q2, q3, _⟩ := tv_at hj
     obtain rfl := hb3 (List.ne_nil_of_mem q3)
     have e1 : decide ((j : Int) < (c.length : Int)) = true := decide_eq_true (by omega)
     have e2 : (0 : Int) ≤ (j : Int) := by omega
     have e4 := count_up (i := j) (by omega)
     have hokp := okU_next g1 q1
     refine wpIn_seq (two_T hE hm (hA ((seen l i c j).map rv)) [(0, .x (.func (.yield l0) #[] #[])), (7, .sl nl 1 (l.map rwV) none), (8, .x (.int .i64 (l.length : Int))), (9, .x (.int .i64 ((i : Nat) : Int))), (13, .sl a1 3 (c.map tv) none), (14, .x (.int .i64 (c.length : Int))), (15, .x (.int .i64 ((j : Nat) : Int))), (16, .x (.bool true))] [] (by kernel_rfl) h1 (by simp +decide (maxDischargeDepth := 200) only [go_sem, Nat.reduceBEq, e1] <;> (repeat' first | rfl | constructor)) ?_)
     clear h1 a w1
     intro a w1 h1
     refine wpIn_seq (two_T hE hm (hA ((seen l i c j).map rv)) [(0, .x (.func (.yield l0) #[] #[])), (7, .sl nl 1 (l.map rwV) none), (8, .x (.int .i64 (l.length : Int))), (9, .x (.int .i64 ((i : Nat) : Int))), (13, .sl a1 3 (c.map tv) none), (14, .x (.int .i64 (c.length : Int))), (15, .x (.int .i64 ((j : Nat) : Int)))] [] (by kernel_rfl) h1 (by simp +decide (maxDischargeDepth := 200) only [go_sem, Nat.reduceBEq] <;> (repeat' first | rfl | constructor)) ?_)
     clear h1 a w1
     intro a w1 h1
     refine wpIn_seq (wpIn_block ?_)
     refine wpIn_seq (two_T hE hm (hA ((seen l i c j).map rv)) [(0, .x (.func (.yield l0) #[] #[])), (7, .sl nl 1 (l.map rwV) none), (8, .x (.int .i64 (l.length : Int))), (9, .x (.int .i64 ((i : Nat) : Int))), (13, .sl a1 3 (c.map tv) none), (14, .x (.int .i64 (c.length : Int))), (15, .x (.int .i64 ((j : Nat) : Int))), (6, .ptr 6 0)] [(6, [.x (.int .i64 k), .x (.int .i64 n), .x (.string s)])] (by kernel_rfl) h1 (by simp +decide (maxDischargeDepth := 200) only [go_sem, Nat.reduceBEq, e1, e2, q2, List.length_map] <;> (repeat' first | rfl | constructor)) ?_)
     clear h1 a w1
     intro a w1 h1
     refine wpIn_seq (wpIn_region ?_)
     refine ops_S hE (hA _) 0 3 [(0, .x (.func (.yield l0) #[] #[])), (7, .sl nl 1 (l.map rwV) none), (8, .x (.int .i64 (l.length : Int))), (9, .x (.int .i64 ((i : Nat) : Int))), (13, .sl a1 3 (c.map tv) none), (14, .x (.int .i64 (c.length : Int))), (15, .x (.int .i64 ((j : Nat) : Int))), (6, .ptr 6 0), (19, .x (.func (.yield l0) #[] #[])), (21, vl (plainW k n s).1 (plainW k n s).2.1 (plainW k n s).2.2)] [(6, [.x (.int .i64 k), .x (.int .i64 n), .x (.string s)])] [3, 4] (by decide) (by kernel_rfl) h1 (by simp +decide (maxDischargeDepth := 200) only [go_sem, Nat.reduceBEq, FPlain] <;> (repeat' first | rfl | constructor)) ?_
     clear h1 a w1
     intro a w1 h1
     rw [wpOpsIn_cons]
     refine yield_two (n := 26) (A1 := A ((seen l i c j).map rv ++ [rv (plainT (k, n, s))])) (Ax := Ax ((seen l i c j).map rv ++ [rv (plainT (k, n, s))])) (l := l0) rfl (d := 22) rfl (by decide) rfl rfl rfl h1 (u := vl (plainW k n s).1 (plainW k n s).2.1 (plainW k n s).2.2) rfl (by rw [bare_agg]; rfl) (fun O1 m1 w2 vs ha hv => hy _ _ O1 m1 w2 vs hokp ha (by rw [bare_agg] at hv; exact hv) rfl) ?_ ?_
     · clear h1 a w1
       intro a w1 h1
       refine ops_S hE (hA _) 4 1 [(0, .x (.func (.yield l0) #[] #[])), (7, .sl nl 1 (l.map rwV) none), (8, .x (.int .i64 (l.length : Int))), (9, .x (.int .i64 ((i : Nat) : Int))), (13, .sl a1 3 (c.map tv) none), (14, .x (.int .i64 (c.length : Int))), (15, .x (.int .i64 ((j : Nat) : Int))), (6, .ptr 6 0), (23, .x (.bool false))] [(6, [.x (.int .i64 k), .x (.int .i64 n), .x (.string s)])] [] (by decide) (by kernel_rfl) h1 (by simp +decide (maxDischargeDepth := 200) only [go_sem, Nat.reduceBEq] <;> (repeat' first | rfl | constructor)) ?_
       clear h1 a w1
       intro a w1 h1
       refine two_T hE hm (hA _) [(0, .x (.func (.yield l0) #[] #[])), (7, .sl nl 1 (l.map rwV) none), (8, .x (.int .i64 (l.length : Int))), (9, .x (.int .i64 ((i : Nat) : Int))), (13, .sl a1 3 (c.map tv) none), (14, .x (.int .i64 (c.length : Int))), (15, .x (.int .i64 ((j : Nat) : Int))), (6, .ptr 6 0)] [(6, [.x (.int .i64 k), .x (.int .i64 n), .x (.string s)])] (by kernel_rfl) h1 (by simp +decide (maxDischargeDepth := 200) only [go_sem, Nat.reduceBEq] <;> (repeat' first | rfl | constructor)) ?_
       clear h1 a w1
       intro a w1 h1
       refine two_T hE hm (hA _) [(0, .x (.func (.yield l0) #[] #[])), (7, .sl nl 1 (l.map rwV) none), (8, .x (.int .i64 (l.length : Int))), (9, .x (.int .i64 ((i : Nat) : Int))), (13, .sl a1 3 (c.map tv) none), (14, .x (.int .i64 (c.length : Int))), (15, .x (.int .i64 ((j + 1 : Nat) : Int)))] [] (by kernel_rfl) h1 (by simp +decide (maxDischargeDepth := 200) only [go_sem, Nat.reduceBEq, e4] <;> (repeat' first | rfl | constructor)) ?_
       clear h1 a w1
       intro a w1 h1
       refine ⟨j + 1, ⟨hj, ?_⟩, by omega⟩
       rw [(seen_next g1 q1).1, List.map_append]
       exact h1
     · clear h1 a w1
       intro a w1 h1
       refine ops_S hE (hX _) 4 1 [(23, .x (.bool true))] [] [] (by decide) (by kernel_rfl) h1 (by simp +decide (maxDischargeDepth := 200) only [go_sem, Nat.reduceBEq] <;> (repeat' first | rfl | constructor)) ?_
       clear h1 a w1
       intro a w1 h1
       refine two_R hE hm (hX _) [] [] (by kernel_rfl) h1 (by simp +decide (maxDischargeDepth := 200) only [go_sem, Nat.reduceBEq] <;> (repeat' first | rfl | constructor)) ?_
       clear h1 a w1
       intro a w1 h1
       exact ⟨.inr rfl, .inr ⟨_, _, h1⟩⟩
   · have e1 : decide ((j : Int) < (c.length : Int)) = false := decide_eq_false (by omega)
     obtain rfl : j = c.length := by omega
     rw [seen_end g1] at h1
     refine wpIn_seq (two_T hE hm (hA ((usL (allL (l.take (i + 1)))).map rv)) [(0, .x (.func (.yield l0) #[] #[])), (7, .sl nl 1 (l.map rwV) none), (8, .x (.int .i64 (l.length : Int))), (9, .x (.int .i64 ((i : Nat) : Int))), (13, .sl a1 b1 (c.map tv) none), (14, .x (.int .i64 (c.length : Int))), (15, .x (.int .i64 ((c.length : Nat) : Int))), (16, .x (.bool false))] [] (by kernel_rfl) h1 (by simp +decide (maxDischargeDepth := 200) only [go_sem, Nat.reduceBEq, e1] <;> (repeat' first | rfl | constructor)) ?_)
     clear h1 a w1
     intro a w1 h1
     refine wpIn_seq (two_X hE hm (hA ((usL (allL (l.take (i + 1)))).map rv)) 2 [(0, .x (.func (.yield l0) #[] #[])), (7, .sl nl 1 (l.map rwV) none), (8, .x (.int .i64 (l.length : Int))), (9, .x (.int .i64 ((i : Nat) : Int)))] [] (by kernel_rfl) h1 (by simp +decide (maxDischargeDepth := 200) only [go_sem, Nat.reduceBEq] <;> (repeat' first | rfl | constructor)) ?_)
     clear h1 a w1
     intro a w1 h1
     refine two_T hE hm (hA ((usL (allL (l.take (i + 1)))).map rv)) [(0, .x (.func (.yield l0) #[] #[])), (7, .sl nl 1 (l.map rwV) none), (8, .x (.int .i64 (l.length : Int))), (9, .x (.int .i64 ((i + 1 : Nat) : Int)))] [] (by kernel_rfl) h1 (by simp +decide (maxDischargeDepth := 200) only [go_sem, Nat.reduceBEq, c4] <;> (repeat' first | rfl | constructor)) ?_
     clear h1 a w1
     intro a w1 h1
     exact ⟨i + 1, ⟨hi, h1⟩, by omega⟩
 · have c1 : decide ((i : Int) < (l.length : Int)) = false := decide_eq_false (by omega)
   obtain rfl : i = l.length := by omega
   refine wpIn_seq (two_T hE hm (hA ((usL (allL (l.take l.length))).map rv)) [(0, .x (.func (.yield l0) #[] #[])), (7, .sl nl sz (l.map rwV) none), (8, .x (.int .i64 (l.length : Int))), (9, .x (.int .i64 ((l.length : Nat) : Int))), (10, .x (.bool false))] [] (by kernel_rfl) h1 (by simp +decide (maxDischargeDepth := 200) only [go_sem, Nat.reduceBEq, c1] <;> (repeat' first | rfl | constructor)) ?_)
   clear h1 a w1
   intro a w1 h1
   refine wpIn_seq (two_X hE hm (hA _) 0 [(0, .x (.func (.yield l0) #[] #[])), (7, .sl nl sz (l.map rwV) none), (8, .x (.int .i64 (l.length : Int)))] [] (by kernel_rfl) h1 (by simp +decide (maxDischargeDepth := 200) only [go_sem, Nat.reduceBEq] <;> (repeat' first | rfl | constructor)) ?_)
   clear h1 a w1
   intro a w1 h1
   exact ⟨.inl rfl, .inl ⟨_, _, by rw [List.take_length]; rfl, h1⟩⟩
end Go.Proofs.YtfngpfnbhafmlaaGreatDoor
namespace Go.Proofs.YtfngpfnbhafmlaaGreatDoor
open Go Go.RowKit
set_option linter.unusedSimpArgs false
noncomputable def tabF : List (List V × V) → List V → Option V
 | [], _ => none
 | p :: t, us => open Classical in if us = p.1 then some p.2 else tabF t us
theorem tabF_hd (a : List V) (r : V) (t : List (List V × V)) : tabF ((a, r) :: t) a = some r := if_pos rfl
theorem tabF_tl {a b : List V} (r : V) (t : List (List V × V)) (h : b ≠ a) : tabF ((a, r) :: t) b = tabF t b := if_neg h
theorem tabF_out : ∀ {t : List (List V × V)} {us : List V} {r : V}, tabF t us = some r → (us, r) ∈ t
 | [], _, _, h => by cases h
 | p :: t, us, r, h => by
   unfold tabF at h
   split at h
   · rename_i e
     cases h
     subst e
     exact List.mem_cons_self ..
   · exact List.mem_cons_of_mem _ (tabF_out h)
structure EachAt (w0 : World) (fv : Value) (nl : Bool) (sz : Nat) (l : List RW) : Prop where
 ok : okAw (nl, sz, l)
 is : ∃ q, fv = .func (.func 96) #[] #[q] ∧ Rd (fun _ => none) w0 q (.ip [awV (nl, sz, l)])
theorem one_val {E : Env} {n : Nat} {B : Bs} {st : St} {a : Act} {w : World} (h : One E n B st a w) {i : Nat} {v : Value} (hi : st.t i = .x v) : a.eval (.tmp i) = v := by
 obtain ⟨m, O, h1, _⟩ := h
 obtain ⟨b, β, hr⟩ := h1.rel
 exact (hi ▸ hr.tmps i : Rs m w β _ (.x v)).x
theorem usAll_in {nl : Bool} {sz : Nat} {l : List RW} (h : okAw (nl, sz, l)) : ∀ v ∈ usL (allL l), inR v.2.1 := usL_in (allL_in h.2.1)
theorem usAll_len {nl : Bool} {sz : Nat} {l : List RW} (h : okAw (nl, sz, l)) : (usL (allL l)).length ≤ 1000000 := by rw [usL_length]; exact h.2.2.1
theorem pre_in {U pre post : List T3} {v : T3} (hU : U = pre ++ v :: post) (h : ∀ v ∈ U, inR v.2.1) : (∀ x ∈ pre, inR x.2.1) ∧ inR v.2.1 :=
 ⟨fun x hx => h x (by rw [hU]; exact List.mem_append_left _ hx), h v (by rw [hU]; simp)⟩
theorem pre_len {U pre post : List T3} {v : T3} (hU : U = pre ++ v :: post) : pre.length < U.length := by rw [hU]; simp
def faultU (U : List T3) : Option T3 := U.find? fun v => decide (v.1 = 4)
def faultUV (U : List T3) : V := .tup [tv ((faultU U).getD (0, 0, ⟨#[]⟩)), .x (.bool (faultU U).isSome)]
theorem faultU_hit {U pre post : List T3} {v : T3} (hU : U = pre ++ v :: post) (hp : ∀ x ∈ pre, x.1 ≠ 4) (hv : v.1 = 4) : faultU U = some v := by
 unfold faultU
 rw [hU, List.find?_append, List.find?_eq_none.2 (fun x hx => by simp [hp x hx])]
 simp [List.find?_cons, hv]
theorem faultU_no {U : List T3} (hp : ∀ x ∈ U, x.1 ≠ 4) : faultU U = none := List.find?_eq_none.2 (fun x hx => by simp [hp x hx])
theorem snoc_all {p : T3 → Prop} {pre : List T3} {v : T3} (hp : ∀ x ∈ pre, p x) (hv : p v) : ∀ x ∈ pre ++ [v], p x := by
 intro x hx
 rcases List.mem_append.1 hx with h | h
 · exact hp x h
 · rw [List.mem_singleton.1 h]; exact hv
def cntU (f : Int → Bool) (U : List T3) : Nat := (U.filter fun v => f v.1).length
theorem cntU_snoc (f : Int → Bool) (U : List T3) (v : T3) : cntU f (U ++ [v]) = cntU f U + (bif f v.1 then 1 else 0) := by
 unfold cntU
 rw [List.filter_append, List.length_append, List.filter_cons]
 cases f v.1 <;> rfl
theorem cntU_le (f : Int → Bool) (U : List T3) : cntU f U ≤ U.length := List.length_filter_le _ _
def outStep (side : Int) (a : T3 × Bool) (x : T3) : T3 × Bool := if (decide (x.1 = 1) && (!a.2 || decide (cmpV x.1 x.2.1 x.2.2 a.1.1 a.1.2.1 a.1.2.2 = side))) = true then (x, true) else a
def outL (side : Int) (U : List T3) : T3 × Bool := U.foldl (outStep side) ((1, 0, ⟨#[]⟩), false)
theorem outL_snoc (side : Int) (U : List T3) (x : T3) : outL side (U ++ [x]) = outStep side (outL side U) x := by simp [outL]
def isT (v : T3) : Bool := decide (v.1 = 3) && decide (v.2.1 = 1)
def amongL (b : Bool) (U : List T3) : Bool := U.any fun v => decide (isT v = b)
theorem amongL_snoc (b : Bool) (U : List T3) (v : T3) : amongL b (U ++ [v]) = (amongL b U || decide (isT v = b)) := by simp [amongL]
def settleW (b : Bool) (U : List T3) : T3 := match U.findSome? truE with
 | some w => w
 | none => boolW (decide (amongL b U = b))
theorem settle_hit {b : Bool} {U pre post : List T3} {v w : T3} (hU : U = pre ++ v :: post) (hp : ∀ x ∈ pre, truE x = none) (hv : truE v = some w) : settleW b U = w := by
 have : U.findSome? truE = some w := by
  rw [hU, List.findSome?_append, List.findSome?_eq_none_iff.2 hp]
  simp [List.findSome?_cons, hv]
 unfold settleW
 rw [this]
theorem settle_no {b : Bool} {U : List T3} (hp : ∀ x ∈ U, truE x = none) : settleW b U = boolW (decide (amongL b U = b)) := by
 unfold settleW
 rw [List.findSome?_eq_none_iff.2 hp]
set_option maxHeartbeats 16000000 in
set_option maxRecDepth 100000 in
theorem gsum_fun {w0 : World} {fv : Value} {nl : Bool} {sz : Nat} {l : List RW} (hf : EachAt w0 fv nl sz l) : Fun (envW w0 []) 99 (tabF [([.x fv], tv (sumL (usL (allL l))).1)]) := by
 obtain ⟨hok, q, rfl, hq⟩ := hf
 have hin := usAll_in hok
 have hlen := usAll_len hok
 have hE : EnvOK (envW w0 [(49, FNumber), (101, FIsInt), (27, FPair)]) := envOK_W ⟨fun_W w0 gnumber_fun, fun_W w0 gisint_fun, fun_W w0 pair_fun, trivial⟩
 have hm : (envW w0 [(49, FNumber), (101, FIsInt), (27, FPair)]).P.follows .mixedOrders = true := by kernel_rfl
 refine fun_of_each (l := [(49, FNumber), (101, FIsInt), (27, FPair)]) hE hq Tryz.func99 rfl (fun a w => Tryz.call99 a w) Tryz.ntmps99 (by decide) (by decide) (k := 1) ?_
 intro us r hF
 replace hF := tabF_out hF
 simp only [List.mem_cons, List.not_mem_nil, or_false, Prod.mk.injEq] at hF
 obtain ⟨rfl, rfl⟩ := hF
 refine ⟨rfl, (by intro x hx; simp only [List.mem_cons, List.not_mem_nil, or_false] at hx; rcases hx with rfl <;> exact exact_x _), exact_tv _, fun w a h1 => ?_⟩
 refine wpIn_seq (one_T hE hm [(0, .x (.func (.func 96) #[] #[q])), (2, .ptr 2 0)] [(2, [.x (.int .i64 0), .x (.int .i64 0), .x (.string ⟨#[]⟩)])] (by kernel_rfl) h1 (by simp +decide (maxDischargeDepth := 200) only [go_sem, Nat.reduceBEq] <;> (repeat' first | rfl | constructor)) ?_)
 clear h1 a
 intro a w1 h1
 refine wpIn_seq (one_T hE hm [(0, .x (.func (.func 96) #[] #[q])), (2, .ptr 2 0), (3, .ptr 3 0)] [(2, [.x (.int .i64 0), .x (.int .i64 0), .x (.string ⟨#[]⟩)]), (3, [.x (.int .i64 1), .x (.int .i64 0), .x (.string ⟨#[]⟩)])] (by kernel_rfl) h1 (by simp +decide (maxDischargeDepth := 200) only [go_sem, Nat.reduceBEq, FNumber] <;> (repeat' first | rfl | constructor)) ?_)
 clear h1 a w1
 intro a w1 h1
 refine wpIn_seq (wpIn_seq (one_T hE hm [(6, .x (.func (.func 96) #[] #[q])), (2, .ptr 2 0), (3, .ptr 3 0)] [(2, [.x (.int .i64 0), .x (.int .i64 0), .x (.string ⟨#[]⟩)]), (3, [.x (.int .i64 1), .x (.int .i64 0), .x (.string ⟨#[]⟩)])] (by kernel_rfl) h1 (by simp +decide (maxDischargeDepth := 200) only [go_sem, Nat.reduceBEq] <;> (repeat' first | rfl | constructor)) ?_))
 clear h1 a w1
 intro a w1 h1
 refine wpIn_block ?_
 refine each_range (gf := 96) (lb := #[q]) hE hm h1 (fun i => i == 4 || (i == 7 || (i == 8 || (i == 9 || (i == 10 || (i == 11 || (i == 12))))))) (one_val h1 (by simp only [go_sem, Nat.reduceEqDiff, if_false, if_true, tOf, stOf])) (fun a w => Tryz.call96 a w) (U := usL (allL l)) (fun m w hk _ => each_iter hok ⟨hk, trivial⟩) (by kernel_rfl) (by kernel_rfl) (by kernel_rfl) (by kernel_rfl) ⟨rfl, by decide⟩
  (fun _ => True) (fun pre => [(2, .ptr 2 0), (3, .ptr 3 0)]) (fun pre => [(2, [.x (.int .i64 0), .x (.int .i64 0), .x (.string ⟨#[]⟩)]), (3, [.x (.int .i64 (sumL pre).1.1), .x (.int .i64 (sumL pre).1.2.1), .x (.string (sumL pre).1.2.2)])]) False [] [] trivial ?h0 (fun pre v => [(2, .ptr 2 0), (3, .ptr 3 0), (4, .ptr 4 0)]) (fun pre v => [(4, [.x (.int .i64 v.1), .x (.int .i64 v.2.1), .x (.string v.2.2)]), (2, [.x (.int .i64 0), .x (.int .i64 0), .x (.string ⟨#[]⟩)]), (3, [.x (.int .i64 (sumL pre).1.1), .x (.int .i64 (sumL pre).1.2.1), .x (.string (sumL pre).1.2.2)])]) ?assign ?round ?done ?stop
 case h0 => simp +decide (maxDischargeDepth := 200) only [go_sem, Nat.reduceBEq, List.foldl_nil, Int.natCast_zero, List.filter_nil, List.length_nil] <;> (repeat' first | rfl | constructor)
 case assign =>
  intro pre v post hU hinv
  obtain ⟨k, n, s⟩ := v
  simp +decide (maxDischargeDepth := 200) only [go_sem, Nat.reduceBEq] <;> (repeat' first | rfl | constructor)
 case round =>
  intro pre v post hU _
  obtain ⟨k, n, s⟩ := v
  obtain ⟨hp, hn⟩ := pre_in hU hin
  obtain ⟨a1, _⟩ := sumL_in hp
  have e : sumL (pre ++ [(k, n, s)]) = sumStep (sumL pre) (k, n, s) := sumL_snoc ..
  generalize sumL pre = ac at e a1
  obtain ⟨⟨ak, an, az⟩, cc⟩ := ac
  simp only at a1 hn
  by_cases hk : k = 1
  · have d1 := decide_eq_true hk
    have e' : sumL (pre ++ [(k, n, s)]) = (pairW ⟨#[43]⟩ ak an az k n s, cc + 1) := by rw [e]; unfold sumStep; rw [if_pos hk]
    simp +decide (maxDischargeDepth := 200) only [go_sem, Nat.reduceBEq, FIsInt, d1, FPair, a1, hn, e']
  · have d1 := decide_eq_false hk
    have e' : sumL (pre ++ [(k, n, s)]) = ((ak, an, az), cc) := by rw [e]; unfold sumStep; rw [if_neg hk]
    simp +decide (maxDischargeDepth := 200) only [go_sem, Nat.reduceBEq, FIsInt, d1, e']
 case done =>
  intro b a' w' _ h3
  refine wpIn_seq (one_T hE hm [(2, .ptr 2 0)] [(2, [.x (.int .i64 (sumL (usL (allL l))).1.1), .x (.int .i64 (sumL (usL (allL l))).1.2.1), .x (.string (sumL (usL (allL l))).1.2.2)])] (by kernel_rfl) h3 (by simp +decide (maxDischargeDepth := 200) only [go_sem, Nat.reduceBEq] <;> (repeat' first | rfl | constructor)) ?_)
  intro a4 w4 h4
  exact wpIn_ret ⟨.inr rfl, _, _, _, _, _, h4, by simp +decide (maxDischargeDepth := 200) only [go_sem, Nat.reduceBEq, Tryz.results99]⟩
 case stop => intro b a' w' h; exact h.elim
def isI (k : Int) : Bool := decide (k = 1)
def isF (k : Int) : Bool := !decide (k = 0)
set_option maxHeartbeats 16000000 in
set_option maxRecDepth 100000 in
theorem gcountI_fun {w0 : World} {fv : Value} {nl : Bool} {sz : Nat} {l : List RW} (hf : EachAt w0 fv nl sz l) : Fun (envW w0 []) 50 (tabF [([.x fv, .x (.func (.func 101) #[] #[])], .x (.int .i64 ((cntU isI (usL (allL l)) : Nat) : Int)))]) := by
 obtain ⟨hok, q, rfl, hq⟩ := hf
 have hin := usAll_in hok
 have hlen := usAll_len hok
 have hE : EnvOK (envW w0 [(101, FIsInt)]) := envOK_W ⟨fun_W w0 gisint_fun, trivial⟩
 have hm : (envW w0 [(101, FIsInt)]).P.follows .mixedOrders = true := by kernel_rfl
 refine fun_of_each (l := [(101, FIsInt)]) hE hq Tryz.func50 rfl (fun a w => Tryz.call50 a w) Tryz.ntmps50 (by decide) (by decide) (k := 2) ?_
 intro us r hF
 replace hF := tabF_out hF
 simp only [List.mem_cons, List.not_mem_nil, or_false, Prod.mk.injEq] at hF
 obtain ⟨rfl, rfl⟩ := hF
 refine ⟨rfl, (by intro x hx; simp only [List.mem_cons, List.not_mem_nil, or_false] at hx; rcases hx with rfl | rfl <;> exact exact_x _), exact_x _, fun w a h1 => ?_⟩
 refine wpIn_seq (one_T hE hm [(0, .x (.func (.func 96) #[] #[q])), (3, .ptr 3 0)] [(3, [.x (.func (.func 101) #[] #[])])] (by kernel_rfl) h1 (by simp +decide (maxDischargeDepth := 200) only [go_sem, Nat.reduceBEq] <;> (repeat' first | rfl | constructor)) ?_)
 clear h1 a
 intro a w1 h1
 refine wpIn_seq (one_T hE hm [(0, .x (.func (.func 96) #[] #[q])), (3, .ptr 3 0), (5, .ptr 5 0)] [(3, [.x (.func (.func 101) #[] #[])]), (5, [.x (.int .i64 0)])] (by kernel_rfl) h1 (by simp +decide (maxDischargeDepth := 200) only [go_sem, Nat.reduceBEq] <;> (repeat' first | rfl | constructor)) ?_)
 clear h1 a w1
 intro a w1 h1
 refine wpIn_seq (wpIn_seq (one_T hE hm [(7, .x (.func (.func 96) #[] #[q])), (3, .ptr 3 0), (5, .ptr 5 0)] [(3, [.x (.func (.func 101) #[] #[])]), (5, [.x (.int .i64 0)])] (by kernel_rfl) h1 (by simp +decide (maxDischargeDepth := 200) only [go_sem, Nat.reduceBEq] <;> (repeat' first | rfl | constructor)) ?_))
 clear h1 a w1
 intro a w1 h1
 refine wpIn_block ?_
 refine each_range (gf := 96) (lb := #[q]) hE hm h1 (fun i => i == 6 || (i == 8 || (i == 9 || (i == 10 || (i == 11 || (i == 12 || (i == 13))))))) (one_val h1 (by simp only [go_sem, Nat.reduceEqDiff, if_false, if_true, tOf, stOf])) (fun a w => Tryz.call96 a w) (U := usL (allL l)) (fun m w hk _ => each_iter hok ⟨hk, trivial⟩) (by kernel_rfl) (by kernel_rfl) (by kernel_rfl) (by kernel_rfl) ⟨rfl, by decide⟩
  (fun _ => True) (fun pre => [(3, .ptr 3 0), (5, .ptr 5 0)]) (fun pre => [(3, [.x (.func (.func 101) #[] #[])]), (5, [.x (.int .i64 ((cntU isI pre : Nat) : Int))])]) False [] [] trivial ?h0 (fun pre v => [(3, .ptr 3 0), (5, .ptr 5 0), (6, .ptr 6 0)]) (fun pre v => [(6, [.x (.int .i64 v.1), .x (.int .i64 v.2.1), .x (.string v.2.2)]), (3, [.x (.func (.func 101) #[] #[])]), (5, [.x (.int .i64 ((cntU isI pre : Nat) : Int))])]) ?assign ?round ?done ?stop
 case h0 => simp +decide (maxDischargeDepth := 200) only [go_sem, Nat.reduceBEq, List.foldl_nil, Int.natCast_zero, List.filter_nil, List.length_nil] <;> (repeat' first | rfl | constructor)
 case assign =>
  intro pre v post hU hinv
  obtain ⟨k, n, s⟩ := v
  simp +decide (maxDischargeDepth := 200) only [go_sem, Nat.reduceBEq] <;> (repeat' first | rfl | constructor)
 case round =>
  intro pre v post hU _
  obtain ⟨k, n, s⟩ := v
  have hpl := pre_len hU
  have hle := cntU_le isI pre
  have e : cntU isI (pre ++ [(k, n, s)]) = cntU isI pre + (bif decide (k = 1) then 1 else 0) := cntU_snoc ..
  generalize cntU isI pre = cc at e hle
  have c5 := count_up (i := cc) (by omega)
  cases hb : decide (k = 1) with
  | true =>
    rw [hb] at e
    have e' : cntU isI (pre ++ [(k, n, s)]) = cc + 1 := e
    simp +decide (maxDischargeDepth := 200) only [go_sem, Nat.reduceBEq, FIsInt, hb, c5, e']
  | false =>
    rw [hb] at e
    have e' : cntU isI (pre ++ [(k, n, s)]) = cc := e
    simp +decide (maxDischargeDepth := 200) only [go_sem, Nat.reduceBEq, FIsInt, hb, e']
 case done =>
  intro b a' w' _ h3
  refine wpIn_seq (one_T hE hm [(4, .x (.int .i64 ((cntU isI (usL (allL l)) : Nat) : Int)))] [] (by kernel_rfl) h3 (by simp +decide (maxDischargeDepth := 200) only [go_sem, Nat.reduceBEq] <;> (repeat' first | rfl | constructor)) ?_)
  intro a4 w4 h4
  exact wpIn_ret ⟨.inr rfl, _, _, _, _, _, h4, by simp +decide (maxDischargeDepth := 200) only [go_sem, Nat.reduceBEq, Tryz.results50]⟩
 case stop => intro b a' w' h; exact h.elim
set_option maxHeartbeats 16000000 in
set_option maxRecDepth 100000 in
theorem gcountF_fun {w0 : World} {fv : Value} {nl : Bool} {sz : Nat} {l : List RW} (hf : EachAt w0 fv nl sz l) : Fun (envW w0 []) 50 (tabF [([.x fv, .x (.func (.func 52) #[] #[])], .x (.int .i64 ((cntU isF (usL (allL l)) : Nat) : Int)))]) := by
 obtain ⟨hok, q, rfl, hq⟩ := hf
 have hin := usAll_in hok
 have hlen := usAll_len hok
 have hE : EnvOK (envW w0 [(52, FFilled)]) := envOK_W ⟨fun_W w0 gfilled_fun, trivial⟩
 have hm : (envW w0 [(52, FFilled)]).P.follows .mixedOrders = true := by kernel_rfl
 refine fun_of_each (l := [(52, FFilled)]) hE hq Tryz.func50 rfl (fun a w => Tryz.call50 a w) Tryz.ntmps50 (by decide) (by decide) (k := 2) ?_
 intro us r hF
 replace hF := tabF_out hF
 simp only [List.mem_cons, List.not_mem_nil, or_false, Prod.mk.injEq] at hF
 obtain ⟨rfl, rfl⟩ := hF
 refine ⟨rfl, (by intro x hx; simp only [List.mem_cons, List.not_mem_nil, or_false] at hx; rcases hx with rfl | rfl <;> exact exact_x _), exact_x _, fun w a h1 => ?_⟩
 refine wpIn_seq (one_T hE hm [(0, .x (.func (.func 96) #[] #[q])), (3, .ptr 3 0)] [(3, [.x (.func (.func 52) #[] #[])])] (by kernel_rfl) h1 (by simp +decide (maxDischargeDepth := 200) only [go_sem, Nat.reduceBEq] <;> (repeat' first | rfl | constructor)) ?_)
 clear h1 a
 intro a w1 h1
 refine wpIn_seq (one_T hE hm [(0, .x (.func (.func 96) #[] #[q])), (3, .ptr 3 0), (5, .ptr 5 0)] [(3, [.x (.func (.func 52) #[] #[])]), (5, [.x (.int .i64 0)])] (by kernel_rfl) h1 (by simp +decide (maxDischargeDepth := 200) only [go_sem, Nat.reduceBEq] <;> (repeat' first | rfl | constructor)) ?_)
 clear h1 a w1
 intro a w1 h1
 refine wpIn_seq (wpIn_seq (one_T hE hm [(7, .x (.func (.func 96) #[] #[q])), (3, .ptr 3 0), (5, .ptr 5 0)] [(3, [.x (.func (.func 52) #[] #[])]), (5, [.x (.int .i64 0)])] (by kernel_rfl) h1 (by simp +decide (maxDischargeDepth := 200) only [go_sem, Nat.reduceBEq] <;> (repeat' first | rfl | constructor)) ?_))
 clear h1 a w1
 intro a w1 h1
 refine wpIn_block ?_
 refine each_range (gf := 96) (lb := #[q]) hE hm h1 (fun i => i == 6 || (i == 8 || (i == 9 || (i == 10 || (i == 11 || (i == 12 || (i == 13))))))) (one_val h1 (by simp only [go_sem, Nat.reduceEqDiff, if_false, if_true, tOf, stOf])) (fun a w => Tryz.call96 a w) (U := usL (allL l)) (fun m w hk _ => each_iter hok ⟨hk, trivial⟩) (by kernel_rfl) (by kernel_rfl) (by kernel_rfl) (by kernel_rfl) ⟨rfl, by decide⟩
  (fun _ => True) (fun pre => [(3, .ptr 3 0), (5, .ptr 5 0)]) (fun pre => [(3, [.x (.func (.func 52) #[] #[])]), (5, [.x (.int .i64 ((cntU isF pre : Nat) : Int))])]) False [] [] trivial ?h0 (fun pre v => [(3, .ptr 3 0), (5, .ptr 5 0), (6, .ptr 6 0)]) (fun pre v => [(6, [.x (.int .i64 v.1), .x (.int .i64 v.2.1), .x (.string v.2.2)]), (3, [.x (.func (.func 52) #[] #[])]), (5, [.x (.int .i64 ((cntU isF pre : Nat) : Int))])]) ?assign ?round ?done ?stop
 case h0 => simp +decide (maxDischargeDepth := 200) only [go_sem, Nat.reduceBEq, List.foldl_nil, Int.natCast_zero, List.filter_nil, List.length_nil] <;> (repeat' first | rfl | constructor)
 case assign =>
  intro pre v post hU hinv
  obtain ⟨k, n, s⟩ := v
  simp +decide (maxDischargeDepth := 200) only [go_sem, Nat.reduceBEq] <;> (repeat' first | rfl | constructor)
 case round =>
  intro pre v post hU _
  obtain ⟨k, n, s⟩ := v
  have hpl := pre_len hU
  have hle := cntU_le isF pre
  have e : cntU isF (pre ++ [(k, n, s)]) = cntU isF pre + (bif !decide (k = 0) then 1 else 0) := cntU_snoc ..
  generalize cntU isF pre = cc at e hle
  have c5 := count_up (i := cc) (by omega)
  cases hb : !decide (k = 0) with
  | true =>
    rw [hb] at e
    have e' : cntU isF (pre ++ [(k, n, s)]) = cc + 1 := e
    simp +decide (maxDischargeDepth := 200) only [go_sem, Nat.reduceBEq, FFilled, hb, c5, e']
  | false =>
    rw [hb] at e
    have e' : cntU isF (pre ++ [(k, n, s)]) = cc := e
    simp +decide (maxDischargeDepth := 200) only [go_sem, Nat.reduceBEq, FFilled, hb, e']
 case done =>
  intro b a' w' _ h3
  refine wpIn_seq (one_T hE hm [(4, .x (.int .i64 ((cntU isF (usL (allL l)) : Nat) : Int)))] [] (by kernel_rfl) h3 (by simp +decide (maxDischargeDepth := 200) only [go_sem, Nat.reduceBEq] <;> (repeat' first | rfl | constructor)) ?_)
  intro a4 w4 h4
  exact wpIn_ret ⟨.inr rfl, _, _, _, _, _, h4, by simp +decide (maxDischargeDepth := 200) only [go_sem, Nat.reduceBEq, Tryz.results50]⟩
 case stop => intro b a' w' h; exact h.elim
set_option maxHeartbeats 16000000 in
set_option maxRecDepth 100000 in
theorem gout_fun {w0 : World} {fv : Value} {nl : Bool} {sz : Nat} {l : List RW} (hf : EachAt w0 fv nl sz l) : Fun (envW w0 []) 100 (tabF [([.x fv, .x (.int .i64 (-1))], tv (outL (-1) (usL (allL l))).1), ([.x fv, .x (.int .i64 1)], tv (outL 1 (usL (allL l))).1)]) := by
 obtain ⟨hok, q, rfl, hq⟩ := hf
 have hin := usAll_in hok
 have hlen := usAll_len hok
 have hE : EnvOK (envW w0 [(49, FNumber), (101, FIsInt), (48, FCompare)]) := envOK_W ⟨fun_W w0 gnumber_fun, fun_W w0 gisint_fun, fun_W w0 compare_fun, trivial⟩
 have hm : (envW w0 [(49, FNumber), (101, FIsInt), (48, FCompare)]).P.follows .mixedOrders = true := by kernel_rfl
 refine fun_of_each (l := [(49, FNumber), (101, FIsInt), (48, FCompare)]) hE hq Tryz.func100 rfl (fun a w => Tryz.call100 a w) Tryz.ntmps100 (by decide) (by decide) (k := 2) ?_
 intro us r hF
 replace hF := tabF_out hF
 simp only [List.mem_cons, List.not_mem_nil, or_false, Prod.mk.injEq] at hF
 obtain ⟨side, rfl, rfl⟩ : ∃ side, us = [.x (.func (.func 96) #[] #[q]), .x (.int .i64 side)] ∧ r = tv (outL side (usL (allL l))).1 := by rcases hF with h | h <;> exact ⟨_, h.1, h.2⟩
 clear hF
 refine ⟨rfl, (by intro x hx; simp only [List.mem_cons, List.not_mem_nil, or_false] at hx; rcases hx with rfl | rfl <;> exact exact_x _), exact_tv _, fun w a h1 => ?_⟩
 refine wpIn_seq (one_T hE hm [(0, .x (.func (.func 96) #[] #[q])), (3, .ptr 3 0), (4, .ptr 4 0)] [(3, [.x (.int .i64 side)]), (4, [.x (.int .i64 0), .x (.int .i64 0), .x (.string ⟨#[]⟩)])] (by kernel_rfl) h1 (by simp +decide (maxDischargeDepth := 200) only [go_sem, Nat.reduceBEq] <;> (repeat' first | rfl | constructor)) ?_)
 clear h1 a
 intro a w1 h1
 refine wpIn_seq (one_T hE hm [(0, .x (.func (.func 96) #[] #[q])), (3, .ptr 3 0), (4, .ptr 4 0), (5, .ptr 5 0), (6, .ptr 6 0)] [(3, [.x (.int .i64 side)]), (4, [.x (.int .i64 0), .x (.int .i64 0), .x (.string ⟨#[]⟩)]), (5, [.x (.int .i64 1), .x (.int .i64 0), .x (.string ⟨#[]⟩)]), (6, [.x (.bool false)])] (by kernel_rfl) h1 (by simp +decide (maxDischargeDepth := 200) only [go_sem, Nat.reduceBEq, FNumber] <;> (repeat' first | rfl | constructor)) ?_)
 clear h1 a w1
 intro a w1 h1
 refine wpIn_seq (wpIn_seq (one_T hE hm [(9, .x (.func (.func 96) #[] #[q])), (3, .ptr 3 0), (4, .ptr 4 0), (5, .ptr 5 0), (6, .ptr 6 0)] [(3, [.x (.int .i64 side)]), (4, [.x (.int .i64 0), .x (.int .i64 0), .x (.string ⟨#[]⟩)]), (5, [.x (.int .i64 1), .x (.int .i64 0), .x (.string ⟨#[]⟩)]), (6, [.x (.bool false)])] (by kernel_rfl) h1 (by simp +decide (maxDischargeDepth := 200) only [go_sem, Nat.reduceBEq] <;> (repeat' first | rfl | constructor)) ?_))
 clear h1 a w1
 intro a w1 h1
 refine wpIn_block ?_
 refine each_range (gf := 96) (lb := #[q]) hE hm h1 (fun i => i == 7 || (i == 10 || (i == 11 || (i == 12 || (i == 13 || (i == 14 || (i == 15 || (i == 16 || (i == 17 || (i == 18 || (i == 19 || (i == 20 || (i == 21 || (i == 22 || (i == 23 || (i == 24)))))))))))))))) (one_val h1 (by simp only [go_sem, Nat.reduceEqDiff, if_false, if_true, tOf, stOf])) (fun a w => Tryz.call96 a w) (U := usL (allL l)) (fun m w hk _ => each_iter hok ⟨hk, trivial⟩) (by kernel_rfl) (by kernel_rfl) (by kernel_rfl) (by kernel_rfl) ⟨rfl, by decide⟩
  (fun _ => True) (fun pre => [(3, .ptr 3 0), (4, .ptr 4 0), (5, .ptr 5 0), (6, .ptr 6 0)]) (fun pre => [(3, [.x (.int .i64 side)]), (4, [.x (.int .i64 0), .x (.int .i64 0), .x (.string ⟨#[]⟩)]), (5, [.x (.int .i64 (outL side pre).1.1), .x (.int .i64 (outL side pre).1.2.1), .x (.string (outL side pre).1.2.2)]), (6, [.x (.bool (outL side pre).2)])]) False [] [] trivial ?h0 (fun pre v => [(3, .ptr 3 0), (4, .ptr 4 0), (5, .ptr 5 0), (6, .ptr 6 0), (7, .ptr 7 0)]) (fun pre v => [(7, [.x (.int .i64 v.1), .x (.int .i64 v.2.1), .x (.string v.2.2)]), (3, [.x (.int .i64 side)]), (4, [.x (.int .i64 0), .x (.int .i64 0), .x (.string ⟨#[]⟩)]), (5, [.x (.int .i64 (outL side pre).1.1), .x (.int .i64 (outL side pre).1.2.1), .x (.string (outL side pre).1.2.2)]), (6, [.x (.bool (outL side pre).2)])]) ?assign ?round ?done ?stop
 case h0 => simp +decide (maxDischargeDepth := 200) only [go_sem, Nat.reduceBEq, List.foldl_nil, Int.natCast_zero, List.filter_nil, List.length_nil] <;> (repeat' first | rfl | constructor)
 case assign =>
  intro pre v post hU hinv
  obtain ⟨k, n, s⟩ := v
  simp +decide (maxDischargeDepth := 200) only [go_sem, Nat.reduceBEq] <;> (repeat' first | rfl | constructor)
 case round =>
  intro pre v post hU _
  obtain ⟨k, n, s⟩ := v
  have e : outL side (pre ++ [(k, n, s)]) = outStep side (outL side pre) (k, n, s) := outL_snoc ..
  generalize outL side pre = ac at e
  obtain ⟨⟨ak, an, az⟩, fd⟩ := ac
  by_cases hk : k = 1
  · have d1 := decide_eq_true hk
    cases fd with
    | false =>
      have e' : outL side (pre ++ [(k, n, s)]) = ((k, n, s), true) := by rw [e]; unfold outStep; simp only [d1]; rfl
      simp +decide (maxDischargeDepth := 200) only [go_sem, Nat.reduceBEq, FIsInt, d1, e']
    | true =>
      by_cases hc : cmpV k n s ak an az = side
      · have d2 := decide_eq_true hc
        have e' : outL side (pre ++ [(k, n, s)]) = ((k, n, s), true) := by rw [e]; unfold outStep; simp only [d1, d2]; rfl
        simp +decide (maxDischargeDepth := 200) only [go_sem, Nat.reduceBEq, FIsInt, FCompare, d1, d2, e']
      · have d2 := decide_eq_false hc
        have e' : outL side (pre ++ [(k, n, s)]) = ((ak, an, az), true) := by rw [e]; unfold outStep; simp only [d1, d2]; rfl
        simp +decide (maxDischargeDepth := 200) only [go_sem, Nat.reduceBEq, FIsInt, FCompare, d1, d2, e']
  · have d1 := decide_eq_false hk
    have e' : outL side (pre ++ [(k, n, s)]) = ((ak, an, az), fd) := by rw [e]; unfold outStep; simp only [d1]; rfl
    simp +decide (maxDischargeDepth := 200) only [go_sem, Nat.reduceBEq, FIsInt, d1, e']
 case done =>
  intro b a' w' _ h3
  refine wpIn_seq (one_T hE hm [(4, .ptr 4 0)] [(4, [.x (.int .i64 (outL side (usL (allL l))).1.1), .x (.int .i64 (outL side (usL (allL l))).1.2.1), .x (.string (outL side (usL (allL l))).1.2.2)])] (by kernel_rfl) h3 (by simp +decide (maxDischargeDepth := 200) only [go_sem, Nat.reduceBEq] <;> (repeat' first | rfl | constructor)) ?_)
  intro a4 w4 h4
  exact wpIn_ret ⟨.inr rfl, _, _, _, _, _, h4, by simp +decide (maxDischargeDepth := 200) only [go_sem, Nat.reduceBEq, Tryz.results100]⟩
 case stop => intro b a' w' h; exact h.elim
set_option maxHeartbeats 16000000 in
set_option maxRecDepth 100000 in
theorem gfirst_fun {w0 : World} {fv : Value} {nl : Bool} {sz : Nat} {l : List RW} (hf : EachAt w0 fv nl sz l) : Fun (envW w0 []) 98 (tabF [([.x fv], faultUV (usL (allL l)))]) := by
 obtain ⟨hok, q, rfl, hq⟩ := hf
 have hin := usAll_in hok
 have hlen := usAll_len hok
 have hE : EnvOK (envW w0 []) := envOK_W trivial
 have hm : (envW w0 []).P.follows .mixedOrders = true := by kernel_rfl
 refine fun_of_each (l := []) hE hq Tryz.func98 rfl (fun a w => Tryz.call98 a w) Tryz.ntmps98 (by decide) (by decide) (k := 1) ?_
 intro us r hF
 replace hF := tabF_out hF
 simp only [List.mem_cons, List.not_mem_nil, or_false, Prod.mk.injEq] at hF
 obtain ⟨rfl, rfl⟩ := hF
 refine ⟨rfl, (by intro x hx; simp only [List.mem_cons, List.not_mem_nil, or_false] at hx; rcases hx with rfl <;> exact exact_x _), exact_two (exact_tv _) (exact_x _), fun w a h1 => ?_⟩
 refine wpIn_seq (one_T hE hm [(0, .x (.func (.func 96) #[] #[q])), (2, .ptr 2 0), (3, .ptr 3 0)] [(2, [.x (.int .i64 0), .x (.int .i64 0), .x (.string ⟨#[]⟩)]), (3, [.x (.bool false)])] (by kernel_rfl) h1 (by simp +decide (maxDischargeDepth := 200) only [go_sem, Nat.reduceBEq] <;> (repeat' first | rfl | constructor)) ?_)
 clear h1 a
 intro a w1 h1
 refine wpIn_seq (wpIn_seq (one_T hE hm [(5, .x (.func (.func 96) #[] #[q])), (2, .ptr 2 0), (3, .ptr 3 0)] [(2, [.x (.int .i64 0), .x (.int .i64 0), .x (.string ⟨#[]⟩)]), (3, [.x (.bool false)])] (by kernel_rfl) h1 (by simp +decide (maxDischargeDepth := 200) only [go_sem, Nat.reduceBEq] <;> (repeat' first | rfl | constructor)) ?_))
 clear h1 a w1
 intro a w1 h1
 refine wpIn_block ?_
 refine each_range (gf := 96) (lb := #[q]) hE hm h1 (fun i => i == 4 || (i == 6 || (i == 7 || (i == 8 || (i == 9 || (i == 10)))))) (one_val h1 (by simp only [go_sem, Nat.reduceEqDiff, if_false, if_true, tOf, stOf])) (fun a w => Tryz.call96 a w) (U := usL (allL l)) (fun m w hk _ => each_iter hok ⟨hk, trivial⟩) (by kernel_rfl) (by kernel_rfl) (by kernel_rfl) (by kernel_rfl) ⟨rfl, by decide⟩
  (fun pre => ∀ x ∈ pre, x.1 ≠ 4) (fun pre => [(2, .ptr 2 0), (3, .ptr 3 0)]) (fun pre => [(2, [.x (.int .i64 0), .x (.int .i64 0), .x (.string ⟨#[]⟩)]), (3, [.x (.bool false)])]) ((faultU (usL (allL l))).isSome = true) [(2, .ptr 2 0), (3, .ptr 3 0)] [(2, [.x (.int .i64 ((faultU (usL (allL l))).getD (0, 0, ⟨#[]⟩)).1), .x (.int .i64 ((faultU (usL (allL l))).getD (0, 0, ⟨#[]⟩)).2.1), .x (.string ((faultU (usL (allL l))).getD (0, 0, ⟨#[]⟩)).2.2)]), (3, [.x (.bool true)])] (fun _ h => by cases h) ?h0 (fun pre v => [(2, .ptr 2 0), (3, .ptr 3 0), (4, .ptr 4 0)]) (fun pre v => [(4, [.x (.int .i64 v.1), .x (.int .i64 v.2.1), .x (.string v.2.2)]), (2, [.x (.int .i64 0), .x (.int .i64 0), .x (.string ⟨#[]⟩)]), (3, [.x (.bool false)])]) ?assign ?round ?done ?stop
 case h0 => simp +decide (maxDischargeDepth := 200) only [go_sem, Nat.reduceBEq, List.foldl_nil, Int.natCast_zero, List.filter_nil, List.length_nil] <;> (repeat' first | rfl | constructor)
 case assign =>
  intro pre v post hU hinv
  obtain ⟨k, n, s⟩ := v
  simp +decide (maxDischargeDepth := 200) only [go_sem, Nat.reduceBEq] <;> (repeat' first | rfl | constructor)
 case round =>
  intro pre v post hU hinv
  obtain ⟨k, n, s⟩ := v
  by_cases hk : k = 4
  · have d1 := decide_eq_true hk
    have e := faultU_hit hU hinv hk
    simp +decide (maxDischargeDepth := 200) only [go_sem, Nat.reduceBEq, d1, e, Option.getD_some, Option.isSome_some]
  · have d1 := decide_eq_false hk
    have hinv' := snoc_all (p := fun x : T3 => x.1 ≠ 4) hinv (v := (k, n, s)) hk
    generalize pre ++ [(k, n, s)] = pre' at hinv'
    simp +decide (maxDischargeDepth := 200) only [go_sem, Nat.reduceBEq, d1]
    exact hinv'
 case done =>
  intro b a' w' hinv h3
  have e := faultU_no hinv
  refine wpIn_seq (one_T hE hm [(2, .ptr 2 0), (3, .ptr 3 0)] [(2, [.x (.int .i64 0), .x (.int .i64 0), .x (.string ⟨#[]⟩)]), (3, [.x (.bool false)])] (by kernel_rfl) h3 (by simp +decide (maxDischargeDepth := 200) only [go_sem, Nat.reduceBEq] <;> (repeat' first | rfl | constructor)) ?_)
  intro a4 w4 h4
  exact wpIn_ret ⟨.inr rfl, _, _, _, _, _, h4, by unfold faultUV; rw [e]; simp +decide (maxDischargeDepth := 200) only [go_sem, Nat.reduceBEq, Option.getD_none, Option.isSome_none, Tryz.results98]⟩
 case stop =>
  intro b a' w' hx h3
  exact ⟨.inr rfl, _, _, _, _, _, h3, by unfold faultUV; rw [hx]; simp +decide (maxDischargeDepth := 200) only [go_sem, Nat.reduceBEq, Tryz.results98]⟩
set_option maxHeartbeats 16000000 in
set_option maxRecDepth 100000 in
theorem gsettled_fun {w0 : World} {fv : Value} {nl : Bool} {sz : Nat} {l : List RW} (hf : EachAt w0 fv nl sz l) : Fun (envW w0 []) 102 (tabF [([.x fv, .x (.bool false)], tv (settleW false (usL (allL l)))), ([.x fv, .x (.bool true)], tv (settleW true (usL (allL l))))]) := by
 obtain ⟨hok, q, rfl, hq⟩ := hf
 have hin := usAll_in hok
 have hlen := usAll_len hok
 have hE : EnvOK (envW w0 [(128, FTruthOf), (105, FTruth)]) := envOK_W ⟨fun_W w0 gtruthof_fun, fun_W w0 gtruth_fun, trivial⟩
 have hm : (envW w0 [(128, FTruthOf), (105, FTruth)]).P.follows .mixedOrders = true := by kernel_rfl
 refine fun_of_each (l := [(128, FTruthOf), (105, FTruth)]) hE hq Tryz.func102 rfl (fun a w => Tryz.call102 a w) Tryz.ntmps102 (by decide) (by decide) (k := 2) ?_
 intro us r hF
 replace hF := tabF_out hF
 simp only [List.mem_cons, List.not_mem_nil, or_false, Prod.mk.injEq] at hF
 obtain ⟨by', rfl, rfl⟩ : ∃ by', us = [.x (.func (.func 96) #[] #[q]), .x (.bool by')] ∧ r = tv (settleW by' (usL (allL l))) := by rcases hF with h | h <;> exact ⟨_, h.1, h.2⟩
 clear hF
 refine ⟨rfl, (by intro x hx; simp only [List.mem_cons, List.not_mem_nil, or_false] at hx; rcases hx with rfl | rfl <;> exact exact_x _), exact_tv _, fun w a h1 => ?_⟩
 refine wpIn_seq (one_T hE hm [(0, .x (.func (.func 96) #[] #[q])), (3, .ptr 3 0), (4, .ptr 4 0)] [(3, [.x (.bool by')]), (4, [.x (.int .i64 0), .x (.int .i64 0), .x (.string ⟨#[]⟩)])] (by kernel_rfl) h1 (by simp +decide (maxDischargeDepth := 200) only [go_sem, Nat.reduceBEq] <;> (repeat' first | rfl | constructor)) ?_)
 clear h1 a
 intro a w1 h1
 refine wpIn_seq (one_T hE hm [(0, .x (.func (.func 96) #[] #[q])), (3, .ptr 3 0), (4, .ptr 4 0), (5, .ptr 5 0)] [(3, [.x (.bool by')]), (4, [.x (.int .i64 0), .x (.int .i64 0), .x (.string ⟨#[]⟩)]), (5, [.x (.bool false)])] (by kernel_rfl) h1 (by simp +decide (maxDischargeDepth := 200) only [go_sem, Nat.reduceBEq] <;> (repeat' first | rfl | constructor)) ?_)
 clear h1 a w1
 intro a w1 h1
 refine wpIn_seq (wpIn_seq (one_T hE hm [(10, .x (.func (.func 96) #[] #[q])), (3, .ptr 3 0), (4, .ptr 4 0), (5, .ptr 5 0)] [(3, [.x (.bool by')]), (4, [.x (.int .i64 0), .x (.int .i64 0), .x (.string ⟨#[]⟩)]), (5, [.x (.bool false)])] (by kernel_rfl) h1 (by simp +decide (maxDischargeDepth := 200) only [go_sem, Nat.reduceBEq] <;> (repeat' first | rfl | constructor)) ?_))
 clear h1 a w1
 intro a w1 h1
 refine wpIn_block ?_
 refine each_range (gf := 96) (lb := #[q]) hE hm h1 (fun i => i == 6 || (i == 7 || (i == 8 || (i == 9 || (i == 11 || (i == 12 || (i == 13 || (i == 14 || (i == 15 || (i == 16 || (i == 17 || (i == 18 || (i == 19 || (i == 20 || (i == 21 || (i == 22 || (i == 23 || (i == 24 || (i == 25 || (i == 26)))))))))))))))))))) (one_val h1 (by simp only [go_sem, Nat.reduceEqDiff, if_false, if_true, tOf, stOf])) (fun a w => Tryz.call96 a w) (U := usL (allL l)) (fun m w hk _ => each_iter hok ⟨hk, trivial⟩) (by kernel_rfl) (by kernel_rfl) (by kernel_rfl) (by kernel_rfl) ⟨rfl, by decide⟩
  (fun pre => ∀ x ∈ pre, truE x = none) (fun pre => [(3, .ptr 3 0), (4, .ptr 4 0), (5, .ptr 5 0)]) (fun pre => [(3, [.x (.bool by')]), (4, [.x (.int .i64 0), .x (.int .i64 0), .x (.string ⟨#[]⟩)]), (5, [.x (.bool (amongL by' pre))])]) ((usL (allL l)).findSome? truE = some (settleW by' (usL (allL l)))) [(4, .ptr 4 0)] [(4, [.x (.int .i64 (settleW by' (usL (allL l))).1), .x (.int .i64 (settleW by' (usL (allL l))).2.1), .x (.string (settleW by' (usL (allL l))).2.2)])] (fun _ h => by cases h) ?h0 (fun pre v => [(3, .ptr 3 0), (4, .ptr 4 0), (5, .ptr 5 0), (6, .ptr 6 0)]) (fun pre v => [(6, [.x (.int .i64 v.1), .x (.int .i64 v.2.1), .x (.string v.2.2)]), (3, [.x (.bool by')]), (4, [.x (.int .i64 0), .x (.int .i64 0), .x (.string ⟨#[]⟩)]), (5, [.x (.bool (amongL by' pre))])]) ?assign ?round ?done ?stop
 case h0 => simp +decide (maxDischargeDepth := 200) only [go_sem, Nat.reduceBEq, List.foldl_nil, Int.natCast_zero, List.filter_nil, List.length_nil] <;> (repeat' first | rfl | constructor)
 case assign =>
  intro pre v post hU hinv
  obtain ⟨k, n, s⟩ := v
  simp +decide (maxDischargeDepth := 200) only [go_sem, Nat.reduceBEq] <;> (repeat' first | rfl | constructor)
 case round =>
  intro pre v post hU hinv
  obtain ⟨k, n, s⟩ := v
  cases hT : truE (k, n, s) with
  | some w =>
    obtain ⟨wk, wn, ws⟩ := w
    have eT := FTruthOf_no hT
    have e : settleW by' (usL (allL l)) = (wk, wn, ws) := settle_hit hU hinv hT
    have e2 : (usL (allL l)).findSome? truE = some (wk, wn, ws) := by
     rw [hU, List.findSome?_append, List.findSome?_eq_none_iff.2 hinv]
     simp [List.findSome?_cons, hT]
    simp +decide (maxDischargeDepth := 200) only [go_sem, Nat.reduceBEq, eT, e, e2]
  | none =>
    have eT := FTruthOf_yes hT
    have hinv' := snoc_all (p := fun x : T3 => truE x = none) hinv (v := (k, n, s)) hT
    have ea : amongL by' (pre ++ [(k, n, s)]) = (amongL by' pre || decide ((decide (k = 3) && decide (n = 1)) = by')) := amongL_snoc ..
    generalize amongL by' pre = am at ea
    generalize (decide (k = 3) && decide (n = 1)) = tr at ea eT
    generalize pre ++ [(k, n, s)] = pre' at hinv' ea
    cases am <;> cases tr <;> cases by' <;> (simp +decide only [] at ea; simp +decide (maxDischargeDepth := 200) only [go_sem, Nat.reduceBEq, eT, ea]; exact hinv')
 case done =>
  intro b a' w' hinv h3
  have e : settleW by' (usL (allL l)) = boolW (decide (amongL by' (usL (allL l)) = by')) := settle_no hinv
  rw [e, boolW_tv]
  generalize amongL by' (usL (allL l)) = am at h3
  cases am <;> cases by' <;>
  · refine wpIn_seq (one_T hE hm [(4, .ptr 4 0)] [(4, _)] (by kernel_rfl) h3 (by simp +decide (maxDischargeDepth := 200) only [go_sem, Nat.reduceBEq, FTruth] <;> (repeat' first | rfl | constructor)) ?_)
    intro a4 w4 h4
    exact wpIn_ret ⟨.inr rfl, _, _, _, _, _, h4, by simp +decide (maxDischargeDepth := 200) only [go_sem, Nat.reduceBEq, Tryz.results102]⟩
 case stop =>
  intro b a' w' _ h3
  exact ⟨.inr rfl, _, _, _, _, _, h3, by simp +decide (maxDischargeDepth := 200) only [go_sem, Nat.reduceBEq, Tryz.results102]⟩
end Go.Proofs.YtfngpfnbhafmlaaGreatDoor
namespace Go.Proofs.YtfngpfnbhafmlaaGreatDoor
open Go Go.RowKit
set_option linter.unusedSimpArgs false
structure BldAt (w : World) (b : Nat) (g : Option Nat) (bs : List UInt8) : Prop where
 is : ∃ p v, w.heap[b]? = some (.cells #[p, v] 123 (0, 0)) ∧ (p = .pointer none ∨ p = .pointer (some ⟨b, 0, none⟩)) ∧ w.ownsRow 0 5 1 v bs.length (Lib.byteCells bs) ∧ v.ownBlock = g ∧ g ≠ some b ∧ (v = .slice none 0 0 ↔ bs = [])
structure Chg (b : Nat) (g : Option Nat) (w w' : World) : Prop where
 os : w'.os = w.os
 tape : w'.tape = w.tape
 output : w'.output = w.output
 size : w.heap.size ≤ w'.heap.size
 block : ∀ k, k < w.heap.size → k ≠ b → g ≠ some k → w'.heap[k]? = w.heap[k]?
theorem Chg.refl (b : Nat) (g : Option Nat) (w : World) : Chg b g w w := ⟨rfl, rfl, rfl, Nat.le_refl _, fun _ _ _ _ => rfl⟩
theorem Chg.set {b : Nat} {g : Option Nat} {w w' : World} (h : Chg b g w w') (j : Nat) (v : Value) : Chg b g w (w'.setCell ⟨b, j, none⟩ v) :=
 ⟨h.os, h.tape, h.output, by simpa [World.setCell] using h.size, fun k hk h1 h2 => (Below.heap_setCell _ _ _ _ (fun e => h1 (by simp [e]))).trans (h.block k hk h1 h2)⟩
theorem Chg.grown {b : Nat} {g : Option Nat} {w w1 w2 : World} (h : Chg b g w w1) (hg : w1.grownBy w2 g) : Chg b g w w2 :=
 ⟨hg.os.trans h.os, hg.tape.trans h.tape, hg.output.trans h.output, Nat.le_trans h.size hg.size, fun k hk h1 h2 => (hg.block k (Nat.lt_of_lt_of_le hk h.size) (fun e => h2 e.symm)).trans (h.block k hk h1 h2)⟩
theorem Chg.trans {b : Nat} {g : Option Nat} {w w1 w2 : World} (h : Chg b g w w1) (k : Chg b g w1 w2) : Chg b g w w2 :=
 ⟨k.os.trans h.os, k.tape.trans h.tape, k.output.trans h.output, Nat.le_trans h.size k.size, fun i hi h1 h2 => (k.block i (Nat.lt_of_lt_of_le hi h.size) h1 h2).trans (h.block i hi h1 h2)⟩
theorem strCells_bytes (s : ByteArray) : Lib.strCells s = Lib.byteCells s.data.toList := by
 simp [Lib.strCells, Lib.byteCells]
theorem byte_info : ∃ i, Tryz.prog.info? 5 = some i ∧ i.zero = some (.int .u8 0) ∧ i.size = 1 ∧ i.bytes = 1 := by
 have h : (Tryz.prog.info? 5).map (fun i => (i.zero, i.size, i.bytes)) = some (some (.int .u8 0), 1, 1) := by kernel_rfl
 obtain ⟨i, hi, e⟩ := Option.map_eq_some_iff.1 h
 simp only [Prod.mk.injEq] at e
 exact ⟨i, hi, e⟩
theorem bld_info : ∃ j, Tryz.prog.info? 123 = some j ∧ j.size = 2 := by
 have h : (Tryz.prog.info? 123).map (·.size) = some 2 := by kernel_rfl
 obtain ⟨i, hi, e⟩ := Option.map_eq_some_iff.1 h
 exact ⟨i, hi, e⟩
theorem append_new {w : World} {g : Option Nat} {v : Value} {n : Nat} {xs : List Value} {ty : TypeId} (hown : w.ownsRow 0 5 1 v n xs) (hg : v.ownBlock = g) (s : ByteArray) (h : n + s.size ≤ 140737488355328) {v' : Value} {w' : World}
 (hr : (Builtin.append_ #[77, 9] ty #[v, .string s]).run Tryz.prog w = .ok v' w') : ∀ k, v'.ownBlock = some k → g = some k ∨ w.heap.size ≤ k := by
 obtain ⟨i, hi, hz, hs, hb⟩ := byte_info
 have hm : n + s.size ≤ maxLen := by unfold maxLen; omega
 intro k hk
 rcases hown.2 with ⟨rfl, rfl⟩ | ⟨g0, cap, cur, rfl, _, hgg, hnc, hcm, hcs, htake⟩
 · obtain ⟨v2, w2, hr2, ho2, _, _⟩ := Lib.run_append_own_string (P := Tryz.prog) w w.heap.size 77 9 ty 5 i Tryz.underlying77 Tryz.underlying9 hi hz hs hb _ 0 xs ⟨hown.1, .inl ⟨rfl, rfl⟩⟩ s hm h (Nat.le_refl _)
   rw [hr] at hr2
   cases hr2
   exact .inr (ho2.lt k hk).1
 · by_cases hroom : n + s.size ≤ cap
   · have hr2 := Lib.run_append_room_string (P := Tryz.prog) w 77 9 ty 5 i Tryz.underlying77 Tryz.underlying9 hi hs g0 n cap cur hgg s hroom (by omega)
     rw [hr] at hr2
     cases hr2
     left
     rw [← hg]
     exact hk
   · have hr2 := Lib.run_append_grow_string (P := Tryz.prog) w 77 9 ty 5 i _ Tryz.underlying77 Tryz.underlying9 hi hz ⟨g0, 0, none⟩ n cap xs (by rw [hs]; exact hown.1) (hown.cells (g := g0) rfl) s (by omega) (by omega) (growslice_fits (by omega) (by rw [hb]; omega))
     rw [hr] at hr2
     cases hr2
     right
     have : w.heap.size = k := by simpa [Value.ownBlock] using hk
     omega
set_option maxHeartbeats 1000000 in
set_option maxRecDepth 100000 in
theorem check_used (b : Nat) (w : World) (h0 : w.cell? ⟨b, 0, none⟩ = some (.pointer (some ⟨b, 0, none⟩))) :
 Calls Tryz.prog 142 #[.pointer (some ⟨b, 0, none⟩)] w fun e w' => e = .returned (.tuple #[]) ∧ w' = w := by
 obtain ⟨j, hj, _⟩ := bld_info
 go_enter Tryz.func142, Tryz.ntmps142
 go_wp2
 rw [Lib.run_neq_ptr_same w _ Tryz.underlying121 hj]
 go_wp2
 go_end0
 exact ⟨rfl, rfl⟩
set_option maxHeartbeats 1000000 in
set_option maxRecDepth 100000 in
theorem check_fresh (b : Nat) (v : Value) (w : World) (hb : w.heap[b]? = some (.cells #[.pointer none, v] 123 (0, 0))) :
 Calls Tryz.prog 142 #[.pointer (some ⟨b, 0, none⟩)] w fun e w' => e = .returned (.tuple #[]) ∧ w' = w.setCell ⟨b, 0, none⟩ (.pointer (some ⟨b, 0, none⟩)) := by
 obtain ⟨j, hj, hjs⟩ := bld_info
 have hlie : liesAt Tryz.prog Tryz.prog.depth 123 (2 / Tryz.prog.cellsOf 123) 0 123 1 = true := by kernel_rfl
 have h0 : w.cell? ⟨b, 0, none⟩ = some (.pointer none) := by rw [Lib.cell_of_heap hb]; rfl
 have hsh : w.shape? b = some (123, 2) := by simp [World.shape?, hb]
 have hfz : w.frozen? ⟨b, 0, none⟩ = false := Lib.frozen_of_heap hb 0
 go_enter Tryz.func142, Tryz.ntmps142
 go_wp2
 rw [Lib.run_to_unsafe w ⟨b, 0, none⟩ Tryz.underlying121 Tryz.underlying135 hj (by rw [hjs]; decide) hsh (Nat.zero_lt_succ 1)]
 simp only [Result.andThen]
 rw [Oper.upon_value]
 go_wp2
 rw [run_callFunc_extern Tryz.func145 (by kernel_rfl) (by kernel_rfl) (by kernel_rfl) (e := Extern.AbiNoEscape.same) (by kernel_rfl)]
 rw [Lib.run_noEscape]
 simp only [Result.andThen]
 rw [Oper.upon_value]
 go_wp2
 rw [Lib.run_from_unsafe w ⟨b, 0, none⟩ Tryz.underlying135 Tryz.underlying121 hj hsh hlie]
 simp only [Result.andThen]
 rw [Oper.upon_value]
 go_wp2
 go_end0
 exact ⟨rfl, rfl⟩
theorem wp_append_bld {w w' : World} {ops : Array Oper} {rest : List Oper} {o : Oper} {a : Act} {Q : Exit → Act → World → Prop} (hgd : o.guard = none) (sl x : Operand) (ho : o.op = .call { callee := .builtin .append, args := #[sl, x], argTypes := #[77, 9] })
 {v v' : Value} {s : ByteArray} (hs : a.eval sl = v) (hx : a.eval x = .string s) (hr : (Builtin.append_ #[77, 9] o.type #[v, .string s]).run Tryz.prog w = .ok v' w') (h : wpList Tryz.prog ops Q rest (a.put o.dst v') w') : wpList Tryz.prog ops Q (o :: rest) a w := by
 refine wpList_plain hgd fun K hK => ?_
 unfold Oper.wp execOp
 simp only [ho, resolve, invoke, builtin, Sem.run_bind, Sem.run_pure, Result.andThen_ok, List.map_toArray, List.map_cons, List.map_nil, hs, hx, hr]
 exact hK _ _ h
theorem bld_check {w : World} {b : Nat} {g : Option Nat} {bs : List UInt8} (h : BldAt w b g bs) : Calls Tryz.prog 142 #[.pointer (some ⟨b, 0, none⟩)] w fun e w' => e = .returned (.tuple #[]) ∧ Chg b g w w' ∧
 ∃ v, w'.heap[b]? = some (.cells #[.pointer (some ⟨b, 0, none⟩), v] 123 (0, 0)) ∧ w'.ownsRow 0 5 1 v bs.length (Lib.byteCells bs) ∧ v.ownBlock = g ∧ (v = .slice none 0 0 ↔ bs = []) := by
 obtain ⟨p, v, hb, hp, hown, hg, hne, hnil⟩ := h.is
 rcases hp with rfl | rfl
 · refine (check_fresh b v w hb).mono ?_
   rintro e w' ⟨rfl, rfl⟩
   refine ⟨rfl, (Chg.refl b g w).set 0 _, v, by simp [World.setCell, Array.getElem?_modify, hb], ?_, hg, hnil⟩
   exact hown.kept (row := some b) ⟨rfl, rfl, rfl, by simp [World.setCell], fun k _ hk => Below.heap_setCell _ _ _ _ (fun e => hk (by simp [e]))⟩ (.inr (by rw [hg]; exact hne))
 · refine (check_used b w (by rw [Lib.cell_of_heap hb]; rfl)).mono ?_
   rintro e w' ⟨rfl, rfl⟩
   exact ⟨rfl, Chg.refl b g _, v, hb, hown, hg, hnil⟩
set_option maxHeartbeats 2000000 in
set_option maxRecDepth 100000 in
theorem bld_write {w : World} {b : Nat} {g : Option Nat} {bs : List UInt8} (h : BldAt w b g bs) (s : ByteArray) (hlen : bs.length + s.size ≤ 140737488355328) :
 Calls Tryz.prog 129 #[.pointer (some ⟨b, 0, none⟩), .string s] w fun e w' => e = .returned (.tuple #[.int .i64 s.size, .nilIface]) ∧ ∃ g', BldAt w' b g' (bs ++ s.data.toList) ∧ (∀ k, g' = some k → g = some k ∨ w.heap.size ≤ k) ∧ Chg b g w w' := by
 obtain ⟨i0, hi, hz0, hz1, hz2⟩ := byte_info
 have hgb : g ≠ some b := by obtain ⟨_, _, _, _, _, _, h, _⟩ := h.is; exact h
 go_enter Tryz.func129, Tryz.ntmps129
 go_wp2_with (go_at_call 142; refine (bld_check h).mono ?_)
 rintro e w1 ⟨rfl, hc1, v, hbk, hown, hg, hnil⟩
 have c0 : w1.cell? ⟨b, 0, none⟩ = some (.pointer (some ⟨b, 0, none⟩)) := by rw [Lib.cell_of_heap hbk]; rfl
 have c1 : w1.cell? ⟨b, 1, none⟩ = some v := by rw [Lib.cell_of_heap hbk]; rfl
 obtain ⟨v', w2, hrun, hown', hgrow, hnil'⟩ := Lib.run_append_own_string (P := Tryz.prog) w1 0 77 9 77 5 i0 Tryz.underlying77 Tryz.underlying9 hi hz0 hz1 hz2 v bs.length (Lib.byteCells bs) hown s (by unfold maxLen; omega) hlen (Nat.zero_le _)
 have hnew := append_new hown hg s hlen hrun
 have hlt : b < w1.heap.size := by
  rcases Nat.lt_or_ge b w1.heap.size with h' | h'
  · exact h'
  · simp [Array.getElem?_eq_none h'] at hbk
 rw [hg] at hgrow
 have hb2 : w2.heap[b]? = some (.cells #[.pointer (some ⟨b, 0, none⟩), v] 123 (0, 0)) := by
  rw [hgrow.block b hlt (fun e => hgb e.symm)]
  exact hbk
 have d0 : w2.cell? ⟨b, 0, none⟩ = some (.pointer (some ⟨b, 0, none⟩)) := by rw [Lib.cell_of_heap hb2]; rfl
 have d1 : w2.cell? ⟨b, 1, none⟩ = some v := by rw [Lib.cell_of_heap hb2]; rfl
 have f1 : w2.frozen? ⟨b, 1, none⟩ = false := Lib.frozen_of_heap hb2 1
 obtain ⟨ao, n', cap, rfl⟩ : ∃ ao n' cap, v' = .slice ao n' cap := by
  rcases hown'.2 with ⟨hv, _⟩ | ⟨g, cap, cur, hv, _⟩
  · exact ⟨_, _, _, hv⟩
  · exact ⟨_, _, _, hv⟩
 go_wp2_with (at_builtin; refine wp_append_bld rfl _ _ rfl rfl rfl hrun ?_)
 go_wp2
 go_ret2
 refine ⟨rfl, (Value.slice ao n' cap).ownBlock, ⟨⟨_, .slice ao n' cap, by simp [World.setCell, Array.getElem?_modify, hb2], .inr rfl, ?_, rfl, ?_, ?_⟩⟩, ?_, (hc1.grown hgrow).set 1 _⟩
 · rw [List.length_append]
   have e : Lib.byteCells (bs ++ s.data.toList) = Lib.byteCells bs ++ Lib.strCells s := by rw [strCells_bytes]; simp [Lib.byteCells]
   rw [e, show s.data.toList.length = s.size from rfl]
   refine hown'.kept (row := some b) ⟨rfl, rfl, rfl, by simp [World.setCell], fun k _ hk => Below.heap_setCell _ _ _ _ (fun e => hk (by simp [e]))⟩ (.inr fun e => ?_)
   rcases hnew b e with h' | h'
   · exact hgb h'
   · omega
 · intro e
   rcases hnew b e with h' | h'
   · exact hgb h'
   · omega
 · rw [hnil', hnil, List.append_eq_nil_iff]
   refine and_congr Iff.rfl ⟨fun h => List.length_eq_zero_iff.1 h, fun h => by show s.data.toList.length = 0; rw [h]; rfl⟩
 · intro k hk
   rcases hnew k hk with h' | h'
   · exact .inl h'
   · exact .inr (Nat.le_trans hc1.size h')
theorem bld_len {w : World} {b : Nat} {g : Option Nat} {bs : List UInt8} (h : BldAt w b g bs) : Calls Tryz.prog 130 #[.pointer (some ⟨b, 0, none⟩)] w fun e w' => e = .returned (.int .i64 bs.length) ∧ w' = w := by
 obtain ⟨p, v, hb, hp, hown, hg, hne, hnil⟩ := h.is
 obtain ⟨ao, cap, rfl⟩ : ∃ ao cap, v = .slice ao bs.length cap := by
  rcases hown.2 with ⟨hv, h0⟩ | ⟨g, cap, cur, hv, _⟩
  · exact ⟨none, 0, by rw [hv, h0]⟩
  · exact ⟨_, _, hv⟩
 have c1 : w.cell? ⟨b, 1, none⟩ = some (.slice ao bs.length cap) := by rw [Lib.cell_of_heap hb]; rfl
 go_enter Tryz.func130, Tryz.ntmps130
 go_wp2
 go_ret
 exact ⟨rfl, rfl⟩
theorem chg_freeze {w : World} {b g0 : Nat} {g : Option Nat} (hg : g = some g0) (n : Nat) : Chg b g w (w.drew.freeze ⟨g0, 0, none⟩ n) := by
 unfold World.freeze
 split
 · exact ⟨rfl, rfl, rfl, Nat.le_refl _, fun _ _ _ _ => rfl⟩
 · exact ⟨rfl, rfl, rfl, by show w.heap.size ≤ (w.heap.modify _ _).size; simp, fun k _ _ hk => by
    show (w.heap.modify _ _)[k]? = _
    rw [Array.getElem?_modify, if_neg (fun e => hk (by rw [hg]; exact congrArg some e))]⟩
set_option maxHeartbeats 2000000 in
set_option maxRecDepth 100000 in
theorem bld_string {w : World} {b : Nat} {g : Option Nat} {bs : List UInt8} (h : BldAt w b g bs) : Calls Tryz.prog 132 #[.pointer (some ⟨b, 0, none⟩)] w fun e w' => e = .returned (.string ⟨bs.toArray⟩) ∧ Chg b g w w' := by
 obtain ⟨p, v, hb, hp, hown, hg, hne, hnil⟩ := h.is
 by_cases h0 : bs = []
 · obtain rfl := hnil.2 h0
   subst h0
   have hUS : ∀ W q, (Builtin.unsafeString_ #[78, 3] 9 #[.pointer q, .int .i64 0]).run Tryz.prog W = .ok (.string .empty) W := fun W q => Lib.run_unsafeString_none W _ _ _ q
   have c1 : w.drew.cell? ⟨b, 1, none⟩ = some (.slice none 0 0) := by
    have : w.drew.heap[b]? = some (.cells #[p, .slice none 0 0] 123 (0, 0)) := hb
    rw [Lib.cell_of_heap this]; rfl
   have hSD : (Builtin.unsafeSliceData_ #[77] 78 #[.slice none 0 0]).run Tryz.prog w.drew = .ok (.pointer none) w.drew := rfl
   go_enter Tryz.func132, Tryz.ntmps132
   go_wp2
   go_region
   all_goals (go_wp2; go_ret; exact ⟨rfl, rfl, rfl, rfl, Nat.le_refl _, fun _ _ _ _ => rfl⟩)
 · have hl0 : bs.length ≠ 0 := by simpa using h0
   obtain ⟨g0, cap, cur, rfl, hgg, hnc, hcm, hcs, htake⟩ : ∃ g cap cur, v = .slice (some ⟨g, 0, none⟩) bs.length cap ∧ w.heap[g]? = some (.cells cur 5 (0, 0)) ∧ bs.length ≤ cap ∧ cap ≤ maxLen ∧ cur.size = cap * 1 ∧ cur.toList.take (bs.length * 1) = Lib.byteCells bs := by
    rcases hown.2 with ⟨_, hz⟩ | ⟨g, cap, cur, hv, _, r⟩
    · exact absurd hz hl0
    · exact ⟨g, cap, cur, hv, r⟩
   have c1 : w.drew.cell? ⟨b, 1, none⟩ = some (.slice (some ⟨g0, 0, none⟩) bs.length cap) := by
    have : w.drew.heap[b]? = some (.cells #[p, .slice (some ⟨g0, 0, none⟩) bs.length cap] 123 (0, 0)) := hb
    rw [Lib.cell_of_heap this]; rfl
   have hSD : (Builtin.unsafeSliceData_ #[77] 78 #[.slice (some ⟨g0, 0, none⟩) bs.length cap]).run Tryz.prog w.drew = .ok (.pointer (some ⟨g0, 0, none⟩)) w.drew :=
    Lib.run_unsafeSliceData_row _ _ _ _ _ _ (by omega)
   have hUS : (Builtin.unsafeString_ #[78, 3] 9 #[.pointer (some ⟨g0, 0, none⟩), .int .i64 bs.length]).run Tryz.prog w.drew = .ok (.string ⟨bs.toArray⟩) (w.drew.freeze ⟨g0, 0, none⟩ bs.length) := by
    refine Lib.run_unsafeString_row w.drew 78 3 9 5 Tryz.underlying78 (by kernel_rfl) g0 cur.size (by have hg' : w.drew.heap[g0]? = some (.cells cur 5 (0, 0)) := hgg; simp [World.shape?, hg']) bs h0 (by omega) (by unfold maxLen at hcm; omega) ?_
    intro j x hx
    exact hown.cells (g := g0) rfl j (.int .u8 x.toNat) (by simp [Lib.byteCells, hx])
   go_enter Tryz.func132, Tryz.ntmps132
   go_wp2
   go_region
   all_goals (go_wp2; go_ret; exact ⟨rfl, chg_freeze (by rw [← hg]; rfl) _⟩)
end Go.Proofs.YtfngpfnbhafmlaaGreatDoor
namespace Go.Proofs.YtfngpfnbhafmlaaGreatDoor
open Go Go.RowKit
set_option linter.unusedSimpArgs false
structure Beside (K b : Nat) (g : Option Nat) (bs : List UInt8) (O OA : Nat → Prop) (m : Lim) (w : World) : Prop where
 bld : BldAt w b g bs
 all : ∀ k, OA k ↔ (O k ∨ k = b ∨ g = some k)
 nb : ¬ O b
 ng : ∀ k, g = some k → ¬ O k
 lb : m b = some 0
 lg : ∀ k, g = some k → m k = some 0
 kb : K ≤ b
 kg : ∀ k, g = some k → K ≤ k
section
variable {K b : Nat} {g : Option Nat} {bs : List UInt8} {O OA S : Nat → Prop} {m m' : Lim} {w w' : World}
theorem BldAt.lt (h : BldAt w b g bs) : b < w.heap.size ∧ ∀ k, g = some k → k < w.heap.size := by
 obtain ⟨p, v, hb, _, hown, hg, _⟩ := h.is
 exact ⟨heap_lt hb, fun k hk => (hown.lt k (hg.trans hk)).2⟩
theorem BldAt.same (h : BldAt w b g bs) (hb : w'.heap[b]? = w.heap[b]?) (hg : ∀ k, g = some k → w'.heap[k]? = w.heap[k]?) : BldAt w' b g bs := by
 obtain ⟨p, v, h1, h2, hown, h3, h4, h5⟩ := h.is
 refine ⟨p, v, hb.trans h1, h2, ⟨hown.1, ?_⟩, h3, h4, h5⟩
 rcases hown.2 with hn | ⟨g0, cap, cur, e, hb0, hgg, rest⟩
 · exact .inl hn
 · exact .inr ⟨g0, cap, cur, e, hb0, by rw [hg g0 (by rw [← h3, e]; rfl)]; exact hgg, rest⟩
theorem Beside.lt (h : Beside K b g bs O OA m w) (hO : ∀ k, O k → k < w.heap.size ∧ K ≤ k) : ∀ k, OA k → k < w.heap.size ∧ K ≤ k := by
 intro k hk
 rcases (h.all k).1 hk with hk | rfl | hk
 · exact hO k hk
 · exact ⟨h.bld.lt.1, h.kb⟩
 · exact ⟨h.bld.lt.2 k hk, h.kg k hk⟩
theorem Beside.stab (h : Beside K b g bs O OA m w) (hs : Step S m w m' w') (hS : ∀ k, OA k → ¬ S k) : Beside K b g bs O OA m' w' := by
 have hb := hs.same b h.bld.lt.1 (hS b ((h.all b).2 (.inr (.inl rfl))))
 have hg : ∀ k, g = some k → w'.heap[k]? = w.heap[k]? ∧ m' k = m k := fun k hk => hs.same k (h.bld.lt.2 k hk) (hS k ((h.all k).2 (.inr (.inr hk))))
 exact ⟨h.bld.same hb.1 (fun k hk => (hg k hk).1), h.all, h.nb, h.ng, hb.2.trans h.lb, fun k hk => (hg k hk).2.trans (h.lg k hk), h.kb, h.kg⟩
theorem Beside.grown (h : Beside K b g bs O OA m w) (hs : Step O m w m' w') : Beside K b g bs (grew O w w') (fun k => grew O w w' k ∨ k = b ∨ g = some k) m' w' := by
 have hb := hs.same b h.bld.lt.1 h.nb
 have hg : ∀ k, g = some k → w'.heap[k]? = w.heap[k]? ∧ m' k = m k := fun k hk => hs.same k (h.bld.lt.2 k hk) (h.ng k hk)
 refine ⟨h.bld.same hb.1 (fun k hk => (hg k hk).1), fun k => Iff.rfl, fun hn => ?_, fun k hk hn => ?_, hb.2.trans h.lb, fun k hk => (hg k hk).2.trans (h.lg k hk), h.kb, h.kg⟩
 · rcases hn.2 with hn | hn
   · exact h.nb hn
   · exact absurd h.bld.lt.1 (Nat.not_lt.2 hn)
 · rcases hn.2 with hn | hn
   · exact h.ng k hk hn
   · exact absurd (h.bld.lt.2 k hk) (Nat.not_lt.2 hn)
end
def OneB (E : Env) (n : Nat) (B : Bs) (b : Nat) (g : Option Nat) (bs : List UInt8) (st : St) (a : Act) (w : World) : Prop :=
 ∃ m O OA, Now E n B.D O m st a w ∧ Beside E.K b g bs O OA m w ∧ (∀ k, OA k → B.Os k ∨ B.ws.heap.size ≤ k) ∧ Step B.Os B.ms B.ws m w ∧ Marks B.D OA B.ws.heap.size w ∧ B.Kn.P m w ∧ KeepT B.W B.t0 a.tmps
section
variable {E : Env} {n : Nat} {B : Bs} {b : Nat} {g : Option Nat} {bs : List UInt8} {m : Lim} {w : World} {st : St} {a : Act} {O OA : Nat → Prop} {r : Option Nat}
theorem OneB.le {st' : St} (h : OneB E n B b g bs st a w) (hl : Le st' st) : OneB E n B b g bs st' a w := by
 obtain ⟨m, O, OA, h1, h2⟩ := h
 exact ⟨m, O, OA, h1.le hl, h2⟩
theorem OneB.forget (h : OneB E n B b g bs st a w) : One E n B st a w := by
 obtain ⟨m, O, OA, h1, hb, h2, h3, h4, h5, h6⟩ := h
 refine ⟨m, O, h1, fun k hk => h2 k ((hb.all k).2 (.inl hk)), h3, ⟨h4.nd, fun d hd => ?_⟩, h5, h6⟩
 obtain ⟨b', rfl, q1, q2, q3⟩ := h4.is d hd
 exact ⟨b', rfl, q1, q2, fun ho => q3 ((hb.all _).2 (.inl ho))⟩
theorem OneB.grown {m' : Lim} {w' : World} {a' : Act} {st' : St} (hb : Beside E.K b g bs O OA m w) (h2 : ∀ k, OA k → B.Os k ∨ B.ws.heap.size ≤ k) (h3 : Step B.Os B.ms B.ws m w) (h4 : Marks B.D OA B.ws.heap.size w) (h5 : B.Kn.P m w) (hkt : KeepT B.W B.t0 a'.tmps)
 (hn : Now E n B.D (grew O w w') m' st' a' w') (hs : Step O m w m' w') : OneB E n B b g bs st' a' w' := by
 have hO : ∀ k, O k → OA k := fun k hk => (hb.all k).2 (.inl hk)
 refine ⟨m', _, _, hn, hb.grown hs, fun k hg => ?_, h3.next hs (fun i hi ho => (h2 i (hO i ho)).resolve_right (Nat.not_le.2 hi)), ⟨h4.nd, fun d hd => ?_⟩, B.Kn.mono _ _ _ _ h5 hs.ext, hkt⟩
 · rcases hg with hg | hg
   · rcases hg.2 with hg | hg
     · exact h2 k (hO k hg)
     · exact .inr (Nat.le_trans h3.ext.size hg)
   · exact h2 k ((hb.all k).2 (.inr hg))
 · obtain ⟨b', rfl, q1, q2, q3⟩ := h4.is d hd
   refine ⟨b', rfl, q1, (hs.same b' (heap_lt q2) (fun ho => q3 (hO _ ho))).1.trans q2, fun hg => ?_⟩
   rcases hg with hg | hg
   · rcases hg.2 with hg | hg
     · exact q3 (hO _ hg)
     · exact absurd (heap_lt q2) (Nat.not_lt.2 hg)
   · exact q3 ((hb.all _).2 (.inr hg))
theorem oneB_run (hE : EnvOK E) (hm : E.P.follows .mixedOrders = true) {c : Code} {K : Out → St → Prop} (hok : okCode E.any n c = true) (hW : wrC B.W c = true) (h : OneB E n B b g bs st a w) (hr : run E c st K) :
 c.wpIn (fen r) 0 E.P (fun e a' w' => ∃ o st', outE e = some o ∧ K o st' ∧ OneB E n B b g bs st' a' w') a w := by
 obtain ⟨m, O, OA, h1, hb, h2, h3, h4, h5, h6⟩ := h
 refine wpIn_mono (run_now (r := r) (W := B.W) hE hm hok hW h1 hr) ?_
 rintro e a' w' ⟨hk, o, st', m', ho, hK, hn, hs⟩
 exact ⟨o, st', ho, hK, OneB.grown hb h2 h3 h4 h5 (h6.trans hk) hn hs⟩
theorem oneB_T (hE : EnvOK E) (hm : E.P.follows .mixedOrders = true) {c : Code} (ts : List (Nat × V)) (bx : List (Nat × List V)) (hok : okCode E.any n c = true) (hW : wrC B.W c = true) (h : OneB E n B b g bs st a w) (hr : run E c st (endT ts bx)) {Q : Exit → Act → World → Prop}
 (hQ : ∀ a' w', OneB E n B b g bs (stOf ts bx) a' w' → Q .normal a' w') : c.wpIn (fen r) 0 E.P Q a w := by
 refine wpIn_mono (oneB_run hE hm hok hW h hr) ?_
 rintro e a' w' ⟨o, st', ho, hK, ht⟩
 cases o with
 | ret => exact hK.elim
 | exit id => exact hK.elim
 | normal =>
   cases e <;> simp only [outE, Option.some.injEq, reduceCtorEq] at ho
   exact hQ _ _ (ht.le (le_stOf hK.1 hK.2))
theorem oneB_R (hE : EnvOK E) (hm : E.P.follows .mixedOrders = true) {c : Code} (ts : List (Nat × V)) (bx : List (Nat × List V)) (hok : okCode E.any n c = true) (hW : wrC B.W c = true) (h : OneB E n B b g bs st a w) (hr : run E c st (endR ts bx)) {Q : Exit → Act → World → Prop}
 (hQ : ∀ a' w', OneB E n B b g bs (stOf ts bx) a' w' → Q .ret a' w') : c.wpIn (fen r) 0 E.P Q a w := by
 refine wpIn_mono (oneB_run hE hm hok hW h hr) ?_
 rintro e a' w' ⟨o, st', ho, hK, ht⟩
 cases o with
 | normal => exact hK.elim
 | exit id => exact hK.elim
 | ret =>
   cases e <;> simp only [outE, Option.some.injEq, reduceCtorEq] at ho
   exact hQ _ _ (ht.le (le_stOf hK.1 hK.2))
theorem oneB_ops (hE : EnvOK E) {ops : List Oper} {Q : Exit → Act → World → Prop} (ts : List (Nat × V)) (bx : List (Nat × List V)) (rest : List Nat) : ∀ (l : List Oper) (is : List Nat) (st : St) (a : Act) (w : World), (is.map fun i => ops[i]?) = l.map some → dstsIn n l = true → wrL B.W ops = true →
 OneB E n B b g bs st a w → (aopsK E ⟨ops⟩ l st fun st' => leT st' ts ∧ leB st' bx) → (∀ a' w', OneB E n B b g bs (stOf ts bx) a' w' → wpOpsIn (fen r) 0 E.P ⟨ops⟩ Q rest a' w') → wpOpsIn (fen r) 0 E.P ⟨ops⟩ Q (is ++ rest) a w
 | [], [], _, a, w, _, _, _, h, hr, hK => hK a w (h.le (le_stOf hr.1 hr.2))
 | [], i :: is, st, a, w, hi, _, _, h, hr, hK => by simp at hi
 | o :: l, [], st, a, w, hi, _, _, h, hr, hK => by simp at hi
 | o :: l, i :: is, st, a, w, hi, hd, hWo, h, hr, hK => by
   rw [List.cons_append, wpOpsIn_cons]
   simp only [List.map_cons, List.cons.injEq] at hi
   obtain ⟨st', hs, hl, hb⟩ := aopsK_out _ _ hr
   unfold aopsV at hs
   split at hs
   · rename_i st1 h1
     obtain ⟨m, O, OA, q1, qb, q2, q3, q4, q5, q6⟩ := h
     have hlt := q1.lt
     obtain ⟨bb, β, hrel⟩ := q1.rel
     have hi1 : (⟨ops⟩ : Array Oper)[i]? = some o := by simpa using hi.1
     have hwp : wpOpIn (fen r) 0 E.P ⟨ops⟩ Q i (fun a' w' => OneB E n B b g bs st1 a' w' ∨ (∃ m' β', Rel E n ⟨lst O w.heap.size, bb, lst O w.heap.size, B.D⟩ m w m' β' st1 a' w')) a w := aopV_sound hE.x hrel hi1 (dstsIn_of hd (by simp)) h1 (fun a' w' m' β' hr' => .inr ⟨m', β', hr'⟩)
     have hkeep := wpOpIn_keep (W := B.W) (t := B.t0) (by simpa using hWo) q6 (K' := fun a' w' => OneB E n B b g bs st1 a' w') (fun a' w' hK' hkt => by
      rcases hK' with hK' | ⟨m', β', hr'⟩
      · exact hK'
      · obtain ⟨hn, hst⟩ := Now.of_rel hE hlt hr'
        exact OneB.grown qb q2 q3 q4 q5 hkt hn hst) hwp
     have hdl : dstsIn n l = true := by simp only [dstsIn, List.all_cons, Bool.and_eq_true] at hd; exact hd.2
     exact wpOpIn_weak (fun a' w' h' => oneB_ops hE ts bx rest l is st1 a' w' hi.2 hdl hWo h' (aopsK_in _ _ hs ⟨hl, hb⟩) hK) (fun e a' w' h' => h'.1) hkeep
   · cases hs
theorem oneB_S (hE : EnvOK E) {ops : List Oper} {Q : Exit → Act → World → Prop} (k j : Nat) (ts : List (Nat × V)) (bx : List (Nat × List V)) (rest : List Nat) (hl : k + j ≤ ops.length) (hd : dstsIn n ((ops.drop k).take j) = true) (hW : wrL B.W ops = true)
 (h : OneB E n B b g bs st a w) (hr : aopsK E ⟨ops⟩ ((ops.drop k).take j) st fun st' => leT st' ts ∧ leB st' bx) (hK : ∀ a' w', OneB E n B b g bs (stOf ts bx) a' w' → wpOpsIn (fen r) 0 E.P ⟨ops⟩ Q rest a' w') : wpOpsIn (fen r) 0 E.P ⟨ops⟩ Q (List.range' k j ++ rest) a w :=
 oneB_ops hE ts bx rest _ _ st a w (range_ops ops k j hl) hd hW h hr hK
theorem oneB_val (h : OneB E n B b g bs st a w) {i : Nat} {v : Value} (hi : st.t i = .x v) : a.eval (.tmp i) = v := by
 obtain ⟨m, O, OA, h1, _⟩ := h
 obtain ⟨bb, β, hr⟩ := h1.rel
 exact (hi ▸ hr.tmps i : Rs m w β _ (.x v)).x
theorem OneB.turn (hE : EnvOK E) (h : OneB E n B b g bs st a w) {w' : World} {g' : Option Nat} {bs' : List UInt8} {d : Tmp} (hd : d < n) {v : Value} {u : V} (hu : ∀ m, Rd m w' v u) (hW : B.W d = true) (hc : Chg b g w w') (hb' : BldAt w' b g' bs') (hg' : ∀ k, g' = some k → g = some k ∨ w.heap.size ≤ k) :
 OneB E n B b g' bs' (st.put (some d) u.bare) (a.put (some d) v) w' := by
 obtain ⟨m, O, OA, h1, hb, h2, h3, h4, h5, h6⟩ := h
 have hKw : E.K ≤ w.heap.size := hE.high _ h1.J
 have hs : Step (fun k => k = b ∨ g = some k) m w (fun k => open Classical in if g' = some k then some 0 else m k) w' := by
  refine ⟨hc.os, hc.tape, hc.output, ⟨hc.size, fun blk off v hl hm hv => ?_, fun blk hl fr' hf => ?_⟩, fun k hk hn => ⟨hc.block k hk (fun e => hn (.inl e)) (fun e => hn (.inr e)), ?_⟩⟩
  · by_cases e1 : blk = b
    · exact absurd (hm 0 (e1 ▸ hb.lb)) (Nat.not_lt_zero _)
    · by_cases e2 : g = some blk
      · exact absurd (hm 0 (hb.lg _ e2)) (Nat.not_lt_zero _)
      · rw [cell_block (hc.block blk hl e1 e2)]; exact hv
  · have hf : (open Classical in if g' = some blk then some 0 else m blk) = some fr' := hf
    split at hf
    · rename_i e
      cases hf
      rcases hg' blk e with h' | h'
      · exact ⟨0, hb.lg _ h', Nat.le_refl _⟩
      · exact absurd hl (Nat.not_lt.2 h')
    · exact ⟨fr', hf, Nat.le_refl _⟩
  · show (open Classical in if g' = some k then some 0 else m k) = m k
    split
    · rename_i e
      rcases hg' k e with h' | h'
      · exact absurd (.inr h') hn
      · exact absurd hk (Nat.not_lt.2 h')
    · rfl
 have hSK : ∀ k, k < w.heap.size → (k = b ∨ g = some k) → k ∈ b :: g.toList := fun k _ e => by
  rcases e with rfl | rfl <;> simp
 have hJ : E.J w' := hE.keep (b :: g.toList) _ _ (fun x hx => by
  rcases List.mem_cons.1 hx with rfl | hx
  · exact hb.kb
  · exact hb.kg x (by simpa using hx)) h1.J (hs.bel hSK)
 have hn := (h1.other hs (fun k hk e => by
  rcases e with rfl | e
  · exact hb.nb hk
  · exact hb.ng k e hk) hJ).put hd (hu _)
 have hnb : g' ≠ some b := by obtain ⟨_, _, _, _, _, _, h', _⟩ := hb'.is; exact h'
 refine ⟨_, O, fun k => O k ∨ k = b ∨ g' = some k, hn, ⟨hb', fun k => Iff.rfl, hb.nb, fun k hk ho => ?_, ?_, fun k hk => if_pos hk, hb.kb, fun k hk => ?_⟩, fun k hk => ?_, h3.next hs (fun i hi e => (h2 i ((hb.all i).2 (.inr e))).resolve_right (Nat.not_le.2 hi)), ⟨h4.nd, fun x hx => ?_⟩, B.Kn.mono _ _ _ _ h5 hs.ext, h6.put (fun k e => by cases e; exact hW)⟩
 · rcases hg' k hk with h' | h'
   · exact hb.ng k h' ho
   · exact absurd (h1.lt k ho) (Nat.not_lt.2 h')
 · show (open Classical in if g' = some b then some 0 else m b) = some 0
   rw [if_neg hnb]
   exact hb.lb
 · rcases hg' k hk with h' | h'
   · exact hb.kg k h'
   · exact Nat.le_trans hKw h'
 · rcases hk with hk | hk | hk
   · exact h2 k ((hb.all k).2 (.inl hk))
   · exact h2 k ((hb.all k).2 (.inr (.inl hk)))
   · rcases hg' k hk with h' | h'
     · exact h2 k ((hb.all k).2 (.inr (.inr h')))
     · exact .inr (Nat.le_trans h3.ext.size h')
 · obtain ⟨b', rfl, q1, q2, q3⟩ := h4.is x hx
   have hq : ¬ (b' = b ∨ g = some b') := fun e => q3 ((hb.all _).2 (.inr e))
   refine ⟨b', rfl, q1, (hs.same b' (heap_lt q2) hq).1.trans q2, fun e => ?_⟩
   rcases e with e | e | e
   · exact q3 ((hb.all _).2 (.inl e))
   · exact hq (.inl e)
   · rcases hg' b' e with h' | h'
     · exact hq (.inr h')
     · exact absurd (heap_lt q2) (Nat.not_lt.2 h')
theorem wp_call {ops : List Oper} {Q : Exit → Act → World → Prop} {i : Nat} {rest : List Nat} {o : Oper} {d : Tmp} {f : FuncId} {args : Array Operand} {ts : Array TypeId} {R : Ending → World → Prop} (hi : ops[i]? = some o) (hop : o.op = .call { callee := .value (.func f), args := args, argTypes := ts }) (hd : o.dst = some d) (hg : o.guard = none)
 (hcall : ∀ args w, (callFunc f args).run E.P w = .ok (.enter f args) w) (hc : Calls E.P f (args.map a.eval) w R) (hR : ∀ e w', R e w' → ∃ v, e = .returned v ∧ wpOpsIn (fen r) 0 E.P ⟨ops⟩ Q rest (a.put (some d) v) w') : wpOpsIn (fen r) 0 E.P ⟨ops⟩ Q (i :: rest) a w := by
 rw [wpOpsIn_cons]
 unfold wpOpIn
 have hi' : (⟨ops⟩ : Array Oper)[i]? = some o := by simpa using hi
 rw [hi']
 simp only
 rw [if_pos (by unfold Region.wanted; rw [hg])]
 refine ⟨fun _ _ => trivial, ?_⟩
 rw [Oper.semAt_eq _ _ _ (by rw [hop]; intro c e; cases e)]
 have hrun : (execOp a.eval o).run E.P w = .ok (.enter f (args.map a.eval)) w := by
  simp only [execOp, hop, resolve, Sem.run_bind, Act.eval, Deferred.ofValue, Sem.run_pure, Result.andThen_ok, invoke]
  simpa using hcall _ _
 rw [hrun]
 refine ⟨(fun e => by cases e), callsIn_fen.2 (hc.mono ?_)⟩
 intro e w' hr
 obtain ⟨v, rfl, hK⟩ := hR e w' hr
 show wpOpsIn (fen r) 0 E.P ⟨ops⟩ Q rest (a.put o.dst v) w'
 rw [hd]
 exact hK
end
end Go.Proofs.YtfngpfnbhafmlaaGreatDoor
namespace Go.Proofs.YtfngpfnbhafmlaaGreatDoor
open Go Go.RowKit
set_option linter.unusedSimpArgs false
section
variable {E : Env} {n : Nat} {B : Bs} {b : Nat} {g : Option Nat} {bs : List UInt8} {m : Lim} {w : World} {st : St} {a : Act} {O OA : Nat → Prop} {r : Option Nat}
theorem oneB_alloc (hE : EnvOK E) (hP : E.P = Tryz.prog) {ops : List Oper} {Q : Exit → Act → World → Prop} {i : Nat} {rest : List Nat} {o : Oper} {d : Tmp} (hi : ops[i]? = some o) (hop : o.op = .alloc 123) (hd : o.dst = some d) (hg : o.guard = none) (hdn : d < n) (hW : B.W d = true) (h : One E n B st a w)
 (hK : ∀ b a' w', OneB E n B b none [] (st.put (some d) (.x (.pointer (some ⟨b, 0, none⟩)))) a' w' → wpOpsIn (fen r) 0 E.P ⟨ops⟩ Q rest a' w') : wpOpsIn (fen r) 0 E.P ⟨ops⟩ Q (i :: rest) a w := by
 have hz : ∃ j, Tryz.prog.info? 123 = some j ∧ j.zero = some (.agg #[.pointer none, .slice none 0 0]) := by
  have h : (Tryz.prog.info? 123).map (·.zero) = some (some (.agg #[.pointer none, .slice none 0 0])) := by kernel_rfl
  obtain ⟨i, hi, e⟩ := Option.map_eq_some_iff.1 h
  exact ⟨i, hi, e⟩
 obtain ⟨j, hj, hz⟩ := hz
 have hzr : (zeroValue 123).run E.P w = .ok (.agg #[.pointer none, .slice none 0 0]) w := by
  rw [hP]
  simp [zeroValue, typeInfo, hj, hz]
 have hrun : (execOp a.eval o).run E.P w = .ok (.value (.pointer (some ⟨w.heap.size, 0, none⟩))) (w.alloc (.cells #[.pointer none, .slice none 0 0] 123)) := by
  simp only [execOp, hop, Instr.alloc, Sem.run_bind, hzr, Result.andThen_ok, newVar, newRow, run_newObj, Sem.run_pure]
  rfl
 obtain ⟨m, O, h1, h2, h3, h4, h5, h6⟩ := h
 rw [wpOpsIn_cons]
 unfold wpOpIn
 have hi' : (⟨ops⟩ : Array Oper)[i]? = some o := by simpa using hi
 rw [hi']
 simp only
 rw [if_pos (by unfold Region.wanted; rw [hg])]
 refine ⟨fun _ _ => trivial, ?_⟩
 rw [Oper.semAt_eq _ _ _ (by rw [hop]; intro c e; cases e), hrun]
 show wpOpsIn (fen r) 0 E.P ⟨ops⟩ Q rest (a.put o.dst _) _
 rw [hd]
 have hs : Step (fun _ => False) m w (upd m w.heap.size (some 0)) (w.alloc (.cells #[.pointer none, .slice none 0 0] 123)) := Step.of_below ((Below.refl _ w).alloc (Nat.le_refl _) _) (fun k hk => upd_ne _ _ (Nat.ne_of_lt hk))
 have hJ : E.J (w.alloc (.cells #[.pointer none, .slice none 0 0] 123)) := hE.keep [] _ _ (fun x hx => by cases hx) h1.J (hs.bel (fun k _ e => e.elim))
 have hnew : (w.alloc (.cells #[.pointer none, .slice none 0 0] 123)).heap[w.heap.size]? = some (.cells #[.pointer none, .slice none 0 0] 123 (0, 0)) := World.heap_new w _
 have hput := (h1.other hs (fun _ _ h => h) hJ).put hdn (v := .pointer (some ⟨w.heap.size, 0, none⟩)) (u := .x (.pointer (some ⟨w.heap.size, 0, none⟩))) (.x _)
 rw [bare_x] at hput
 refine hK w.heap.size _ _ ⟨_, O, fun k => O k ∨ k = w.heap.size, hput, ⟨⟨⟨_, _, hnew, .inl rfl, World.ownsRow_nil _ 0 _ 1, rfl, (by intro e; cases e), by simp⟩⟩, fun k => by simp, fun ho => absurd (h1.lt _ ho) (Nat.lt_irrefl _), (fun k e => by cases e), upd_same _ _ _, (fun k e => by cases e), hE.high _ h1.J, (fun k e => by cases e)⟩, fun k hk => ?_, h3.next hs (fun _ _ h => h.elim), ⟨h4.nd, fun x hx => ?_⟩, B.Kn.mono _ _ _ _ h5 hs.ext, h6.put (fun k e => by cases e; exact hW)⟩
 · rcases hk with hk | rfl
   · exact h2 k hk
   · exact .inr h3.ext.size
 · obtain ⟨b', rfl, q1, q2, q3⟩ := h4.is x hx
   refine ⟨b', rfl, q1, (hs.same b' (heap_lt q2) (fun h => h)).1.trans q2, fun e => ?_⟩
   rcases e with e | e
   · exact q3 e
   · have := heap_lt q2; omega
theorem OneB.fin (hE : EnvOK E) (h : OneB E n B b g bs st a w) {w' : World} {d : Tmp} (hd : d < n) {v : Value} {u : V} (hu : ∀ m, Rd m w' v u) (hW : B.W d = true) (hc : Chg b g w w') : One E n B (st.put (some d) u.bare) (a.put (some d) v) w' := by
 obtain ⟨m, O, OA, h1, hb, h2, h3, h4, h5, h6⟩ := h
 have hs : Step (fun k => k = b ∨ g = some k) m w m w' := by
  refine ⟨hc.os, hc.tape, hc.output, ⟨hc.size, fun blk off v hl hm hv => ?_, fun blk _ fr' hf => ⟨fr', hf, Nat.le_refl _⟩⟩, fun k hk hn => ⟨hc.block k hk (fun e => hn (.inl e)) (fun e => hn (.inr e)), rfl⟩⟩
  by_cases e1 : blk = b
  · exact absurd (hm 0 (e1 ▸ hb.lb)) (Nat.not_lt_zero _)
  · by_cases e2 : g = some blk
    · exact absurd (hm 0 (hb.lg _ e2)) (Nat.not_lt_zero _)
    · rw [cell_block (hc.block blk hl e1 e2)]; exact hv
 have hSK : ∀ k, k < w.heap.size → (k = b ∨ g = some k) → k ∈ b :: g.toList := fun k _ e => by
  rcases e with rfl | rfl <;> simp
 have hJ : E.J w' := hE.keep (b :: g.toList) _ _ (fun x hx => by
  rcases List.mem_cons.1 hx with rfl | hx
  · exact hb.kb
  · exact hb.kg x (by simpa using hx)) h1.J (hs.bel hSK)
 have hn := (h1.other hs (fun k hk e => by
  rcases e with rfl | e
  · exact hb.nb hk
  · exact hb.ng k e hk) hJ).put hd (hu _)
 refine ⟨_, O, hn, fun k hk => h2 k ((hb.all k).2 (.inl hk)), h3.next hs (fun i hi e => (h2 i ((hb.all i).2 (.inr e))).resolve_right (Nat.not_le.2 hi)), ⟨h4.nd, fun x hx => ?_⟩, B.Kn.mono _ _ _ _ h5 hs.ext, h6.put (fun k e => by cases e; exact hW)⟩
 obtain ⟨b', rfl, q1, q2, q3⟩ := h4.is x hx
 exact ⟨b', rfl, q1, (hs.same b' (heap_lt q2) (fun e => q3 ((hb.all _).2 (.inr e)))).1.trans q2, fun e => q3 ((hb.all _).2 (.inl e))⟩
theorem oneB_range (hE : EnvOK E) (h : OneB E n B b g bs st a w) {gop : Operand} {d : Tmp} {assign body : Code} {Q : Exit → Act → World → Prop} {gf : FuncId} {lb : Array Value} (W : Nat → Bool)
 (hg : a.eval gop = .func (.func gf) #[] lb) (hcall : ∀ args w, (callFunc gf args).run E.P w = .ok (.enter gf args) w) {U : List T3}
 (hit : ∀ m w, B.Kn.P m w → E.J w → IterAt E (fun _ => False) gf lb (OkU U) (DoneU U) m w) (hd : W d = true ∧ d < n)
 (Inv : List T3 → Prop) (bsOf : List T3 → List UInt8) (S0 : St) (S1 : T3 → St) (Jr : St → Prop) (hi0 : Inv []) (hb0 : bs = bsOf []) (h0 : Le S0 st)
 (hassign : ∀ pre v post l B' a1 w1 g', U = pre ++ v :: post → Inv pre → B'.D = [] → B'.Kn = B.Kn → B'.W = W → B'.t0 = a.tmps → OneB E n B' b g' (bsOf pre) (putL [d] [tv v] S0) a1 w1 → assign.wpIn (fen (some l)) 0 E.P (fun e a2 w2 => e = .normal ∧ ∃ g2, OneB E n B' b g2 (bsOf pre) (S1 v) a2 w2) a1 w1)
 (hbody : ∀ pre v post l B' a1 w1 g', U = pre ++ v :: post → Inv pre → B'.D = [] → B'.Kn = B.Kn → B'.W = W → B'.t0 = a.tmps → OneB E n B' b g' (bsOf pre) (S1 v) a1 w1 → body.wpIn (fen (some l)) 0 E.P (fun e a2 w2 => ∃ g2 bs2 st', OneB E n B' b g2 bs2 st' a2 w2 ∧ (match e with | .normal => Inv (pre ++ [v]) ∧ bs2 = bsOf (pre ++ [v]) ∧ Le S0 (cut W st') | .ret => Jr (cut W st') | _ => False)) a1 w1)
 (hdone : ∀ bk g' a' w', Inv U → OneB E n { B with D := markD bk :: B.D } b g' (bsOf U) S0 a' w' → Q .normal a' w')
 (hstop : ∀ st2 bk g' bs2 a' w', Jr st2 → OneB E n { B with D := markD bk :: B.D } b g' bs2 st2 a' w' → Q .ret a' w') : (Code.rangeFunc gop #[d] assign body).wpIn (fen none) 0 E.P Q a w := by
 obtain ⟨m, O, OA, h1, hb, h2, h3, h4, h5, h6⟩ := h
 have hd0 : a.defers = B.D := by obtain ⟨_, _, hr⟩ := h1.rel; exact hr.defers
 have hz0 : a.tmps.size = n := by obtain ⟨_, _, hr⟩ := h1.rel; exact hr.size
 have fin : ∀ {st2 : St} {On OA' : Nat → Prop} {g' : Option Nat} {bs2 : List UInt8} {m' : Lim} {w' : World} {bk : Nat}, Now E n B.D On m' st2 a w' → Beside E.K b g' bs2 On OA' m' w' → B.Kn.P m' w' → Step OA m w m' w' → (∀ k, OA' k → OA k ∨ w.heap.size ≤ k) → Mk OA' w.heap.size bk w' → OneB E n { B with D := markD bk :: B.D } b g' bs2 st2 { a with defers := markD bk :: a.defers } w' := by
  intro st2 On OA' g' bs2 m' w' bk q1 qb hkn q2 q3 q4
  refine ⟨m', On, OA', q1.marks rfl (by show markD bk :: a.defers = _; rw [hd0]), qb, fun k hk => ?_, h3.next q2 (fun i hi ho => (h2 i ho).resolve_right (Nat.not_le.2 hi)), ⟨List.nodup_cons.2 ⟨fun hmem => ?_, h4.nd⟩, fun d hd => ?_⟩, hkn, h6⟩
  · rcases q3 k hk with hk | hk
    · exact h2 k hk
    · exact .inr (Nat.le_trans h3.ext.size hk)
  · obtain ⟨b', e, _, r2, _⟩ := h4.is _ hmem
    have : bk = b' := by simpa [markD] using e
    have := heap_lt r2
    have := q4.lo
    omega
  · rcases List.mem_cons.1 hd with rfl | hd
    · exact ⟨bk, rfl, Nat.le_trans h3.ext.size q4.lo, q4.is, q4.no⟩
    · obtain ⟨b', rfl, r1, r2, r3⟩ := h4.is d hd
      refine ⟨b', rfl, r1, (q2.same b' (heap_lt r2) r3).1.trans r2, fun hO => ?_⟩
      rcases q3 b' hO with hO | hO
      · exact r3 hO
      · exact absurd (heap_lt r2) (Nat.not_lt.2 hO)
 refine range_sem hE h1.J hg hcall (Ok := OkU U) (Done := DoneU U) (G := fun _ => False) (O := OA) (m := m) (fun k hk => hk.elim) (fun m1 w1 hs1 hj => hit m1 w1 (B.Kn.mono _ _ _ _ h5 hs1.ext) hj) (fun pre x hok => by obtain ⟨_, _, _, _, _, rfl⟩ := hok.snoc; rfl)
  (fun pre OA' m' w' => ∃ p post On g', U = p ++ post ∧ pre = p.map rv ∧ Inv p ∧ Now E n B.D On m' S0 a w' ∧ Beside E.K b g' (bsOf p) On OA' m' w' ∧ B.Kn.P m' w')
  (fun pre x a1 OA' m' w' => ∃ p v post On g', U = p ++ v :: post ∧ pre = p.map rv ∧ x = rv v ∧ Inv p ∧ Now E n [] On m' (S1 v) a1 w' ∧ Beside E.K b g' (bsOf p) On OA' m' w' ∧ B.Kn.P m' w' ∧ KeepT W a.tmps a1.tmps)
  (fun c _ OA' m' w' => ∃ On g' bs2 st2, c = .ret ∧ Jr st2 ∧ Now E n B.D On m' st2 a w' ∧ Beside E.K b g' bs2 On OA' m' w' ∧ B.Kn.P m' w')
  ?HJ ?HJ1 ?HJ1w ?HJx ⟨[], U, O, g, rfl, rfl, hi0, h1.le h0, hb0 ▸ hb, h5⟩ ?assign ?body ?done ?stop
 case HJ =>
  intro pre
  refine ⟨?_, ?_⟩
  · rintro OA' m1 w1 S m2 w2 ⟨p, post, On, g', e1, e2, hi, hn, hbs, hk⟩ hs hS hJ
    exact ⟨p, post, On, g', e1, e2, hi, hn.other hs (fun k hk => hS k ((hbs.all k).2 (.inl hk))) hJ, hbs.stab hs hS, B.Kn.mono _ _ _ _ hk hs.ext⟩
  · rintro OA' m1 w1 ⟨p, post, On, g', e1, e2, hi, hn, hbs, hk⟩
    exact hbs.lt (fun k hk => ⟨hn.lt k hk, hn.K k hk⟩)
 case HJ1 =>
  intro pre x a1
  refine ⟨?_, ?_⟩
  · rintro OA' m1 w1 S m2 w2 ⟨p, v, post, On, g', e1, e2, e3, hi, hn, hbs, hk, hkt⟩ hs hS hJ
    exact ⟨p, v, post, On, g', e1, e2, e3, hi, hn.other hs (fun k hk => hS k ((hbs.all k).2 (.inl hk))) hJ, hbs.stab hs hS, B.Kn.mono _ _ _ _ hk hs.ext, hkt⟩
  · rintro OA' m1 w1 ⟨p, v, post, On, g', e1, e2, e3, hi, hn, hbs, hk, hkt⟩
    exact hbs.lt (fun k hk => ⟨hn.lt k hk, hn.K k hk⟩)
 case HJ1w =>
  rintro pre x a1 OA' m1 w1 ⟨p, v, post, On, g', e1, e2, e3, hi, hn, _⟩
  exact hn.J
 case HJx =>
  intro c pre
  refine ⟨?_, ?_⟩
  · rintro OA' m1 w1 S m2 w2 ⟨On, g', bs2, st2, e1, hj, hn, hbs, hk⟩ hs hS hJ
    exact ⟨On, g', bs2, st2, e1, hj, hn.other hs (fun k hk => hS k ((hbs.all k).2 (.inl hk))) hJ, hbs.stab hs hS, B.Kn.mono _ _ _ _ hk hs.ext⟩
  · rintro OA' m1 w1 ⟨On, g', bs2, st2, e1, hj, hn, hbs, hk⟩
    exact hbs.lt (fun k hk => ⟨hn.lt k hk, hn.K k hk⟩)
 case assign =>
  rintro pre x l O1 m1 w1 vs hok ⟨p, post, On, g', e1, rfl, hinv, hn, hbs, hkn⟩ hvs
  obtain ⟨p', v, post', e2, e3, rfl⟩ := hok.snoc
  obtain rfl : p = p' := map_inj' (fun _ _ => rv_inj) e3
  obtain ⟨hn0, hk0⟩ := putL_now (W := W) (ps := [d]) (hn.marks (a' := { a with defers := [] }) (D' := []) rfl rfl) hvs (fun q hq => by rw [List.mem_singleton.1 hq]; exact hd)
  have := hassign p v post' l ⟨[], B.Kn, W, a.tmps, O1, m1, w1⟩ _ w1 g' e2 hinv rfl rfl rfl rfl ⟨m1, On, O1, hn0, hbs, fun k hk => .inl hk, Step.refl _ _ _, ⟨List.nodup_nil, fun d hd => by cases hd⟩, hkn, hk0⟩
  refine wpIn_mono this ?_
  rintro e a2 w2 ⟨rfl, g2, m2, On2, O2, q1, qb, q2, q3, _, q5, q6⟩
  exact ⟨rfl, m2, O2, q3, q2, p, v, post', On2, g2, e2, rfl, rfl, hinv, q1, qb, q5, q6⟩
 case body =>
  rintro pre x l a1 O1 m1 w1 hok ⟨p, v, post, On, g', e1, rfl, rfl, hinv, hn, hbs, hkn, hk0⟩
  have := hbody p v post l ⟨[], B.Kn, W, a.tmps, O1, m1, w1⟩ a1 w1 g' e1 hinv rfl rfl rfl rfl ⟨m1, On, O1, hn, hbs, fun k hk => .inl hk, Step.refl _ _ _, ⟨List.nodup_nil, fun d hd => by cases hd⟩, hkn, hk0⟩
  refine wpIn_mono this ?_
  rintro e a2 w2 ⟨g2, bs2, st', ⟨m2, On2, O2, q1, qb, q2, q3, _, q5, q6⟩, hend⟩
  have hbk := q1.back (a' := a) (D' := B.D) (W := W) q6 hz0 hd0
  refine ⟨m2, O2, q3, q2, q1.J, ?_⟩
  cases e with
  | normal =>
    obtain ⟨r1, rfl, r3⟩ := hend
    exact ⟨p ++ [v], post, On2, g2, by rw [e1, List.append_assoc]; rfl, by rw [List.map_append]; rfl, r1, hbk.le r3, qb, q5⟩
  | ret => exact ⟨On2, g2, bs2, _, rfl, hend, hbk, qb, q5⟩
  | exit id => exact hend.elim
  | goto t => exact hend.elim
  | panic ch => exact hend.elim
  | outgrown => exact hend.elim
 case done =>
  rintro xs OA' m' w' bk hD ⟨p, post, On, g', e1, e2, hinv, hn, hbs, hkn⟩ _ q2 q3 q4
  obtain rfl : xs = U.map rv := hD
  obtain rfl : U = p := map_inj' (fun _ _ => rv_inj) e2
  exact hdone bk g' _ w' hinv (fin hn hbs hkn q2 q3 q4)
 case stop =>
  rintro c pre OA' m' w' bk ⟨On, g', bs2, st2, rfl, hj, hn, hbs, hkn⟩ _ q2 q3 q4
  exact wpIn_ret (hstop st2 bk g' bs2 _ w' hj (fin hn hbs hkn q2 q3 q4))
end
end Go.Proofs.YtfngpfnbhafmlaaGreatDoor
namespace Go.Proofs.YtfngpfnbhafmlaaGreatDoor
open Go Go.RowKit
set_option linter.unusedSimpArgs false
theorem catL_pre (p post : List T3) : (catL p).size ≤ (catL (p ++ post)).size := by
 have key : ∀ (l : List T3) (t : ByteArray), t.size ≤ (l.foldl (fun t x => t ++ showB x.1 x.2.1 x.2.2) t).size := by
  intro l
  induction l with
  | nil => intro t; exact Nat.le_refl _
  | cons x l ih =>
    intro t
    have h1 := ih (t ++ showB x.1 x.2.1 x.2.2)
    rw [append_size] at h1
    rw [List.foldl_cons]
    omega
 unfold catL
 rw [List.foldl_append]
 exact key _ _
theorem app_bytes (a b : ByteArray) : (a ++ b).data.toList = a.data.toList ++ b.data.toList := by
 simp
theorem OneB.bld {E : Env} {n : Nat} {B : Bs} {b : Nat} {g : Option Nat} {bs : List UInt8} {st : St} {a : Act} {w : World} (h : OneB E n B b g bs st a w) : BldAt w b g bs := by
 obtain ⟨m, O, OA, _, hb, _⟩ := h
 exact hb.bld
theorem text_over {s : ByteArray} (h : 200 < s.size) : textW s = (4, 1, ⟨#[]⟩) := if_neg (by omega)
set_option maxHeartbeats 16000000 in
set_option maxRecDepth 100000 in
theorem gconcat_fun {w0 : World} {fv : Value} {nl : Bool} {sz : Nat} {l : List RW} (hf : EachAt w0 fv nl sz l) : Fun (envW w0 []) 103 (tabF [([.x fv], tv (textW (catL (usL (allL l)))))]) := by
 obtain ⟨hok, q, rfl, hq⟩ := hf
 have hin := usAll_in hok
 have hE : EnvOK (envW w0 [(92, FShowV), (56, FFault), (131, FTextG)]) := envOK_W ⟨fun_W w0 showV_fun, fun_W w0 gfault_fun, fun_W w0 gtext_fun, trivial⟩
 have hm : (envW w0 [(92, FShowV), (56, FFault), (131, FTextG)]).P.follows .mixedOrders = true := by kernel_rfl
 refine fun_of_each (l := [(92, FShowV), (56, FFault), (131, FTextG)]) hE hq Tryz.func103 rfl (fun a w => Tryz.call103 a w) Tryz.ntmps103 (by decide) (by decide) (k := 1) ?_
 intro us r hF
 replace hF := tabF_out hF
 simp only [List.mem_cons, List.not_mem_nil, or_false, Prod.mk.injEq] at hF
 obtain ⟨rfl, rfl⟩ := hF
 refine ⟨rfl, (by intro x hx; simp only [List.mem_cons, List.not_mem_nil, or_false] at hx; rcases hx with rfl; exact exact_x _), exact_tv _, fun w a h1 => ?_⟩
 refine wpIn_seq (one_T hE hm [(0, .x (.func (.func 96) #[] #[q])), (2, .ptr 2 0)] [(2, [.x (.int .i64 0), .x (.int .i64 0), .x (.string ⟨#[]⟩)])] (by kernel_rfl) h1 (by simp +decide (maxDischargeDepth := 200) only [go_sem, Nat.reduceBEq] <;> (repeat' first | rfl | constructor)) ?_)
 clear h1 a
 intro a w1 h1
 refine wpIn_seq (wpIn_region ?_)
 refine oneB_alloc (i := 0) (rest := []) (d := 3) hE rfl rfl rfl rfl rfl (by decide) rfl h1 ?_
 clear h1 a w1
 intro b a w1 h1
 replace h1 := h1.le (st' := stOf [(0, .x (.func (.func 96) #[] #[q])), (2, .ptr 2 0), (3, .x (.pointer (some ⟨b, 0, none⟩)))] [(2, [.x (.int .i64 0), .x (.int .i64 0), .x (.string ⟨#[]⟩)])]) (le_stOf (by simp +decide (maxDischargeDepth := 200) only [go_sem, Nat.reduceBEq] <;> (repeat' first | rfl | constructor)) (by simp +decide (maxDischargeDepth := 200) only [go_sem, Nat.reduceBEq] <;> (repeat' first | rfl | constructor)))
 refine wpIn_seq (wpIn_seq (oneB_T hE hm [(5, .x (.func (.func 96) #[] #[q])), (2, .ptr 2 0), (3, .x (.pointer (some ⟨b, 0, none⟩)))] [(2, [.x (.int .i64 0), .x (.int .i64 0), .x (.string ⟨#[]⟩)])] (by kernel_rfl) (by kernel_rfl) h1 (by simp +decide (maxDischargeDepth := 200) only [go_sem, Nat.reduceBEq] <;> (repeat' first | rfl | constructor)) ?_))
 clear h1 a w1
 intro a w1 h1
 refine wpIn_block ?_
 refine oneB_range (gf := 96) (lb := #[q]) hE h1 (fun i => i == 4 || (i == 6 || (i == 7 || (i == 8 || (i == 9 || (i == 10 || (i == 11 || i == 12))))))) (oneB_val h1 (by simp only [go_sem, Nat.reduceEqDiff, if_false, if_true, tOf, stOf])) (fun a w => Tryz.call96 a w) (U := usL (allL l)) (fun m w hk _ => each_iter hok ⟨hk, trivial⟩) ⟨rfl, by decide⟩
  (fun p => (catL p).size ≤ 200) (fun p => (catL p).data.toList) (stOf [(2, .ptr 2 0), (3, .x (.pointer (some ⟨b, 0, none⟩)))] [(2, [.x (.int .i64 0), .x (.int .i64 0), .x (.string ⟨#[]⟩)])]) (fun v => stOf [(2, .ptr 2 0), (3, .x (.pointer (some ⟨b, 0, none⟩))), (4, .ptr 4 0)] [(4, [.x (.int .i64 v.1), .x (.int .i64 v.2.1), .x (.string v.2.2)]), (2, [.x (.int .i64 0), .x (.int .i64 0), .x (.string ⟨#[]⟩)])]) (fun st => Le (stOf [(2, .ptr 2 0)] [(2, [.x (.int .i64 4), .x (.int .i64 1), .x (.string ⟨#[]⟩)])]) st ∧ textW (catL (usL (allL l))) = (4, 1, ⟨#[]⟩)) (Nat.zero_le _) rfl ?h0 ?assign ?body ?done ?stop
 case h0 => exact le_stOf (by simp +decide (maxDischargeDepth := 200) only [go_sem, Nat.reduceBEq] <;> (repeat' first | rfl | constructor)) (by simp +decide (maxDischargeDepth := 200) only [go_sem, Nat.reduceBEq] <;> (repeat' first | rfl | constructor))
 case assign =>
  intro pre v post l1 B' a1 w1 g' hU hinv _ _ hW _ ho
  refine oneB_T hE hm [(2, .ptr 2 0), (3, .x (.pointer (some ⟨b, 0, none⟩))), (4, .ptr 4 0)] [(4, [.x (.int .i64 v.1), .x (.int .i64 v.2.1), .x (.string v.2.2)]), (2, [.x (.int .i64 0), .x (.int .i64 0), .x (.string ⟨#[]⟩)])] (by kernel_rfl) (by rw [hW]; kernel_rfl) ho (by simp +decide (maxDischargeDepth := 200) only [go_sem, Nat.reduceBEq] <;> (repeat' first | rfl | constructor)) (fun a2 w2 h2 => ⟨rfl, g', h2⟩)
 case body =>
  intro pre v post l1 B' a1 w1 g' hU hinv _ _ hW _ h1
  obtain ⟨k, n, s⟩ := v
  obtain ⟨hp, hn⟩ := pre_in hU hin
  simp only at hn h1
  have hsz := showB_size (k := k) (s := s) hn
  refine wpIn_block ?_
  refine wpIn_seq (wpIn_region ?_)
  refine oneB_S hE 0 2 [(2, .ptr 2 0), (3, .x (.pointer (some ⟨b, 0, none⟩))), (8, .x (.string (showB k n s)))] [(2, [.x (.int .i64 0), .x (.int .i64 0), .x (.string ⟨#[]⟩)])] [2] (by decide) (by kernel_rfl) (by rw [hW]; kernel_rfl) h1 (by simp +decide (maxDischargeDepth := 200) only [go_sem, Nat.reduceBEq, FShowV, hn] <;> (repeat' first | rfl | constructor)) ?_
  clear h1 a1 w1
  intro a1 w1 h1
  have e3 : a1.eval (.tmp 3) = .pointer (some ⟨b, 0, none⟩) := oneB_val h1 (by simp only [go_sem, Nat.reduceEqDiff, if_false, if_true, tOf, stOf])
  have e8 : a1.eval (.tmp 8) = .string (showB k n s) := oneB_val h1 (by simp only [go_sem, Nat.reduceEqDiff, if_false, if_true, tOf, stOf])
  have hcat : (catL (pre ++ [(k, n, s)])).data.toList = (catL pre).data.toList ++ (showB k n s).data.toList := by rw [catL_snoc, app_bytes]
  have hl0 : (catL pre).data.toList.length = (catL pre).size := rfl
  refine wp_call (i := 2) (rest := []) (d := 9) (f := 129) rfl rfl rfl rfl (fun a w => Tryz.call129 a w) (R := fun e w' => e = .returned (.tuple #[.int .i64 (showB k n s).size, .nilIface]) ∧ ∃ g2, BldAt w' b g2 ((catL pre).data.toList ++ (showB k n s).data.toList) ∧ (∀ x, g2 = some x → g' = some x ∨ w1.heap.size ≤ x) ∧ Chg b g' w1 w') ?_ ?_
  · rw [show Array.map a1.eval #[.tmp 3, .tmp 8] = #[.pointer (some ⟨b, 0, none⟩), .string (showB k n s)] from by simp [e3, e8]]
    exact bld_write h1.bld (showB k n s) (by rw [hl0]; omega)
  rintro e w2 ⟨rfl, g2, hb2, hnew, hchg⟩
  refine ⟨_, rfl, ?_⟩
  have h2 := (h1.turn hE (d := 9) (by decide) (v := .tuple #[.int .i64 (showB k n s).size, .nilIface]) (u := .undef) (fun m => .undef _) (by rw [hW]; rfl) hchg hb2 hnew).le (st' := stOf [(2, .ptr 2 0), (3, .x (.pointer (some ⟨b, 0, none⟩)))] [(2, [.x (.int .i64 0), .x (.int .i64 0), .x (.string ⟨#[]⟩)])]) (le_stOf (by simp +decide (maxDischargeDepth := 200) only [go_sem, Nat.reduceBEq] <;> (repeat' first | rfl | constructor)) (by simp +decide (maxDischargeDepth := 200) only [go_sem, Nat.reduceBEq] <;> (repeat' first | rfl | constructor)))
  rw [← hcat] at h2
  generalize a1.put (some 9) (.tuple #[.int .i64 (showB k n s).size, .nilIface]) = a2 at h2
  clear h1 hb2 hnew hchg e3 e8
  have e3 : a2.eval (.tmp 3) = .pointer (some ⟨b, 0, none⟩) := oneB_val h2 (by simp only [go_sem, Nat.reduceEqDiff, if_false, if_true, tOf, stOf])
  refine wpIn_seq (wpIn_region ?_)
  refine wp_call (i := 0) (rest := [1]) (d := 10) (f := 130) rfl rfl rfl rfl (fun a w => Tryz.call130 a w) (R := fun e w' => e = .returned (.int .i64 (catL (pre ++ [(k, n, s)])).size) ∧ w' = w2) ?_ ?_
  · rw [show Array.map a2.eval #[.tmp 3] = #[.pointer (some ⟨b, 0, none⟩)] from by simp [e3]]
    exact bld_len h2.bld
  rintro e w3 ⟨rfl, rfl⟩
  refine ⟨_, rfl, ?_⟩
  have h3 := (h2.turn hE (d := 10) (by decide) (v := .int .i64 (catL (pre ++ [(k, n, s)])).size) (u := .x (.int .i64 (catL (pre ++ [(k, n, s)])).size)) (fun m => .x _) (by rw [hW]; rfl) (Chg.refl _ _ _) h2.bld (fun k h => .inl h)).le (st' := stOf [(2, .ptr 2 0), (3, .x (.pointer (some ⟨b, 0, none⟩))), (10, .x (.int .i64 (catL (pre ++ [(k, n, s)])).size))] [(2, [.x (.int .i64 0), .x (.int .i64 0), .x (.string ⟨#[]⟩)])]) (le_stOf (by simp +decide (maxDischargeDepth := 200) only [go_sem, Nat.reduceBEq] <;> (repeat' first | rfl | constructor)) (by simp +decide (maxDischargeDepth := 200) only [go_sem, Nat.reduceBEq] <;> (repeat' first | rfl | constructor)))
  generalize a2.put (some 10) (.int .i64 (catL (pre ++ [(k, n, s)])).size) = a3 at h3
  clear h2 e3
  by_cases hov : 200 < (catL (pre ++ [(k, n, s)])).size
  · have d1 : decide ((200 : Int) < ((catL (pre ++ [(k, n, s)])).size : Int)) = true := decide_eq_true (by omega)
    have hall : textW (catL (usL (allL l))) = (4, 1, ⟨#[]⟩) := by
     refine text_over ?_
     have h4 := catL_pre (pre ++ [(k, n, s)]) post
     rw [show (pre ++ [(k, n, s)]) ++ post = usL (allL l) from by rw [hU, List.append_assoc]; rfl] at h4
     omega
    refine oneB_S hE 1 1 [(2, .ptr 2 0), (3, .x (.pointer (some ⟨b, 0, none⟩))), (11, .x (.bool true))] [(2, [.x (.int .i64 0), .x (.int .i64 0), .x (.string ⟨#[]⟩)])] [] (by decide) (by kernel_rfl) (by rw [hW]; kernel_rfl) h3 (by simp +decide (maxDischargeDepth := 200) only [go_sem, Nat.reduceBEq, d1] <;> (repeat' first | rfl | constructor)) ?_
    clear h3
    intro a4 w4 h4
    refine oneB_R hE hm [(2, .ptr 2 0)] [(2, [.x (.int .i64 4), .x (.int .i64 1), .x (.string ⟨#[]⟩)])] (by kernel_rfl) (by rw [hW]; kernel_rfl) h4 (by simp +decide (maxDischargeDepth := 200) only [go_sem, Nat.reduceBEq, FFault] <;> (repeat' first | rfl | constructor)) ?_
    intro a5 w5 h5
    exact ⟨g2, _, _, h5, le_stOf (by simp +decide (maxDischargeDepth := 200) only [go_sem, Nat.reduceBEq] <;> (repeat' first | rfl | constructor)) (by simp +decide (maxDischargeDepth := 200) only [go_sem, Nat.reduceBEq] <;> (repeat' first | rfl | constructor)), hall⟩
  · have d1 : decide ((200 : Int) < ((catL (pre ++ [(k, n, s)])).size : Int)) = false := decide_eq_false (by omega)
    refine oneB_S hE 1 1 [(2, .ptr 2 0), (3, .x (.pointer (some ⟨b, 0, none⟩))), (11, .x (.bool false))] [(2, [.x (.int .i64 0), .x (.int .i64 0), .x (.string ⟨#[]⟩)])] [] (by decide) (by kernel_rfl) (by rw [hW]; kernel_rfl) h3 (by simp +decide (maxDischargeDepth := 200) only [go_sem, Nat.reduceBEq, d1] <;> (repeat' first | rfl | constructor)) ?_
    clear h3
    intro a4 w4 h4
    refine oneB_T hE hm [(2, .ptr 2 0), (3, .x (.pointer (some ⟨b, 0, none⟩)))] [(2, [.x (.int .i64 0), .x (.int .i64 0), .x (.string ⟨#[]⟩)])] (by kernel_rfl) (by rw [hW]; kernel_rfl) h4 (by simp +decide (maxDischargeDepth := 200) only [go_sem, Nat.reduceBEq] <;> (repeat' first | rfl | constructor)) ?_
    intro a5 w5 h5
    exact ⟨g2, _, _, h5, by omega, rfl, le_stOf (by simp +decide (maxDischargeDepth := 200) only [go_sem, Nat.reduceBEq] <;> (repeat' first | rfl | constructor)) (by simp +decide (maxDischargeDepth := 200) only [go_sem, Nat.reduceBEq] <;> (repeat' first | rfl | constructor))⟩
 case done =>
  intro bk g' a' w' hinv h3
  have e3 : a'.eval (.tmp 3) = .pointer (some ⟨b, 0, none⟩) := oneB_val h3 (by simp only [go_sem, Nat.reduceEqDiff, if_false, if_true, tOf, stOf])
  have hall : textW (catL (usL (allL l))) = (2, 0, catL (usL (allL l))) := if_pos hinv
  rw [hall]
  refine wpIn_seq (wpIn_region ?_)
  refine wp_call (E := envW w0 [(92, FShowV), (56, FFault), (131, FTextG)]) (i := 0) (rest := [1, 2]) (d := 13) (f := 132) rfl rfl rfl rfl (fun a w => Tryz.call132 a w) (R := fun e w2 => e = .returned (.string (catL (usL (allL l)))) ∧ Chg b g' w' w2) ?_ ?_
  · rw [show Array.map a'.eval #[.tmp 3] = #[.pointer (some ⟨b, 0, none⟩)] from by simp [e3]]
    exact bld_string h3.bld
  rintro e w2 ⟨rfl, hchg⟩
  refine ⟨_, rfl, ?_⟩
  have h4 := (h3.fin hE (d := 13) (by decide) (v := .string (catL (usL (allL l)))) (u := .x (.string (catL (usL (allL l))))) (fun m => .x _) rfl hchg).le (st' := stOf [(2, .ptr 2 0), (13, .x (.string (catL (usL (allL l)))))] [(2, [.x (.int .i64 0), .x (.int .i64 0), .x (.string ⟨#[]⟩)])]) (le_stOf (by simp +decide (maxDischargeDepth := 200) only [go_sem, Nat.reduceBEq] <;> (repeat' first | rfl | constructor)) (by simp +decide (maxDischargeDepth := 200) only [go_sem, Nat.reduceBEq] <;> (repeat' first | rfl | constructor)))
  generalize a'.put (some 13) (.string (catL (usL (allL l)))) = a2 at h4
  refine one_S hE 1 2 [(2, .ptr 2 0)] [(2, [.x (.int .i64 2), .x (.int .i64 0), .x (.string (catL (usL (allL l))))])] [] (by decide) (by kernel_rfl) h4 (by simp +decide (maxDischargeDepth := 200) only [go_sem, Nat.reduceBEq, FTextG] <;> (repeat' first | rfl | constructor)) ?_
  intro a5 w5 h5
  exact wpIn_ret ⟨.inr rfl, _, _, _, _, _, h5, by simp +decide (maxDischargeDepth := 200) only [go_sem, Nat.reduceBEq, Tryz.results103]⟩
 case stop =>
  intro st2 bk g' bs2 a' w' ⟨hle, hall⟩ h3
  rw [hall]
  exact ⟨.inr rfl, _, _, _, _, _, (h3.le hle).forget, by simp +decide (maxDischargeDepth := 200) only [go_sem, Nat.reduceBEq, Tryz.results103]⟩
end Go.Proofs.YtfngpfnbhafmlaaGreatDoor

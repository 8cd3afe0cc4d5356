/- Package funcs: texts, and rows. -/
import Derived.Test.YtfngpfnbhafmlaaGreatDoorMO
import Derived.Test.YtfngpfnbhafmlaaGreatDoorMG
import Derived.Test.YtfngpfnbhafmlaaGreatDoorShelf
import Derived.Lib.IndexLaws
namespace Go.Proofs.YtfngpfnbhafmlaaGreatDoor
open Go Go.RowKit
set_option linter.unusedSimpArgs false
def FTurnG : List V → Option V
 | [.x (.string s), .x (.int .u8 97), .x (.int .u8 65)] => if s.size ≤ 1000000 then some (.x (.string (turnS true s))) else none
 | [.x (.string s), .x (.int .u8 65), .x (.int .u8 97)] => if s.size ≤ 1000000 then some (.x (.string (turnS false s))) else none
 | _ => none
theorem FTurnG_up {s : ByteArray} (h : s.size ≤ 1000000) : FTurnG [.x (.string s), .x (.int .u8 97), .x (.int .u8 65)] = some (.x (.string (turnS true s))) := if_pos h
theorem FTurnG_down {s : ByteArray} (h : s.size ≤ 1000000) : FTurnG [.x (.string s), .x (.int .u8 65), .x (.int .u8 97)] = some (.x (.string (turnS false s))) := if_pos h
def FIndexG : List V → Option V
 | [.x (.string b), .x (.string a)] => if b.size < 4294967281 then some (.x (.int .i64 (Lib.index b.data.toList a.data.toList))) else none
 | _ => none
theorem gindex_fun : FunV 135 FIndexG := by
 refine ⟨fun a w => Tryz.call135 a w, fun m w vs us r hF hd hr hj hg => ?_⟩
 unfold FIndexG at hF
 split at hF
 case h_2 => cases hF
 rename_i b a
 split at hF
 case isFalse => cases hF
 rename_i h
 cases hF
 obtain rfl := args_eq (xs := [.string b, .string a]) hr rfl
 have hj' : Glob w := hj
 obtain ⟨mx, hm⟩ := hj'.maxLen
 refine (Tryz.strings_Index b a mx w h hm).mono ?_
 rintro e w' ⟨rfl, rfl⟩
 exact ⟨_, m, rfl, .x _, Below.refl _ _, fun _ _ => rfl⟩
theorem minI_le (a b : Int) : minI a b ≤ a ∧ minI a b ≤ b ∧ (minI a b = a ∨ minI a b = b) := by
 unfold minI
 split <;> omega
theorem index_small (l a : List UInt8) : Lib.index l a ≤ (l.length : Int) := by
 induction l with
 | nil => unfold Lib.index; split <;> simp
 | cons b l ih =>
   unfold Lib.index
   simp only [List.length_cons]
   split
   · omega
   · split <;> omega
def midT (s : ByteArray) (p n : Int) : T3 := (2, 0, subV (subV s (minI (p - 1) s.size) s.size) 0 (minI n (subV s (minI (p - 1) s.size) s.size).size))
def midG (s : ByteArray) (a b : T3) : T3 := match fromE 1 a.1 a.2.1 a.2.2 with
 | some w => w
 | none => match fromE 0 b.1 b.2.1 b.2.2 with
   | some w => w
   | none => midT s a.2.1 b.2.1
def FMidG : List V → Option V
 | [.x (.string s), .agg [.x (.int .i64 k), .x (.int .i64 n), .x (.string t)], .agg [.x (.int .i64 k'), .x (.int .i64 n'), .x (.string t')]] => if s.size ≤ 200 ∧ inR n ∧ inR n' then some (tv (midG s (k, n, t) (k', n', t'))) else none
 | _ => none
theorem from_ge {least k n : Int} {s : ByteArray} (h : fromE least k n s = none) : least ≤ n := by
 unfold fromE at h
 split at h
 · cases h
 · split at h
   · cases h
   · omega
def sideT (name s : ByteArray) (n : Int) : T3 := if name = ⟨#[76, 69, 70, 84]⟩ then (2, 0, subV s 0 (minI n s.size)) else (2, 0, subV s ((s.size : Int) - minI n s.size) s.size)
def sideG (name s : ByteArray) (v : T3) : T3 := match fromE 0 v.1 v.2.1 v.2.2 with
 | some w => w
 | none => sideT name s v.2.1
def text0 (name s : ByteArray) : T3 := if name = ⟨#[76, 69, 78]⟩ then (1, (s.size : Int), ⟨#[]⟩) else if name = ⟨#[85, 80, 80, 69, 82]⟩ then (2, 0, turnS true s) else (2, 0, turnS false s)
def findG (s : ByteArray) (v : T3) : T3 := placeW (Lib.index (showB v.1 v.2.1 v.2.2).data.toList s.data.toList)
def FOfText : List V → Option V
 | [.x (.string name), .x (.string s), .sl _ _ [] none] => if s.size ≤ 200 ∧ (name = ⟨#[76, 69, 78]⟩ ∨ name = ⟨#[85, 80, 80, 69, 82]⟩ ∨ name = ⟨#[76, 79, 87, 69, 82]⟩) then some (tv (text0 name s)) else none
 | [.x (.string name), .x (.string s), .sl _ 3 [.agg [.x (.int .i64 k), .x (.int .i64 n), .x (.string t)]] none] => if s.size ≤ 200 ∧ inR n ∧ (name = ⟨#[70, 73, 78, 68]⟩ ∨ name = ⟨#[76, 69, 70, 84]⟩ ∨ name = ⟨#[82, 73, 71, 72, 84]⟩) then some (tv (if name = ⟨#[70, 73, 78, 68]⟩ then findG s (k, n, t) else sideG name s (k, n, t))) else none
 | [.x (.string name), .x (.string s), .sl _ 3 [.agg [.x (.int .i64 k), .x (.int .i64 n), .x (.string t)], .agg [.x (.int .i64 k'), .x (.int .i64 n'), .x (.string t')]] none] => if s.size ≤ 200 ∧ inR n ∧ inR n' ∧ name = ⟨#[77, 73, 68]⟩ then some (tv (midG s (k, n, t) (k', n', t'))) else none
 | _ => none
theorem FOfText_0 {name s : ByteArray} {nl : Bool} {sz : Nat} (h : s.size ≤ 200) (hn : name = ⟨#[76, 69, 78]⟩ ∨ name = ⟨#[85, 80, 80, 69, 82]⟩ ∨ name = ⟨#[76, 79, 87, 69, 82]⟩) : FOfText [.x (.string name), .x (.string s), .sl nl sz [] none] = some (tv (text0 name s)) := if_pos ⟨h, hn⟩
theorem FOfText_1 {name s : ByteArray} {nl : Bool} {k n : Int} {t : ByteArray} (h : s.size ≤ 200) (hi : inR n) (hn : name = ⟨#[70, 73, 78, 68]⟩ ∨ name = ⟨#[76, 69, 70, 84]⟩ ∨ name = ⟨#[82, 73, 71, 72, 84]⟩) : FOfText [.x (.string name), .x (.string s), .sl nl 3 [.agg [.x (.int .i64 k), .x (.int .i64 n), .x (.string t)]] none] = some (tv (if name = ⟨#[70, 73, 78, 68]⟩ then findG s (k, n, t) else sideG name s (k, n, t))) := if_pos ⟨h, hi, hn⟩
theorem FOfText_2 {name s : ByteArray} {nl : Bool} {k n : Int} {t : ByteArray} {k' n' : Int} {t' : ByteArray} (h : s.size ≤ 200) (hi : inR n) (hi' : inR n') (hn : name = ⟨#[77, 73, 68]⟩) : FOfText [.x (.string name), .x (.string s), .sl nl 3 [.agg [.x (.int .i64 k), .x (.int .i64 n), .x (.string t)], .agg [.x (.int .i64 k'), .x (.int .i64 n'), .x (.string t')]] none] = some (tv (midG s (k, n, t) (k', n', t'))) := if_pos ⟨h, hi, hi', hn⟩
def chooseG (v : T3) (l : List T3) : T3 := match numE v.1 v.2.1 v.2.2 with
 | some w => w
 | none => if v.2.1 < 1 ∨ (l.length : Int) < v.2.1 then (4, 7, ⟨#[]⟩) else l.getD (v.2.1 - 1).toNat (0, 0, ⟨#[]⟩)
def encVR (p : T3 × RW) : List V := [tv p.1, rwV p.2]
theorem encVR_inj (p q : T3 × RW) (e : encVR p = encVR q) : p = q := by
 obtain ⟨a, b⟩ := p
 obtain ⟨a', b'⟩ := q
 simp only [encVR, List.cons.injEq, and_true] at e
 rw [tv_inj e.1, rwV_inj _ _ e.2]
open Classical in
noncomputable def GChoose (p : T3 × RW) : Option V := if okRw p.2 ∧ inR p.1.2.1 ∧ ∀ v ∈ p.2.2.2, v.2.2.size ≤ 281474976710656 then some (tv (chooseG p.1 p.2.2.2)) else none
open Classical in
theorem GChoose_of {k n : Int} {s : ByteArray} {nl : Bool} {sz : Nat} {l : List T3} (h : okRw (nl, sz, l)) (hn : inR n) (hl : ∀ v ∈ l, v.2.2.size ≤ 281474976710656) : FE encVR GChoose [.agg [.x (.int .i64 k), .x (.int .i64 n), .x (.string s)], .sl nl sz (l.map tv) none] = some (tv (chooseG (k, n, s) l)) := (FE_at encVR_inj _ ((k, n, s), nl, sz, l)).trans (if_pos ⟨h, hn, hl⟩)
def usL0 (l : List T3) : List T3 := l.map plainT
def onesC (l : List RW) (least most : Int) : Bool := (!decide ((l.length : Int) < least) && !(!decide (most = -1) && decide (most < (l.length : Int)))) && l.all fun r => decide (r.2.2.length = 1)
def onesG (l : List RW) (least most : Int) : V := if onesC l least most = true then .tup [freshR (usL0 (allL l)), .x (.bool true)] else .tup [.sl true 0 [] none, .x (.bool false)]
def encA3 (p : AW × Int × Int) : List V := [awV p.1, .x (.int .i64 p.2.1), .x (.int .i64 p.2.2)]
theorem encA3_inj (p q : AW × Int × Int) (e : encA3 p = encA3 q) : p = q := by
 obtain ⟨a, b, c⟩ := p
 obtain ⟨a', b', c'⟩ := q
 simp only [encA3, List.cons.injEq, V.x.injEq, Value.int.injEq, true_and, and_true] at e
 obtain ⟨h1, h2, h3⟩ := e
 rw [awV_inj _ _ h1, h2, h3]
open Classical in
noncomputable def GOnesG (p : AW × Int × Int) : Option V := if okAw p.1 then some (onesG p.1.2.2 p.2.1 p.2.2) else none
open Classical in
theorem GOnesG_of {nl : Bool} {sz : Nat} {l : List RW} {a b : Int} (h : okAw (nl, sz, l)) : FE encA3 GOnesG [.sl nl sz (l.map rwV) none, .x (.int .i64 a), .x (.int .i64 b)] = some (onesG l a b) := (FE_at encA3_inj _ ((nl, sz, l), a, b)).trans (if_pos h)
def mU (v : T3) : Nat → List T3 → T3
 | _, [] => (4, 7, ⟨#[]⟩)
 | i, x :: l => if cmpV (plainT x).1 (plainT x).2.1 (plainT x).2.2 v.1 v.2.1 v.2.2 = 0 then (1, ((i : Nat) : Int) + 1, ⟨#[]⟩) else mU v (i + 1) l
def matchG (l : List RW) : T3 := match l with
 | [r0, r1] => (match r0.2.2 with
   | [v0] => if (plainT v0).1 = 4 then plainT v0 else mU (plainT v0) 0 r1.2.2
   | _ => (4, 6, ⟨#[]⟩))
 | _ => (4, 6, ⟨#[]⟩)
open Classical in
noncomputable def GMatch (p : AW) : Option V := if okAw p then some (tv (matchG p.2.2)) else none
open Classical in
theorem GMatch_of {nl : Bool} {sz : Nat} {l : List RW} (h : okAw (nl, sz, l)) : FE encAw GMatch [.sl nl sz (l.map rwV) none] = some (tv (matchG l)) := (FE_at encAw_inj _ (nl, sz, l)).trans (if_pos h)
set_option maxHeartbeats 8000000 in
set_option maxRecDepth 100000 in
theorem gturned_fun : FunV 134 FTurnG := by
 refine fun_of_run (E := envM [] (fun d => d == 11 || d == 38)) (k := 3) (envOK_M _ _ trivial) (by kernel_rfl) Tryz.func134 rfl (fun a w => Tryz.call134 a w) Tryz.ntmps134 (by kernel_rfl) (by decide) (by decide) ?_
 intro us r hF hdat
 unfold FTurnG at hF
 split at hF
 · rename_i s
   split at hF
   case isFalse => cases hF
   rename_i hs
   cases hF
   refine ⟨rfl, ?_⟩
   simp +decide (maxDischargeDepth := 200) only [go_sem, turnI_zero, ← bytesV_byV, Tryz.results134]
   refine loop_of (X := {i : Nat // i ≤ s.size}) (fun i => [(1, .x (.int .u8 97)), (2, .x (.int .u8 65)), (7, .row 11 1 s.size), (12, .row 11 1 s.size), (13, .x (.int .i64 (s.size : Int))), (14, .x (.int .i64 ((i.1 : Nat) : Int)))]) (fun i => [(11, turnI true s.data.toList i.1)]) (fun i => s.size - i.1) ⟨0, by omega⟩ ?_ ?_ (fun ⟨i, hl⟩ => ?_)
   · simp +decide (maxDischargeDepth := 200) only [go_sem, Int.natCast_zero] <;> (repeat' first | rfl | constructor)
   · simp +decide (maxDischargeDepth := 200) only [go_sem, turnI_zero, bytesV_byV] <;> (repeat' first | rfl | constructor)
   have hsz : s.data.toList.length = s.size := Array.length_toList
   by_cases hi : i < s.size
   · have c1 : decide ((i : Int) < (s.size : Int)) = true := decide_eq_true (by omega)
     have c2 : (0 : Int) ≤ (i : Int) := by omega
     have c3 : (i : Int) < (s.size : Int) := by omega
     have c4 := count_up (i := i) (by omega)
     have c7 : bWrap .u8 (97 + 26) = 123 := u8_wrap (by omega) (by omega)
     obtain ⟨b, hb⟩ : ∃ b, s.data.toList[i]? = some b := ⟨_, List.getElem?_eq_getElem (by omega)⟩
     have h1 := turnI_at (g := true) hb
     have h2 := turnI_put' (g := true) hb
     have h3 := turnI_len true s.data.toList i
     have h4 := turnI_same (g := true) hb
     have h5 : ((i : Nat) : Int).toNat * 1 + 1 ≤ (turnI true s.data.toList i).length := by rw [h3, hsz]; omega
     generalize turnI true s.data.toList i = CS at *
     by_cases k1 : 97 ≤ b ∧ b ≤ 122
     · have e : turnB true b = b - 32 := by unfold turnB; rw [if_pos rfl, if_pos k1]
       have hb1 := UInt8.le_iff_toNat_le.1 k1.1
       have hb2 := UInt8.le_iff_toNat_le.1 k1.2
       have e1 : (97 : UInt8).toNat = 97 := rfl
       have e2 : (122 : UInt8).toNat = 122 := rfl
       have d1 : decide ((97 : Int) ≤ (b.toNat : Int)) = true := decide_eq_true (by omega)
       have d2 : decide ((b.toNat : Int) < (123 : Int)) = true := decide_eq_true (by omega)
       have c5 : bWrap .u8 ((b.toNat : Int) - 97) = (b.toNat : Int) - 97 := u8_wrap (by omega) (by omega)
       have c6 : bWrap .u8 ((b.toNat : Int) - 97 + 65) = (((b - 32).toNat : Nat) : Int) := by rw [show (b.toNat : Int) - 97 + 65 = (b.toNat : Int) - 32 from by omega]; exact small_down k1
       rw [e] at h2
       simp +decide (maxDischargeDepth := 200) only [go_sem, c1, c2, c3, c4, c5, c6, c7, h1, h2, h5, d1, d2, Tryz.results134]
       refine ⟨⟨i + 1, by omega⟩, ?_, ?_, ?_⟩
       · simp +decide (maxDischargeDepth := 200) only [go_sem, h2]
       · simp +decide (maxDischargeDepth := 200) only [go_sem, h2]
       · simp only; omega
     · have d0 : (decide ((97 : Int) ≤ (b.toNat : Int)) && decide ((b.toNat : Int) ≤ (122 : Int))) = false := not_in k1
       have d1 : (decide ((97 : Int) ≤ (b.toNat : Int)) && decide ((b.toNat : Int) < (123 : Int))) = false := by
        rw [show decide ((b.toNat : Int) < (123 : Int)) = decide ((b.toNat : Int) ≤ (122 : Int)) from decide_eq_decide.2 (by omega)]
        exact d0
       have e : turnB true b = b := by unfold turnB; rw [if_pos rfl, if_neg k1]
       have h6 := h4 e
       by_cases k2 : (97 : Int) ≤ (b.toNat : Int)
       · have d2 := decide_eq_true k2
         rw [d2, Bool.true_and] at d1
         simp +decide (maxDischargeDepth := 200) only [go_sem, c1, c2, c3, c4, c7, h1, d1, d2, Tryz.results134]
         refine ⟨⟨i + 1, by omega⟩, ?_, ?_, ?_⟩
         · simp +decide (maxDischargeDepth := 200) only [go_sem, h6]
         · simp +decide (maxDischargeDepth := 200) only [go_sem, h6]
         · simp only; omega
       · have d2 := decide_eq_false k2
         simp +decide (maxDischargeDepth := 200) only [go_sem, c1, c2, c3, c4, c7, h1, d2, Tryz.results134]
         refine ⟨⟨i + 1, by omega⟩, ?_, ?_, ?_⟩
         · simp +decide (maxDischargeDepth := 200) only [go_sem, h6]
         · simp +decide (maxDischargeDepth := 200) only [go_sem, h6]
         · simp only; omega
   · have c1 : decide ((i : Int) < (s.size : Int)) = false := decide_eq_false (by omega)
     have h6 := turnI_end true s (i := i) (by omega)
     simp +decide (maxDischargeDepth := 200) only [go_sem, c1, h6, Tryz.results134]
     unfold turnS
     rw [← Array.toList_map, Array.toArray_toList]
 · rename_i s
   split at hF
   case isFalse => cases hF
   rename_i hs
   cases hF
   refine ⟨rfl, ?_⟩
   simp +decide (maxDischargeDepth := 200) only [go_sem, turnI_zero, ← bytesV_byV, Tryz.results134]
   refine loop_of (X := {i : Nat // i ≤ s.size}) (fun i => [(1, .x (.int .u8 65)), (2, .x (.int .u8 97)), (7, .row 11 1 s.size), (12, .row 11 1 s.size), (13, .x (.int .i64 (s.size : Int))), (14, .x (.int .i64 ((i.1 : Nat) : Int)))]) (fun i => [(11, turnI false s.data.toList i.1)]) (fun i => s.size - i.1) ⟨0, by omega⟩ ?_ ?_ (fun ⟨i, hl⟩ => ?_)
   · simp +decide (maxDischargeDepth := 200) only [go_sem, Int.natCast_zero] <;> (repeat' first | rfl | constructor)
   · simp +decide (maxDischargeDepth := 200) only [go_sem, turnI_zero, bytesV_byV] <;> (repeat' first | rfl | constructor)
   have hsz : s.data.toList.length = s.size := Array.length_toList
   by_cases hi : i < s.size
   · have c1 : decide ((i : Int) < (s.size : Int)) = true := decide_eq_true (by omega)
     have c2 : (0 : Int) ≤ (i : Int) := by omega
     have c3 : (i : Int) < (s.size : Int) := by omega
     have c4 := count_up (i := i) (by omega)
     have c7 : bWrap .u8 (65 + 26) = 91 := u8_wrap (by omega) (by omega)
     obtain ⟨b, hb⟩ : ∃ b, s.data.toList[i]? = some b := ⟨_, List.getElem?_eq_getElem (by omega)⟩
     have h1 := turnI_at (g := false) hb
     have h2 := turnI_put' (g := false) hb
     have h3 := turnI_len false s.data.toList i
     have h4 := turnI_same (g := false) hb
     have h5 : ((i : Nat) : Int).toNat * 1 + 1 ≤ (turnI false s.data.toList i).length := by rw [h3, hsz]; omega
     generalize turnI false s.data.toList i = CS at *
     by_cases k1 : 65 ≤ b ∧ b ≤ 90
     · have e : turnB false b = b + 32 := by unfold turnB; rw [if_neg (by decide), if_pos k1]
       have hb1 := UInt8.le_iff_toNat_le.1 k1.1
       have hb2 := UInt8.le_iff_toNat_le.1 k1.2
       have e1 : (65 : UInt8).toNat = 65 := rfl
       have e2 : (90 : UInt8).toNat = 90 := rfl
       have d1 : decide ((65 : Int) ≤ (b.toNat : Int)) = true := decide_eq_true (by omega)
       have d2 : decide ((b.toNat : Int) < (91 : Int)) = true := decide_eq_true (by omega)
       have c5 : bWrap .u8 ((b.toNat : Int) - 65) = (b.toNat : Int) - 65 := u8_wrap (by omega) (by omega)
       have c6 : bWrap .u8 ((b.toNat : Int) - 65 + 97) = (((b + 32).toNat : Nat) : Int) := by rw [show (b.toNat : Int) - 65 + 97 = (b.toNat : Int) + 32 from by omega]; exact great_up k1
       rw [e] at h2
       simp +decide (maxDischargeDepth := 200) only [go_sem, c1, c2, c3, c4, c5, c6, c7, h1, h2, h5, d1, d2, Tryz.results134]
       refine ⟨⟨i + 1, by omega⟩, ?_, ?_, ?_⟩
       · simp +decide (maxDischargeDepth := 200) only [go_sem, h2]
       · simp +decide (maxDischargeDepth := 200) only [go_sem, h2]
       · simp only; omega
     · have d0 : (decide ((65 : Int) ≤ (b.toNat : Int)) && decide ((b.toNat : Int) ≤ (90 : Int))) = false := not_in k1
       have d1 : (decide ((65 : Int) ≤ (b.toNat : Int)) && decide ((b.toNat : Int) < (91 : Int))) = false := by
        rw [show decide ((b.toNat : Int) < (91 : Int)) = decide ((b.toNat : Int) ≤ (90 : Int)) from decide_eq_decide.2 (by omega)]
        exact d0
       have e : turnB false b = b := by unfold turnB; rw [if_neg (by decide), if_neg k1]
       have h6 := h4 e
       by_cases k2 : (65 : Int) ≤ (b.toNat : Int)
       · have d2 := decide_eq_true k2
         rw [d2, Bool.true_and] at d1
         simp +decide (maxDischargeDepth := 200) only [go_sem, c1, c2, c3, c4, c7, h1, d1, d2, Tryz.results134]
         refine ⟨⟨i + 1, by omega⟩, ?_, ?_, ?_⟩
         · simp +decide (maxDischargeDepth := 200) only [go_sem, h6]
         · simp +decide (maxDischargeDepth := 200) only [go_sem, h6]
         · simp only; omega
       · have d2 := decide_eq_false k2
         simp +decide (maxDischargeDepth := 200) only [go_sem, c1, c2, c3, c4, c7, h1, d2, Tryz.results134]
         refine ⟨⟨i + 1, by omega⟩, ?_, ?_, ?_⟩
         · simp +decide (maxDischargeDepth := 200) only [go_sem, h6]
         · simp +decide (maxDischargeDepth := 200) only [go_sem, h6]
         · simp only; omega
   · have c1 : decide ((i : Int) < (s.size : Int)) = false := decide_eq_false (by omega)
     have h6 := turnI_end false s (i := i) (by omega)
     simp +decide (maxDischargeDepth := 200) only [go_sem, c1, h6, Tryz.results134]
     unfold turnS
     rw [← Array.toList_map, Array.toArray_toList]
 · cases hF
set_option maxRecDepth 100000 in
theorem gmid_fun : FunV 136 FMidG := by
 refine fun_of_run (E := envOf [(137, FFrom), (131, FTextG)]) (k := 3) (envOK_of _ ⟨gfrom_fun, gtext_fun, trivial⟩) (by kernel_rfl) Tryz.func136 rfl (fun a w => Tryz.call136 a w) Tryz.ntmps136 (by kernel_rfl) (by decide) (by decide) ?_
 intro us r hF hdat
 unfold FMidG at hF
 split at hF
 case h_2 => cases hF
 rename_i s k n t k' n' t'
 split at hF
 case isFalse => cases hF
 rename_i h
 obtain ⟨hs, hn, hn'⟩ := h
 cases hF
 refine ⟨rfl, ?_⟩
 cases hE : fromE 1 k n t with
 | some w =>
   obtain ⟨wk, wn, ws⟩ := w
   have eF := FFrom_no hE
   have e : midG s (k, n, t) (k', n', t') = (wk, wn, ws) := by unfold midG; rw [hE]
   rw [e]
   simp +decide (maxDischargeDepth := 200) only [go_sem, eF, Tryz.results136]
 | none =>
   have eF := FFrom_yes hE
   cases hE2 : fromE 0 k' n' t' with
   | some w =>
     obtain ⟨wk, wn, ws⟩ := w
     have eF2 := FFrom_no hE2
     have e : midG s (k, n, t) (k', n', t') = (wk, wn, ws) := by unfold midG; rw [hE, hE2]
     rw [e]
     simp +decide (maxDischargeDepth := 200) only [go_sem, eF, eF2, Tryz.results136]
   | none =>
     have eF2 := FFrom_yes hE2
     have g1 := from_ge hE
     have g2 := from_ge hE2
     have e : midG s (k, n, t) (k', n', t') = midT s n n' := by unfold midG; rw [hE, hE2]
     rw [e]
     unfold midT
     have w1 : bWrap .i64 (n - 1) = n - 1 := bwrap_of (by unfold inR at *; omega)
     obtain ⟨m1, m2, m3⟩ := minI_le (n - 1) (s.size : Int)
     have b0 : 0 ≤ minI (n - 1) (s.size : Int) := by omega
     have b1 : minI (n - 1) (s.size : Int) ≤ (s.size : Int) := m2
     generalize hp0 : minI (n - 1) (s.size : Int) = p0 at *
     generalize hr : subV s p0 (s.size : Int) = rest
     obtain ⟨m4, m5, m6⟩ := minI_le n' (rest.size : Int)
     have b2 : 0 ≤ minI n' (rest.size : Int) := by omega
     generalize hp1 : minI n' (rest.size : Int) = p1 at *
     simp +decide (maxDischargeDepth := 200) only [go_sem, eF, eF2, w1, hp0, b0, b1, hr, hp1, b2, m5, FTextG, Tryz.results136]
set_option maxHeartbeats 8000000 in
set_option maxRecDepth 100000 in
theorem goftext_fun : FunV 111 FOfText := by
 refine fun_of_run (E := envOf [(49, FNumber), (134, FTurnG), (131, FTextG), (92, FShowV), (135, FIndexG), (112, FPlaceG), (136, FMidG), (137, FFrom)]) (k := 3) (envOK_of _ ⟨gnumber_fun, gturned_fun, gtext_fun, showV_fun, gindex_fun, gplace_fun, gmid_fun, gfrom_fun, trivial⟩) (by kernel_rfl) Tryz.func111 rfl (fun a w => Tryz.call111 a w) Tryz.ntmps111 (by kernel_rfl) (by decide) (by decide) ?_
 intro us r hF hdat
 clear hdat
 unfold FOfText at hF
 split at hF
 · rename_i name s nl sz
   split at hF
   case isFalse => cases hF
   rename_i h
   cases hF
   obtain ⟨hs, hn⟩ := h
   have hs1 : s.size ≤ 1000000 := by omega
   have t1 := FTurnG_up hs1
   have t2 := FTurnG_down hs1
   refine ⟨rfl, ?_⟩
   rcases hn with rfl | rfl | rfl
   · have e : text0 ⟨#[76, 69, 78]⟩ s = (1, (s.size : Int), ⟨#[]⟩) := rfl
     rw [e]
     simp +decide (maxDischargeDepth := 200) only [go_sem, FNumber, Tryz.results111]
   · have e : text0 ⟨#[85, 80, 80, 69, 82]⟩ s = (2, 0, turnS true s) := rfl
     rw [e]
     simp +decide (maxDischargeDepth := 200) only [go_sem, t1, FTextG, Tryz.results111]
   · have e : text0 ⟨#[76, 79, 87, 69, 82]⟩ s = (2, 0, turnS false s) := rfl
     rw [e]
     simp +decide (maxDischargeDepth := 200) only [go_sem, t2, FTextG, Tryz.results111]
 · rename_i name s nl k n t
   split at hF
   case isFalse => cases hF
   rename_i h
   cases hF
   obtain ⟨hs, hn, hnm⟩ := h
   refine ⟨rfl, ?_⟩
   have hsz := showB_size (k := k) (s := t) hn
   rcases hnm with rfl | rfl | rfl
   · rw [if_pos rfl]
     unfold findG
     simp only
     have hx := Lib.index_ge (showB k n t).data.toList s.data.toList
     have hx2 := index_small (showB k n t).data.toList s.data.toList
     rw [show (showB k n t).data.toList.length = (showB k n t).size from rfl] at hx2
     have hp := FPlace_of (i := Lib.index (showB k n t).data.toList s.data.toList) ⟨by omega, by omega⟩
     have hlt : (showB k n t).size < 4294967281 := by omega
     simp +decide (maxDischargeDepth := 200) only [go_sem, FShowV, hn, FIndexG, hlt, hp, Tryz.results111]
   · rw [if_neg (by decide)]
     cases hE : fromE 0 k n t with
     | some w =>
       obtain ⟨wk, wn, ws⟩ := w
       have eF := FFrom_no hE
       have e : sideG ⟨#[76, 69, 70, 84]⟩ s (k, n, t) = (wk, wn, ws) := by unfold sideG; rw [hE]
       rw [e]
       simp +decide (maxDischargeDepth := 200) only [go_sem, eF, Tryz.results111]
     | none =>
       have eF := FFrom_yes hE
       have g1 := from_ge hE
       have e : sideG ⟨#[76, 69, 70, 84]⟩ s (k, n, t) = (2, 0, subV s 0 (minI n s.size)) := by unfold sideG; rw [hE]; rfl
       rw [e]
       obtain ⟨m4, m5, m6⟩ := minI_le n (s.size : Int)
       have b2 : 0 ≤ minI n (s.size : Int) := by omega
       generalize hp1 : minI n (s.size : Int) = p1 at *
       simp +decide (maxDischargeDepth := 200) only [go_sem, eF, hp1, b2, m5, FTextG, Tryz.results111]
   · rw [if_neg (by decide)]
     cases hE : fromE 0 k n t with
     | some w =>
       obtain ⟨wk, wn, ws⟩ := w
       have eF := FFrom_no hE
       have e : sideG ⟨#[82, 73, 71, 72, 84]⟩ s (k, n, t) = (wk, wn, ws) := by unfold sideG; rw [hE]
       rw [e]
       simp +decide (maxDischargeDepth := 200) only [go_sem, eF, Tryz.results111]
     | none =>
       have eF := FFrom_yes hE
       have g1 := from_ge hE
       have e : sideG ⟨#[82, 73, 71, 72, 84]⟩ s (k, n, t) = (2, 0, subV s ((s.size : Int) - minI n s.size) s.size) := by unfold sideG; rw [hE]; rfl
       rw [e]
       obtain ⟨m4, m5, m6⟩ := minI_le n (s.size : Int)
       have b2 : 0 ≤ minI n (s.size : Int) := by omega
       generalize hp1 : minI n (s.size : Int) = p1 at *
       have w1 : bWrap .i64 ((s.size : Int) - p1) = (s.size : Int) - p1 := bwrap_of (by unfold inR at *; omega)
       have b3 : 0 ≤ (s.size : Int) - p1 := by omega
       have b4 : (s.size : Int) - p1 ≤ (s.size : Int) := by omega
       simp +decide (maxDischargeDepth := 200) only [go_sem, eF, hp1, w1, b3, b4, FTextG, Tryz.results111]
 · rename_i name s nl k n t k' n' t'
   split at hF
   case isFalse => cases hF
   rename_i h
   cases hF
   obtain ⟨hs, hn, hn', rfl⟩ := h
   refine ⟨rfl, ?_⟩
   simp +decide (maxDischargeDepth := 200) only [go_sem, FMidG, hs, hn, hn', Tryz.results111]
 · cases hF
set_option maxRecDepth 100000 in
theorem gchoose_fun : FunV 107 (FE encVR GChoose) := by
 refine fun_of_run (E := envOf [(86, FNum), (56, FFault), (133, FOwn)]) (k := 2) (envOK_of _ ⟨num_fun, gfault_fun, gown_fun, trivial⟩) (by kernel_rfl) Tryz.func107 rfl (fun a w => Tryz.call107 a w) Tryz.ntmps107 (by kernel_rfl) (by decide) (by decide) ?_
 intro us r hF hdat
 obtain ⟨⟨⟨k, n, s⟩, nl, sz, l⟩, hus, hG⟩ := FE_out hF
 clear hF
 subst hus
 have hF := hG
 clear hG
 unfold GChoose at hF
 split at hF
 case isFalse => cases hF
 rename_i hok
 cases hF
 obtain ⟨⟨hsz, hin, hlen⟩, hn, hsm⟩ := hok
 simp only at hsz hin hlen hn hsm
 clear hdat
 refine ⟨rfl, ?_⟩
 simp only [encVR, rwV, tv, vl]
 cases hE : numE k n s with
 | some w =>
   obtain ⟨wk, wn, ws⟩ := w
   have eN := FNum_no hE
   have e : chooseG (k, n, s) l = (wk, wn, ws) := by unfold chooseG; rw [hE]
   rw [e]
   simp +decide (maxDischargeDepth := 200) only [go_sem, eN, Tryz.results107]
 | none =>
   have eN := FNum_yes hE
   have e : chooseG (k, n, s) l = if n < 1 ∨ (l.length : Int) < n then (4, 7, ⟨#[]⟩) else l.getD (n - 1).toNat (0, 0, ⟨#[]⟩) := by unfold chooseG; rw [hE]
   rw [e]
   by_cases h1 : n < 1
   · have d1 := decide_eq_true h1
     rw [if_pos (.inl h1)]
     simp +decide (maxDischargeDepth := 200) only [go_sem, eN, d1, FFault, Tryz.results107]
   · have d1 := decide_eq_false h1
     by_cases h2 : (l.length : Int) < n
     · have d2 := decide_eq_true h2
       rw [if_pos (.inr h2)]
       simp +decide (maxDischargeDepth := 200) only [go_sem, eN, d1, d2, List.length_map, FFault, Tryz.results107]
     · have d2 := decide_eq_false h2
       rw [if_neg (fun h => h.elim h1 h2)]
       obtain ⟨j, hj⟩ : ∃ j : Nat, n = (j : Int) + 1 := ⟨(n - 1).toNat, by omega⟩
       have hj2 : j < l.length := by omega
       obtain ⟨k', n', s', q1, q2, q3, _⟩ := tv_at hj2
       obtain rfl := hsz (List.ne_nil_of_mem q3)
       have w1 : bWrap .i64 (n - 1) = (j : Int) := by rw [bwrap_of (by unfold inR at *; omega)]; omega
       have e2 : l.getD (n - 1).toNat (0, 0, ⟨#[]⟩) = (k', n', s') := by rw [show (n - 1).toNat = j from by omega, List.getD_eq_getElem?_getD, q1]; rfl
       have b0 : (0 : Int) ≤ (j : Int) := by omega
       have ho := FOwn_of (k := k') (n := n') (s := s') (hsm _ q3)
       rw [e2]
       simp +decide (maxDischargeDepth := 200) only [go_sem, eN, d1, d2, w1, b0, q2, ho, List.length_map, Tryz.results107]
set_option maxRecDepth 100000 in
theorem gones_fun : FunV 104 (FE encA3 GOnesG) := by
 refine fun_of_run (E := envOf [(97, FPlain)]) (k := 3) (envOK_of _ ⟨gusable_fun, trivial⟩) (by kernel_rfl) Tryz.func104 rfl (fun a w => Tryz.call104 a w) Tryz.ntmps104 (by kernel_rfl) (by decide) (by decide) ?_
 intro us r hF hdat
 obtain ⟨⟨⟨nl, sz, l⟩, least, most⟩, hus, hG⟩ := FE_out hF
 clear hF
 subst hus
 have hF := hG
 clear hG
 unfold GOnesG at hF
 split at hF
 case isFalse => cases hF
 rename_i hok
 cases hF
 obtain ⟨hsz, hrw, hal, hlen⟩ := hok
 simp only at hsz hrw hal hlen
 clear hdat
 refine ⟨rfl, ?_⟩
 simp only [encA3, awV]
 by_cases hc : (!decide ((l.length : Int) < least) && !(!decide (most = -1) && decide (most < (l.length : Int)))) = true
 · have hd : decide ((l.length : Int) < least) = false ∧ (decide (most = -1) = true ∨ decide (most = -1) = false ∧ decide (most < (l.length : Int)) = false) := by
    cases h1 : decide ((l.length : Int) < least)
    · cases h2 : decide (most = -1)
      · cases h3 : decide (most < (l.length : Int))
        · exact ⟨rfl, .inr ⟨rfl, rfl⟩⟩
        · rw [h1, h2, h3] at hc; cases hc
      · exact ⟨rfl, .inl rfl⟩
    · rw [h1] at hc; cases hc
   have he : onesG l least most = if (l.all fun r => decide (r.2.2.length = 1)) = true then .tup [freshR (usL0 (allL l)), .x (.bool true)] else .tup [.sl true 0 [] none, .x (.bool false)] := by unfold onesG onesC; rw [hc, Bool.true_and]
   rw [he]
   obtain ⟨d1, d2⟩ := hd
   rcases d2 with d2 | ⟨d2, d3⟩
   · simp +decide (maxDischargeDepth := 200) only [go_sem, List.length_map, d1, d2, Tryz.results104]
     refine loop_nil 6 3 39 (by simp only [go_sem]; rfl) ?_
     refine loop_of (X := {i : Nat // i ≤ l.length ∧ (l.take i).all (fun r => decide (r.2.2.length = 1)) = true}) (fun i => [(0, .sl nl sz (l.map rwV) none), (6, .sl ((usL0 (allL (l.take i.1))).map tv).isEmpty 3 ((usL0 (allL (l.take i.1))).map tv) (some 39)), (24, .sl nl sz (l.map rwV) none), (25, .x (.int .i64 (l.length : Int))), (26, .x (.int .i64 ((i.1 : Nat) : Int)))]) (fun i => []) (fun i => l.length - i.1) ⟨0, by omega, rfl⟩ (by simp +decide only [go_sem, List.take_zero, allL, usL0, List.flatMap_nil, List.map_nil, List.isEmpty_nil, Int.natCast_zero] <;> (repeat' first | rfl | constructor)) (by simp +decide only [go_sem] <;> (repeat' first | rfl | constructor)) (fun ⟨i, hi0, hall1⟩ => ?_)
     by_cases hi : i < l.length
     · obtain ⟨a, b, c, h1, h2, h3⟩ := rw_at hi
       obtain rfl := hsz (List.ne_nil_of_mem h3)
       have c1 : decide ((i : Int) < (l.length : Int)) = true := decide_eq_true (by omega)
       have c2 : (0 : Int) ≤ (i : Int) := by omega
       have c4 := count_up (i := i) (by omega)
       by_cases hc1 : c.length = 1
       · obtain ⟨⟨vk, vn, vs⟩, rfl⟩ : ∃ v, c = [v] := List.length_eq_one_iff.1 hc1
         have e9 : decide ((([(vk, vn, vs)] : List T3).length : Int) = 1) = true := rfl
         obtain rfl := (hrw _ h3).1 (by simp)
         have e : (usL0 (allL (l.take (i + 1)))).map tv = (usL0 (allL (l.take i))).map tv ++ [tv (plainW vk vn vs)] := by rw [take_snoc3 h1, allL_snoc]; simp [usL0, plainT]
         have hle := allL_take_le l (i + 1)
         rw [take_snoc3 h1, allL_snoc, List.length_append] at hle
         have hle2 : ((usL0 (allL (l.take i))).map tv).length + 1 ≤ 1000000 := by rw [List.length_map]; unfold usL0; rw [List.length_map]; simp only [List.length_cons, List.length_nil] at hle; omega
         simp only
         generalize (usL0 (allL (l.take i))).map tv = al at e hle2 ⊢
         have g1 := growV_row (E := (envOf [(97, FPlain)])) (el := 23) (n := 3) sz23 by23 ze23 (by decide) rfl (es := al) (es' := [tv (plainW vk vn vs)]) (m := 3) (fun _ => rfl) rfl (by simp only [List.length_cons, List.length_nil]; omega) (by simp only [List.length_cons, List.length_nil]; omega)
         simp only [tv, vl] at g1 e
         simp +decide (maxDischargeDepth := 200) only [go_sem, List.length_map, c1, c2, c4, h2, g1, e9, FPlain, List.map_cons, List.map_nil, List.length_cons, List.length_nil, Tryz.results104]
         refine ⟨⟨i + 1, by omega, by rw [take_snoc3 h1, List.all_append, hall1]; simp⟩, ?_, ?_, ?_⟩
         · simp +decide (maxDischargeDepth := 200) only [go_sem, e]
         · simp +decide (maxDischargeDepth := 200) only [go_sem, e]
         · simp only; omega
       · have d9 : decide ((c.length : Int) = 1) = false := decide_eq_false (by omega)
         have e : (l.all fun r => decide (r.2.2.length = 1)) = false := by
          rw [List.all_eq_false]
          exact ⟨_, h3, by simp [hc1]⟩
         rw [if_neg (by rw [e]; decide)]
         simp +decide (maxDischargeDepth := 200) only [go_sem, List.length_map, c1, c2, c4, h2, d9, Tryz.results104]
     · have c1 : decide ((i : Int) < (l.length : Int)) = false := decide_eq_false (by omega)
       have e : l.take i = l := List.take_of_length_le (by omega)
       rw [e] at hall1
       have e2 : ((usL0 (allL l)).map tv).isEmpty = (usL0 (allL l)).isEmpty := by cases usL0 (allL l) <;> rfl
       rw [if_pos hall1]
       unfold freshR
       simp +decide (maxDischargeDepth := 200) only [go_sem, List.length_map, c1, e, e2, Tryz.results104]
   · simp +decide (maxDischargeDepth := 200) only [go_sem, List.length_map, d1, d2, d3, Tryz.results104]
     refine loop_nil 6 3 39 (by simp only [go_sem]; rfl) ?_
     refine loop_of (X := {i : Nat // i ≤ l.length ∧ (l.take i).all (fun r => decide (r.2.2.length = 1)) = true}) (fun i => [(0, .sl nl sz (l.map rwV) none), (6, .sl ((usL0 (allL (l.take i.1))).map tv).isEmpty 3 ((usL0 (allL (l.take i.1))).map tv) (some 39)), (24, .sl nl sz (l.map rwV) none), (25, .x (.int .i64 (l.length : Int))), (26, .x (.int .i64 ((i.1 : Nat) : Int)))]) (fun i => []) (fun i => l.length - i.1) ⟨0, by omega, rfl⟩ (by simp +decide only [go_sem, List.take_zero, allL, usL0, List.flatMap_nil, List.map_nil, List.isEmpty_nil, Int.natCast_zero] <;> (repeat' first | rfl | constructor)) (by simp +decide only [go_sem] <;> (repeat' first | rfl | constructor)) (fun ⟨i, hi0, hall1⟩ => ?_)
     by_cases hi : i < l.length
     · obtain ⟨a, b, c, h1, h2, h3⟩ := rw_at hi
       obtain rfl := hsz (List.ne_nil_of_mem h3)
       have c1 : decide ((i : Int) < (l.length : Int)) = true := decide_eq_true (by omega)
       have c2 : (0 : Int) ≤ (i : Int) := by omega
       have c4 := count_up (i := i) (by omega)
       by_cases hc1 : c.length = 1
       · obtain ⟨⟨vk, vn, vs⟩, rfl⟩ : ∃ v, c = [v] := List.length_eq_one_iff.1 hc1
         have e9 : decide ((([(vk, vn, vs)] : List T3).length : Int) = 1) = true := rfl
         obtain rfl := (hrw _ h3).1 (by simp)
         have e : (usL0 (allL (l.take (i + 1)))).map tv = (usL0 (allL (l.take i))).map tv ++ [tv (plainW vk vn vs)] := by rw [take_snoc3 h1, allL_snoc]; simp [usL0, plainT]
         have hle := allL_take_le l (i + 1)
         rw [take_snoc3 h1, allL_snoc, List.length_append] at hle
         have hle2 : ((usL0 (allL (l.take i))).map tv).length + 1 ≤ 1000000 := by rw [List.length_map]; unfold usL0; rw [List.length_map]; simp only [List.length_cons, List.length_nil] at hle; omega
         simp only
         generalize (usL0 (allL (l.take i))).map tv = al at e hle2 ⊢
         have g1 := growV_row (E := (envOf [(97, FPlain)])) (el := 23) (n := 3) sz23 by23 ze23 (by decide) rfl (es := al) (es' := [tv (plainW vk vn vs)]) (m := 3) (fun _ => rfl) rfl (by simp only [List.length_cons, List.length_nil]; omega) (by simp only [List.length_cons, List.length_nil]; omega)
         simp only [tv, vl] at g1 e
         simp +decide (maxDischargeDepth := 200) only [go_sem, List.length_map, c1, c2, c4, h2, g1, e9, FPlain, List.map_cons, List.map_nil, List.length_cons, List.length_nil, Tryz.results104]
         refine ⟨⟨i + 1, by omega, by rw [take_snoc3 h1, List.all_append, hall1]; simp⟩, ?_, ?_, ?_⟩
         · simp +decide (maxDischargeDepth := 200) only [go_sem, e]
         · simp +decide (maxDischargeDepth := 200) only [go_sem, e]
         · simp only; omega
       · have d9 : decide ((c.length : Int) = 1) = false := decide_eq_false (by omega)
         have e : (l.all fun r => decide (r.2.2.length = 1)) = false := by
          rw [List.all_eq_false]
          exact ⟨_, h3, by simp [hc1]⟩
         rw [if_neg (by rw [e]; decide)]
         simp +decide (maxDischargeDepth := 200) only [go_sem, List.length_map, c1, c2, c4, h2, d9, Tryz.results104]
     · have c1 : decide ((i : Int) < (l.length : Int)) = false := decide_eq_false (by omega)
       have e : l.take i = l := List.take_of_length_le (by omega)
       rw [e] at hall1
       have e2 : ((usL0 (allL l)).map tv).isEmpty = (usL0 (allL l)).isEmpty := by cases usL0 (allL l) <;> rfl
       rw [if_pos hall1]
       unfold freshR
       simp +decide (maxDischargeDepth := 200) only [go_sem, List.length_map, c1, e, e2, Tryz.results104]
 · have he : onesG l least most = .tup [.sl true 0 [] none, .x (.bool false)] := by
    unfold onesG onesC
    rw [Bool.not_eq_true] at hc
    rw [hc, Bool.false_and]
    rfl
   rw [he]
   cases h1 : decide ((l.length : Int) < least)
   · cases h2 : decide (most = -1)
     · cases h3 : decide (most < (l.length : Int))
       · rw [h1, h2, h3] at hc; exact absurd rfl hc
       · simp +decide (maxDischargeDepth := 200) only [go_sem, List.length_map, h1, h2, h3, Tryz.results104]
     · rw [h1, h2] at hc; exact absurd rfl hc
   · simp +decide (maxDischargeDepth := 200) only [go_sem, List.length_map, h1, Tryz.results104]
end Go.Proofs.YtfngpfnbhafmlaaGreatDoor
namespace Go.Proofs.YtfngpfnbhafmlaaGreatDoor
open Go Go.RowKit
set_option linter.unusedSimpArgs false
theorem usL0_eq (l : List T3) : usL0 l = usL l := rfl
theorem plain_right {v : T3} (h : rightB v.1 v.2.1 v.2.2 = true) : plainT v = v := by
 unfold plainT plainW
 rw [if_pos h]
theorem plain_wrong {v : T3} (h : rightB v.1 v.2.1 v.2.2 = false) : plainT v = (4, 3, ⟨#[]⟩) := by
 unfold plainT plainW
 rw [if_neg (by rw [h]; decide)]
theorem right_43 : rightB 4 3 ⟨#[]⟩ = true := by kernel_rfl
theorem plain_ok (v : T3) : rightB (plainT v).1 (plainT v).2.1 (plainT v).2.2 = true := by
 cases h : rightB v.1 v.2.1 v.2.2
 · rw [plain_wrong h]; exact right_43
 · rw [plain_right h]; exact h
theorem plain_no4 {v : T3} (h : (plainT v).1 ≠ 4) : plainT v = v ∧ rightB v.1 v.2.1 v.2.2 = true := by
 cases hr : rightB v.1 v.2.1 v.2.2
 · rw [plain_wrong hr] at h; exact absurd rfl h
 · exact ⟨plain_right hr, rfl⟩
theorem faultL_us (l : List T3) : faultL l = faultU (usL l) := by
 induction l with
 | nil => rfl
 | cons v l ih =>
   unfold faultL faultU usL
   rw [List.map_cons, List.find?_cons]
   cases hr : rightB v.1 v.2.1 v.2.2
   · rw [if_pos rfl, plain_wrong hr]
     rfl
   · rw [if_neg (by decide), plain_right hr]
     by_cases h4 : v.1 = 4
     · rw [if_pos h4, decide_eq_true h4]
     · rw [if_neg h4, decide_eq_false h4]
       exact ih
theorem faultL_none {l : List T3} (h : faultL l = none) : usL l = l ∧ ∀ v ∈ l, rightB v.1 v.2.1 v.2.2 = true ∧ v.1 ≠ 4 := by
 rw [faultL_us] at h
 have h1 : ∀ v ∈ l, (plainT v).1 ≠ 4 := fun v hv e => by
  have := List.find?_eq_none.1 h (plainT v) (List.mem_map_of_mem hv)
  rw [decide_eq_true e] at this
  exact this rfl
 refine ⟨?_, fun v hv => ?_⟩
 · unfold usL
   conv => rhs; rw [← List.map_id l]
   exact List.map_congr_left fun v hv => (plain_no4 (h1 v hv)).1
 · obtain ⟨e, hr⟩ := plain_no4 (h1 v hv)
   exact ⟨hr, by rw [← e]; exact h1 v hv⟩
theorem onesC_oneL {l : List RW} {n : Int} (hn : n ≠ -1) : onesC l n n = oneL l n := by
 unfold onesC oneL
 rw [decide_eq_false hn]
 congr 1
 by_cases h1 : (l.length : Int) < n
 · rw [decide_eq_true h1, decide_eq_false (p := (l.length : Int) = n) (by omega)]; rfl
 · by_cases h2 : n < (l.length : Int)
   · rw [decide_eq_false h1, decide_eq_true h2, decide_eq_false (p := (l.length : Int) = n) (by omega)]; rfl
   · rw [decide_eq_false h1, decide_eq_false h2, decide_eq_true (p := (l.length : Int) = n) (by omega)]; rfl
theorem cmp_43 {v : T3} (hv : rightB v.1 v.2.1 v.2.2 = true) (h4 : v.1 ≠ 4) : ¬ cmpV ((4, 3, ⟨#[]⟩) : T3).1 ((4, 3, ⟨#[]⟩) : T3).2.1 ((4, 3, ⟨#[]⟩) : T3).2.2 v.1 v.2.1 v.2.2 = 0 := by
 have h5 : cmpI 4 v.1 ≠ 0 := by
  unfold cmpI
  split
  · decide
  · split
    · decide
    · exact absurd (by omega) h4
 show ¬ cmpV 4 3 ⟨#[]⟩ v.1 v.2.1 v.2.2 = 0
 unfold cmpV
 rw [hv, right_43, if_pos (by rfl), if_pos h5]
 exact h5
theorem mU_mL (v : T3) (hv : rightB v.1 v.2.1 v.2.2 = true) (h4 : v.1 ≠ 4) : ∀ (i : Nat) (l : List T3), mU v i l = mL v i l
 | i, [] => rfl
 | i, x :: l => by
   unfold mU mL
   rw [mU_mL v hv h4 (i + 1) l]
   cases hr : rightB x.1 x.2.1 x.2.2
   · rw [plain_wrong hr, if_neg (cmp_43 hv h4), if_neg (fun h => by cases h.1)]
   · rw [plain_right hr]
     by_cases hc : cmpV x.1 x.2.1 x.2.2 v.1 v.2.1 v.2.2 = 0
     · rw [if_pos hc, if_pos ⟨rfl, hc⟩]; rfl
     · rw [if_neg hc, if_neg (fun h => hc h.2)]
theorem faultL_one (v : T3) : faultL [v] = if (plainT v).1 = 4 then some (plainT v) else none := by
 rw [faultL_us]
 unfold faultU usL
 rw [List.map_cons, List.map_nil, List.find?_cons]
 by_cases h : (plainT v).1 = 4
 · rw [decide_eq_true h, if_pos h]
 · rw [decide_eq_false h, if_neg h]; rfl
theorem match_same (l : List RW) : matchG l = matchW l := by
 rcases l with _ | ⟨r0, _ | ⟨r1, _ | ⟨r2, l⟩⟩⟩
 · rfl
 · rfl
 · obtain ⟨a, b, c⟩ := r0
   rcases c with _ | ⟨v0, _ | ⟨v1, c⟩⟩
   · rfl
   · show (if (plainT v0).1 = 4 then plainT v0 else mU (plainT v0) 0 r1.2.2) = (match faultL [v0] with
      | some e => e
      | none => mL v0 0 r1.2.2)
     rw [faultL_one]
     by_cases h : (plainT v0).1 = 4
     · rw [if_pos h, if_pos h]
     · rw [if_neg h, if_neg h]
       obtain ⟨e, hr⟩ := plain_no4 h
       rw [e] at h ⊢
       exact mU_mL v0 hr h 0 _
   · rfl
 · rfl
def mR (v : T3) (l : List T3) : T3 := mU v 0 l
set_option maxHeartbeats 8000000 in
set_option maxRecDepth 100000 in
theorem gmatch_fun : FunV 55 (FE encAw GMatch) := by
 refine fun_of_run (E := envOf [(56, FFault), (97, FPlain), (48, FCompare), (112, FPlaceG)]) (k := 1) (envOK_of _ ⟨gfault_fun, gusable_fun, compare_fun, gplace_fun, trivial⟩) (by kernel_rfl) Tryz.func55 rfl (fun a w => Tryz.call55 a w) Tryz.ntmps55 (by kernel_rfl) (by decide) (by decide) ?_
 intro us r hF hdat
 obtain ⟨⟨nl, sz, l⟩, hus, hG⟩ := FE_out hF
 clear hF
 subst hus
 have hF := hG
 clear hG
 unfold GMatch at hF
 split at hF
 case isFalse => cases hF
 rename_i hok
 cases hF
 obtain ⟨hsz, hrw, hal, hlen⟩ := hok
 simp only at hsz hrw hal hlen
 clear hdat
 refine ⟨rfl, ?_⟩
 simp only [encAw, awV]
 by_cases h2 : l.length = 2
 · obtain ⟨⟨a0, b0, c0⟩, ⟨a1, b1, c1⟩, rfl⟩ : ∃ r0 r1, l = [r0, r1] := match l, h2 with
    | [r0, r1], _ => ⟨r0, r1, rfl⟩
   obtain rfl := hsz (by simp)
   obtain ⟨hb0, hi0, hl0⟩ := hrw _ (List.mem_cons_self ..)
   obtain ⟨hb1, hi1, hl1⟩ := hrw (a1, b1, c1) (by simp)
   simp only at hb0 hi0 hl0 hb1 hi1 hl1
   simp only [List.map_cons, List.map_nil, rwV]
   by_cases h1 : c0.length = 1
   · obtain ⟨⟨vk, vn, vs⟩, rfl⟩ : ∃ v, c0 = [v] := List.length_eq_one_iff.1 h1
     obtain rfl := hb0 (by simp)
     have e0 : matchG [(a0, 3, [(vk, vn, vs)]), (a1, b1, c1)] = if (plainT (vk, vn, vs)).1 = 4 then plainT (vk, vn, vs) else mR (plainT (vk, vn, vs)) c1 := rfl
     rw [e0]
     have e1 : plainT (vk, vn, vs) = plainW vk vn vs := rfl
     rw [e1]
     generalize hpw : plainW vk vn vs = pv
     obtain ⟨pk, pn, ps⟩ := pv
     by_cases h4 : pk = 4
     · have d4 := decide_eq_true h4
       rw [if_pos h4]
       simp +decide (maxDischargeDepth := 200) only [go_sem, FPlain, hpw, d4, List.length_cons, List.length_nil, List.map_cons, List.map_nil, Tryz.results55]
     · have d4 := decide_eq_false h4
       rw [if_neg h4]
       simp +decide (maxDischargeDepth := 200) only [go_sem, FPlain, hpw, d4, List.length_cons, List.length_nil, List.map_cons, List.map_nil, List.length_map, Tryz.results55]
       refine loop_of (X := {i : Nat // i ≤ c1.length ∧ mU (pk, pn, ps) i (c1.drop i) = mU (pk, pn, ps) 0 c1}) (fun i => [(2, .ptr 2 0), (3, .ptr 3 0), (29, .sl a1 b1 (c1.map tv) none), (30, .x (.int .i64 (c1.length : Int))), (31, .x (.int .i64 ((i.1 : Nat) : Int)))]) (fun i => [(2, [.x (.int .i64 0), .x (.int .i64 0), .x (.string ⟨#[]⟩)]), (3, [.x (.int .i64 pk), .x (.int .i64 pn), .x (.string ps)])]) (fun i => c1.length - i.1) ⟨0, by omega, rfl⟩ (by simp +decide only [go_sem, Int.natCast_zero] <;> (repeat' first | rfl | constructor)) (by simp +decide only [go_sem] <;> (repeat' first | rfl | constructor)) (fun ⟨i, hi0, hm⟩ => ?_)
       by_cases hi : i < c1.length
       · obtain ⟨k, n, s, q1, q2, q3, q4⟩ := tv_at hi
         obtain rfl := hb1 (List.ne_nil_of_mem q3)
         have c1' : decide ((i : Int) < (c1.length : Int)) = true := decide_eq_true (by omega)
         have c2 : (0 : Int) ≤ (i : Int) := by omega
         have c4 := count_up (i := i) (by omega)
         rw [q4, mU] at hm
         have hpl : plainT (k, n, s) = plainW k n s := rfl
         rw [hpl] at hm
         by_cases hc : cmpV (plainW k n s).1 (plainW k n s).2.1 (plainW k n s).2.2 pk pn ps = 0
         · have d5 := decide_eq_true hc
           rw [if_pos hc] at hm
           have e9 : mR (pk, pn, ps) c1 = (1, (i : Int) + 1, ⟨#[]⟩) := hm.symm
           rw [e9]
           have hp : FPlaceG [.x (.int .i64 (i : Int))] = some (tv (1, (i : Int) + 1, ⟨#[]⟩)) := by
            rw [FPlace_of ⟨by omega, by omega⟩, placeW, if_neg (by omega)]
           simp +decide (maxDischargeDepth := 200) only [go_sem, List.length_map, c1', c2, c4, q2, FPlain, FCompare, d5, hp, Tryz.results55]
         · have d5 := decide_eq_false hc
           rw [if_neg hc] at hm
           simp +decide (maxDischargeDepth := 200) only [go_sem, List.length_map, c1', c2, c4, q2, FPlain, FCompare, d5, Tryz.results55]
           refine ⟨⟨i + 1, by omega, hm⟩, ?_, ?_, ?_⟩
           · simp +decide (maxDischargeDepth := 200) only [go_sem]
           · simp +decide (maxDischargeDepth := 200) only [go_sem]
           · simp only; omega
       · have c1' : decide ((i : Int) < (c1.length : Int)) = false := decide_eq_false (by omega)
         rw [List.drop_eq_nil_of_le (by omega), mU] at hm
         have e9 : mR (pk, pn, ps) c1 = (4, 7, ⟨#[]⟩) := hm.symm
         rw [e9]
         have hp : FPlaceG [.x (.int .i64 (-1))] = some (tv (4, 7, ⟨#[]⟩)) := rfl
         simp +decide (maxDischargeDepth := 200) only [go_sem, List.length_map, c1', hp, Tryz.results55]
   · have d1 : decide ((c0.length : Int) = 1) = false := decide_eq_false (by omega)
     have e0 : matchG [(a0, b0, c0), (a1, b1, c1)] = (4, 6, ⟨#[]⟩) := by
      unfold matchG
      simp only
      split
      · exact absurd rfl h1
      · rfl
     rw [e0]
     simp +decide (maxDischargeDepth := 200) only [go_sem, List.length_map, List.length_cons, List.length_nil, d1, FFault, Tryz.results55]
 · have d2 : decide ((l.length : Int) = 2) = false := decide_eq_false (by omega)
   have e0 : matchG l = (4, 6, ⟨#[]⟩) := by
    unfold matchG
    split
    · exact absurd rfl h2
    · rfl
   rw [e0]
   simp +decide (maxDischargeDepth := 200) only [go_sem, List.length_map, d2, FFault, Tryz.results55]
end Go.Proofs.YtfngpfnbhafmlaaGreatDoor
namespace Go.Proofs.YtfngpfnbhafmlaaGreatDoor
open Go Go.RowKit
set_option linter.unusedSimpArgs false
theorem withL_us (L : List T3) (f : List T3 → T3) : withL L f = match faultU (usL L) with
 | some e => e
 | none => f (usL L) := by
 unfold withL
 rw [← faultL_us]
 cases h : faultL L with
 | some e => rfl
 | none => simp only [(faultL_none h).1]
theorem right_0 {n : Int} {s : ByteArray} (h : rightB 0 n s = true) : n = 0 := by
 simp [rightB] at h
 exact h.1
theorem right_1 {n : Int} {s : ByteArray} (h : rightB 1 n s = true) : s = ⟨#[]⟩ := by
 simp [rightB] at h
 apply ba_ext
 rw [show s.toList = [] from by simpa using h]
 simp
theorem right_num (n : Int) : rightB 1 n ⟨#[]⟩ = true := by simp [rightB]
theorem not_same {k n : Int} {s : ByteArray} (hr : rightB k n s = true) (h4 : k ≠ 4) : notW (k, n, s) = oneW ⟨#[78, 79, 84]⟩ k n s := by
 have e : oneW ⟨#[78, 79, 84]⟩ k n s = if k = 3 ∨ k = 0 then boolW (!decide (n = 1)) else (4, 3, ⟨#[]⟩) := rfl
 rw [e]
 unfold notW truE
 simp only
 by_cases h : k = 3 ∨ k = 0
 · rw [if_pos h, if_pos h]
   rcases h with rfl | rfl
   · rfl
   · obtain rfl := right_0 hr
     rfl
 · rw [if_neg h, if_neg h, if_neg h4]
theorem ofNum_same {k n : Int} {s : ByteArray} {name : ByteArray} (hr : rightB k n s = true) (hn : name = ⟨#[65, 66, 83]⟩ ∨ name = ⟨#[83, 73, 71, 78]⟩) : ofNumW name (k, n, s) = oneW name k n s := by
 have e : oneW name k n s = match numE k n s with
  | some w => w
  | none => if name = ⟨#[65, 66, 83]⟩ then absW n else signW n := by rcases hn with rfl | rfl <;> rfl
 rw [e]
 unfold ofNumW
 simp only
 cases h : numE k n s with
 | some w => rfl
 | none =>
   simp only
   have hk : k = 0 ∨ k = 1 := by
    unfold numE at h
    rw [if_neg (by rw [hr]; decide)] at h
    by_cases h1 : k = 0 ∨ k = 1
    · exact h1
    · rw [if_neg h1] at h
      split at h <;> cases h
   rcases hn with rfl | rfl
   · rw [if_neg (by decide), if_pos rfl]
     unfold absW
     by_cases h0 : n < 0
     · rw [if_pos h0, if_pos h0]
       rcases hk with rfl | rfl
       · rw [right_0 hr] at h0; omega
       · rw [right_1 hr]
     · rw [if_neg h0, if_neg h0]
   · rw [if_pos rfl, if_neg (by decide)]
     unfold signW cmpV
     rw [right_num n, right_num 0, if_pos (by rfl)]
     have h1 : cmpI 1 1 = 0 := rfl
     rw [h1, if_neg (by simp)]
     unfold cmpI
     by_cases h0 : n < 0
     · rw [if_pos h0, if_pos h0, if_pos (by decide)]
     · rw [if_neg h0, if_neg h0]
       by_cases h2 : 0 < n
       · rw [if_pos h2, if_pos h2, if_pos (by decide)]
       · rw [if_neg h2, if_neg h2, if_neg (by simp), cmpS_eq.2 rfl]
theorem turnS_size (g : Bool) (s : ByteArray) : (turnS g s).size = s.size := by
 show (s.data.map (turnB g)).size = s.data.size
 simp
theorem text_fit {s : ByteArray} (h : s.size ≤ 200) : textW s = (2, 0, s) := if_pos h
theorem upper_same {g : Bool} {s : ByteArray} (h : s.size ≤ 200) : ((2, 0, turnS g s) : T3) = textW (turnS g s) := by rw [text_fit (by rw [turnS_size]; exact h)]
theorem mod_same (a b : T3) : modG a b = twoW ⟨#[77, 79, 68]⟩ a b := by
 have e : twoW ⟨#[77, 79, 68]⟩ a b = (match numE a.1 a.2.1 a.2.2 with
  | some w => w
  | none => match numE b.1 b.2.1 b.2.2 with
    | some w => w
    | none => modW a.2.1 b.2.1) := rfl
 rw [e]
 unfold modG
 cases numE a.1 a.2.1 a.2.2 with
 | some w => rfl
 | none =>
   simp only
   cases numE b.1 b.2.1 b.2.2 with
   | some w => rfl
   | none =>
     simp only
     unfold modW
     by_cases h0 : b.2.1 = 0
     · rw [if_pos h0, if_pos h0]
     · rw [if_neg h0, if_neg h0]
       by_cases h1 : b.2.1 = -1
       · rw [if_pos h1, h1, Int.tmod_neg, Int.tmod_one]
       · rw [if_neg h1]
theorem sub_data (b : ByteArray) (i j : Nat) : (subV b (i : Int) (j : Int)).data.toList = (b.data.toList.take j).drop i := by
 have := subV_B b.data.toList i j
 rw [B_data] at this
 rw [this]
 rfl
theorem hit_occ {a b : ByteArray} {i : Nat} (_hi : i + a.size ≤ b.size) : hitB a b i = Lib.occAt b.data.toList a.data.toList i := by
 have hsz : b.data.toList.length = b.size := rfl
 have hsa : a.data.toList.length = a.size := rfl
 unfold hitB Lib.occAt
 have e1 : (subV b (i : Int) ((i : Int) + (a.size : Int))).data.toList = (b.data.toList.drop i).take a.size := by
  rw [show (i : Int) + (a.size : Int) = ((i + a.size : Nat) : Int) from by omega, sub_data, List.drop_take]
  rw [show i + a.size - i = a.size from by omega]
 rw [Bool.eq_iff_iff, decide_eq_true_iff, List.isPrefixOf_iff_prefix]
 constructor
 · intro h
   rw [h] at e1
   rw [e1]
   exact List.take_prefix _ _
 · intro h
   obtain ⟨t, ht⟩ := h
   apply ByteArray.ext
   apply Array.toList_inj.1
   rw [e1, ← ht, ← hsa, List.take_left]
theorem occ_none {a b : ByteArray} {i : Nat} (hi : b.size < i + a.size) : i ≤ b.size → Lib.occAt b.data.toList a.data.toList i = false := by
 intro hib
 have hsz : b.data.toList.length = b.size := rfl
 have hsa : a.data.toList.length = a.size := rfl
 unfold Lib.occAt
 rw [Bool.eq_false_iff]
 intro h
 rw [List.isPrefixOf_iff_prefix] at h
 have := h.length_le
 rw [List.length_drop] at this
 omega
theorem find_same (a b : ByteArray) : placeW (Lib.index b.data.toList a.data.toList) = findS a b := by
 have hsz : b.data.toList.length = b.size := rfl
 unfold findS
 cases h : (List.range (b.size + 1 - a.size)).find? (hitB a b) with
 | some i =>
   obtain ⟨h1, h2, h3⟩ := List.find?_range_eq_some.1 h
   have h2 := List.mem_range.1 h2
   have hi : i + a.size ≤ b.size := by omega
   have e : Lib.index b.data.toList a.data.toList = i := Lib.index_first (by omega) (by rw [← hit_occ hi]; exact h1) (fun j hj => by
    rw [← hit_occ (by omega)]
    simpa using h3 j hj)
   rw [e]
   unfold placeW
   rw [if_neg (by omega)]
   rfl
 | none =>
   have h1 := List.find?_range_eq_none.1 h
   have e : Lib.index b.data.toList a.data.toList = -1 := Lib.index_none (fun j hj => by
    by_cases hji : j + a.size ≤ b.size
    · rw [← hit_occ hji]
      simpa using h1 j (by omega)
    · exact occ_none (by omega) (by omega))
   rw [e]
   rfl
theorem sub_size {s : ByteArray} {l h : Int} (h0 : 0 ≤ l) (h1 : l ≤ h) (h2 : h ≤ s.size) : ((subV s l h).size : Int) = h - l := by
 obtain ⟨i, rfl⟩ := Int.eq_ofNat_of_zero_le h0
 obtain ⟨j, rfl⟩ := Int.eq_ofNat_of_zero_le (Int.le_trans h0 h1)
 have e : (subV s (i : Int) (j : Int)).size = j - i := by
  show (subV s (i : Int) (j : Int)).data.toList.length = _
  rw [sub_data, List.length_drop, List.length_take]
  have : s.data.toList.length = s.size := rfl
  omega
 rw [e]
 omega
theorem sub_le (s : ByteArray) (l h : Int) (h0 : 0 ≤ l) (h1 : l ≤ h) (h2 : h ≤ s.size) : (subV s l h).size ≤ s.size := by
 have := sub_size h0 h1 h2
 omega
theorem sub_sub {s : ByteArray} {p q r : Int} (h0 : 0 ≤ p) (h1 : 0 ≤ q) (h2 : p + q ≤ s.size) (h3 : (s.size : Int) = r) : subV (subV s p r) 0 q = subV s p (p + q) := by
 subst h3
 obtain ⟨i, rfl⟩ := Int.eq_ofNat_of_zero_le h0
 obtain ⟨j, rfl⟩ := Int.eq_ofNat_of_zero_le h1
 have hs : s.data.toList.length = s.size := rfl
 apply ByteArray.ext
 apply Array.toList_inj.1
 rw [show ((0 : Int)) = ((0 : Nat) : Int) from rfl, show (i : Int) + (j : Int) = ((i + j : Nat) : Int) from by omega, sub_data, sub_data, sub_data, List.drop_zero, ← hs, List.take_length, List.drop_take]
 congr 1
 omega
theorem minI_lt {a b : Int} (h : b < a) : minI a b = b := if_pos h
theorem minI_ge {a b : Int} (h : ¬ b < a) : minI a b = a := if_neg h
theorem part_left {s : ByteArray} {n : Int} (hs : s.size ≤ 200) (h0 : 0 ≤ n) : ((2, 0, subV s 0 (minI n s.size)) : T3) = textW (partS s 0 n) := by
 unfold partS
 rw [if_neg (by omega)]
 rw [show (0 : Int) + (if (s.size : Int) - 0 < n then (s.size : Int) - 0 else n) = minI n s.size from by
  unfold minI
  split <;> split <;> omega]
 rw [text_fit]
 have h1 := minI_le n (s.size : Int)
 have := sub_le s 0 (minI n s.size) (by omega) (by omega) (by omega)
 omega
theorem left_same {s : ByteArray} {n : Int} (hs : s.size ≤ 200) (h0 : 0 ≤ n) {name : ByteArray} (hn : name = ⟨#[76, 69, 70, 84]⟩ ∨ name = ⟨#[82, 73, 71, 72, 84]⟩) : sideT name s n = leftW name s n := by
 unfold sideT leftW
 rcases hn with rfl | rfl
 · rw [if_pos rfl, if_pos (.inl rfl)]
   exact part_left hs h0
 · rw [if_neg (by decide)]
   by_cases hg : (s.size : Int) ≤ n
   · rw [if_pos (.inr hg), ← part_left hs h0]
     have e : minI n s.size = s.size := by unfold minI; split <;> omega
     rw [e, show (s.size : Int) - s.size = 0 from by omega]
   · rw [if_neg (fun h => h.elim (by decide) hg)]
     have e : minI n s.size = n := by unfold minI; split <;> omega
     unfold partS
     rw [if_neg (by omega), e]
     have e2 : (s.size : Int) - n + (if (s.size : Int) - ((s.size : Int) - n) < n then (s.size : Int) - ((s.size : Int) - n) else n) = s.size := by split <;> omega
     rw [e2, text_fit]
     have := sub_le s ((s.size : Int) - n) s.size (by omega) (by omega) (by omega)
     omega
theorem side_same {a b : T3} {name : ByteArray} (hs : (showB a.1 a.2.1 a.2.2).size ≤ 200) (hn : name = ⟨#[76, 69, 70, 84]⟩ ∨ name = ⟨#[82, 73, 71, 72, 84]⟩) : sideG name (showB a.1 a.2.1 a.2.2) b = twoW name a b := by
 have e : twoW name a b = (match numE b.1 b.2.1 b.2.2 with
  | some w => w
  | none => if b.2.1 < 0 then (4, 3, ⟨#[]⟩) else leftW name (showB a.1 a.2.1 a.2.2) b.2.1) := by rcases hn with rfl | rfl <;> rfl
 rw [e]
 unfold sideG fromE
 cases numE b.1 b.2.1 b.2.2 with
 | some w => rfl
 | none =>
   simp only
   by_cases h0 : b.2.1 < 0
   · rw [if_pos h0, if_pos h0]
   · rw [if_neg h0, if_neg h0]
     exact left_same hs (by omega) hn
theorem num_43 {k n : Int} {s : ByteArray} {w : T3} (hr : rightB k n s = true) (h4 : k ≠ 4) (h : numE k n s = some w) : w = (4, 3, ⟨#[]⟩) := by
 unfold numE at h
 rw [if_neg (by rw [hr]; decide)] at h
 split at h
 · cases h
 · cases h
   rfl
theorem midT_same {s : ByteArray} {p n : Int} (hs : s.size ≤ 200) (h0 : 1 ≤ p) (h1 : 0 ≤ n) : midT s p n = textW (partS s (p - 1) n) := by
 unfold midT partS
 have m1 := minI_le (p - 1) (s.size : Int)
 generalize hq : minI (p - 1) (s.size : Int) = q at m1
 have hz := sub_size (s := s) (l := q) (h := s.size) (by omega) (by omega) (by omega)
 have m2 := minI_le n ((subV s q s.size).size : Int)
 by_cases hp : (s.size : Int) < p - 1
 · have eq : q = s.size := by rw [← hq]; exact minI_lt hp
   have e2 : minI n ((subV s q s.size).size : Int) = 0 := by omega
   rw [if_pos hp, e2, text_fit (by decide)]
   have : (subV (subV s q s.size) 0 0).size = 0 := by
    have := sub_size (s := subV s q s.size) (l := 0) (h := 0) (by omega) (by omega) (by omega)
    omega
   have : subV (subV s q s.size) 0 0 = ⟨#[]⟩ := by
    apply ByteArray.ext
    exact Array.eq_empty_of_size_eq_zero this
   rw [this]
 · have eq : q = p - 1 := by rw [← hq]; exact minI_ge hp
   subst eq
   rw [if_neg hp]
   have e3 : minI n ((subV s (p - 1) s.size).size : Int) = if (s.size : Int) - (p - 1) < n then (s.size : Int) - (p - 1) else n := by
    unfold minI
    rw [hz]
   rw [e3, sub_sub (by omega) (by split <;> omega) (by split <;> omega) rfl, text_fit]
   have := sub_le s (p - 1) (p - 1 + if (s.size : Int) - (p - 1) < n then (s.size : Int) - (p - 1) else n) (by omega) (by split <;> omega) (by split <;> omega)
   omega
theorem mid_same {a b c : T3} (hs : (showB a.1 a.2.1 a.2.2).size ≤ 200) (hc : rightB c.1 c.2.1 c.2.2 = true) (hc4 : c.1 ≠ 4) : midG (showB a.1 a.2.1 a.2.2) b c = midW a b c := by
 unfold midG midW fromE
 cases numE b.1 b.2.1 b.2.2 with
 | some w => rfl
 | none =>
   simp only
   cases h2 : numE c.1 c.2.1 c.2.2 with
   | some w =>
     obtain rfl := num_43 hc hc4 h2
     simp only
     by_cases h1 : b.2.1 < 1
     · rw [if_pos h1]
     · rw [if_neg h1]
   | none =>
     simp only
     by_cases h1 : b.2.1 < 1
     · rw [if_pos h1, if_pos (c := b.2.1 < 1 ∨ c.2.1 < 0) (.inl h1)]
     · rw [if_neg h1]
       by_cases h3 : c.2.1 < 0
       · rw [if_pos h3, if_pos (.inr h3)]
       · rw [if_neg h3, if_neg (fun h => h.elim h1 h3)]
         exact midT_same hs (by omega) (by omega)
theorem branch_same (v0 v1 v2 : T3) : branchW (plainT v0) (plainT v1) (plainT v2) = ifW [v0, v1, v2] := by
 show _ = (match faultL [v0] with
  | some e => e
  | none => if v0.1 = 3 ∨ v0.1 = 0 then (if v0.2.1 = 1 then plainT v1 else plainT v2) else (4, 3, ⟨#[]⟩))
 rw [faultL_one]
 have hp := plain_ok v0
 by_cases h4 : (plainT v0).1 = 4
 · rw [if_pos h4]
   have : truE (plainT v0) = some (plainT v0) := by
    unfold truE
    rw [if_neg (by omega), if_pos h4]
   unfold branchW
   rw [this]
 · rw [if_neg h4]
   obtain ⟨e, hr⟩ := plain_no4 h4
   rw [e] at h4 ⊢
   unfold branchW truE
   by_cases h : v0.1 = 3 ∨ v0.1 = 0
   · rw [if_pos h, if_pos h]
     simp only
     rcases h with h | h
     · rw [decide_eq_true h, Bool.true_and]
       by_cases h1 : v0.2.1 = 1
       · rw [if_pos (decide_eq_true h1), if_pos h1]
       · rw [if_neg (by rw [decide_eq_false h1]; decide), if_neg h1]
     · rw [h] at hr
       rw [right_0 hr, decide_eq_false (p := v0.1 = 3) (by omega), if_neg (by decide), if_neg (by decide)]
   · rw [if_neg h, if_neg h, if_neg h4]
theorem choose_same (v0 v1 : T3) (rest : List T3) : chooseG (plainT v0) (usL (v1 :: rest)) = chooseW (v0 :: v1 :: rest) := by
 show _ = (match faultL [v0] with
  | some e => e
  | none => match numE v0.1 v0.2.1 v0.2.2 with
    | some w => w
    | none => if v0.2.1 < 1 ∨ ((rest.length + 2 : Nat) : Int) ≤ v0.2.1 then (4, 7, ⟨#[]⟩) else plainT ((v0 :: v1 :: rest).getD v0.2.1.toNat (0, 0, ⟨#[]⟩)))
 rw [faultL_one]
 have hp := plain_ok v0
 by_cases h4 : (plainT v0).1 = 4
 · rw [if_pos h4]
   have : numE (plainT v0).1 (plainT v0).2.1 (plainT v0).2.2 = some (plainT v0) := by
    unfold numE
    rw [if_neg (by rw [hp]; decide), if_neg (by omega), if_pos h4]
   unfold chooseG
   rw [this]
 · rw [if_neg h4]
   obtain ⟨e, hr⟩ := plain_no4 h4
   rw [e]
   unfold chooseG
   cases numE v0.1 v0.2.1 v0.2.2 with
   | some w => rfl
   | none =>
     simp only [usL_length, List.length_cons]
     by_cases h1 : v0.2.1 < 1
     · rw [if_pos (.inl h1), if_pos (.inl h1)]
     · by_cases h2 : ((rest.length + 1 : Nat) : Int) < v0.2.1
       · rw [if_pos (.inr h2), if_pos (.inr (by omega))]
       · rw [if_neg (fun h => h.elim h1 h2), if_neg (fun h => h.elim h1 (fun h => by omega))]
         obtain ⟨j, hj⟩ : ∃ j : Nat, v0.2.1 = (j : Int) + 1 := ⟨(v0.2.1 - 1).toNat, by omega⟩
         rw [hj, show ((j : Int) + 1 - 1).toNat = j from by omega, show ((j : Int) + 1).toNat = j + 1 from by omega, List.getD_cons_succ]
         have hj2 : j < (v1 :: rest).length := by simp only [List.length_cons]; omega
         unfold usL
         rw [List.getD_eq_getElem?_getD, List.getD_eq_getElem?_getD, List.getElem?_map, List.getElem?_eq_getElem hj2]
         rfl
end Go.Proofs.YtfngpfnbhafmlaaGreatDoor
namespace Go.Proofs.YtfngpfnbhafmlaaGreatDoor
open Go Go.RowKit
set_option linter.unusedSimpArgs false
def encE (p : ByteArray × AW × Int × Int) : List V := [.x (.string p.1), awV p.2.1, .x (.int .i64 p.2.2.1), .x (.int .i64 p.2.2.2)]
theorem encE_inj (p q : ByteArray × AW × Int × Int) (e : encE p = encE q) : p = q := by
 obtain ⟨a, b, c, d⟩ := p
 obtain ⟨a', b', c', d'⟩ := q
 simp only [encE, List.cons.injEq, V.x.injEq, Value.string.injEq, Value.int.injEq, true_and, and_true] at e
 obtain ⟨h1, h2, h3, h4⟩ := e
 rw [h1, awV_inj _ _ h2, h3, h4]
open Classical in
noncomputable def GE (C : ByteArray → Int → Int → Prop) (p : ByteArray × AW × Int × Int) : Option V := if okAw p.2.1 ∧ C p.1 p.2.2.1 p.2.2.2 then some (tv (callW p.1 p.2.1.2.2)) else none
open Classical in
theorem GE_of {C : ByteArray → Int → Int → Prop} {name : ByteArray} {nl : Bool} {sz : Nat} {l : List RW} {a b : Int} (h : okAw (nl, sz, l)) (h' : C name a b) : FE encE (GE C) [.x (.string name), .sl nl sz (l.map rwV) none, .x (.int .i64 a), .x (.int .i64 b)] = some (tv (callW name l)) := (FE_at encE_inj _ (name, (nl, sz, l), a, b)).trans (if_pos ⟨h, h'⟩)
theorem each_join {f : FuncId} {C1 C2 : ByteArray → Int → Int → Prop} (h1 : FunV f (FE encE (GE C1))) (h2 : FunV f (FE encE (GE C2))) : FunV f (FE encE (GE fun a b c => C1 a b c ∨ C2 a b c)) := by
 refine ⟨h1.1, fun m w vs us r hF hd hr hj hg => ?_⟩
 obtain ⟨p, rfl, hG⟩ := FE_out hF
 unfold GE at hG
 split at hG
 case isFalse => cases hG
 rename_i h
 cases hG
 obtain ⟨h, h' | h'⟩ := h
 · exact h1.2 m w vs _ _ ((FE_at encE_inj _ p).trans (if_pos ⟨h, h'⟩)) hd hr hj hg
 · exact h2.2 m w vs _ _ ((FE_at encE_inj _ p).trans (if_pos ⟨h, h'⟩)) hd hr hj hg
theorem us_get {L : List T3} {n : Nat} (h : L.length = n) : (usL L).length = n := by rw [usL_length]; exact h
theorem us_props {nl : Bool} {sz : Nat} {l : List RW} (h : okAw (nl, sz, l)) : ∀ u ∈ usL (allL l), inR u.2.1 ∧ rightB u.1 u.2.1 u.2.2 = true := by
 intro u hu
 refine ⟨usL_in (allL_in h.2.1) u hu, ?_⟩
 obtain ⟨v, _, rfl⟩ := List.mem_map.1 hu
 exact plain_ok v
theorem onesG_no {l : List RW} {a b : Int} (h : onesC l a b = false) : onesG l a b = .tup [.sl true 0 [] none, .x (.bool false)] := by unfold onesG; rw [h]; rfl
theorem onesG_yes {l : List RW} {a b : Int} (h : onesC l a b = true) (hne : usL (allL l) ≠ []) : onesG l a b = .tup [.sl false 3 ((usL (allL l)).map tv) none, .x (.bool true)] := by
 unfold onesG
 rw [if_pos h]
 unfold freshR
 rw [usL0_eq]
 cases hU : usL (allL l) with
 | nil => exact absurd hU hne
 | cons a b => rfl
theorem right_text {k n : Int} {s : ByteArray} (h : rightB k n s = true) : s.size ≤ 281474976710656 := by
 have e : s.size = s.toList.length := by rw [Lib.toList_data]; rfl
 unfold rightB at h
 simp only [Bool.or_eq_true, Bool.and_eq_true, decide_eq_true_eq, List.isEmpty_iff, beq_iff_eq] at h
 rcases h with (((⟨_, h⟩ | ⟨_, h⟩) | ⟨_, h⟩) | ⟨_, h⟩) | ⟨_, h⟩
 · rw [e, h]; decide
 · rw [e, h]; decide
 · omega
 · rw [e, h]; decide
 · rw [e, h]; decide
def nmA (name : ByteArray) (least most : Int) : Prop := least = 1 ∧ most = 1 ∧ (name = ⟨#[78, 79, 84]⟩ ∨ name = ⟨#[65, 66, 83]⟩ ∨ name = ⟨#[83, 73, 71, 78]⟩ ∨ name = ⟨#[76, 69, 78]⟩ ∨ name = ⟨#[85, 80, 80, 69, 82]⟩ ∨ name = ⟨#[76, 79, 87, 69, 82]⟩ ∨ name = ⟨#[73, 83, 66, 76, 65, 78, 75]⟩)
set_option maxHeartbeats 16000000 in
set_option maxRecDepth 100000 in
theorem geachA_fun : FunV 54 (FE encE (GE nmA)) := by
 refine fun_of_run (E := envOf [(104, (FE encA3 GOnesG)), (56, FFault), (105, FTruth), (106, FBranch), (107, (FE encVR GChoose)), (108, FNot), (109, FOfNum), (110, FModG), (52, FFilled), (92, FShowV), (111, FOfText)]) (k := 4) (envOK_of _ ⟨gones_fun, gfault_fun, gtruth_fun, gbranch_fun, gchoose_fun, gnot_fun, gofnumber_fun, gmod_fun, gfilled_fun, showV_fun, goftext_fun, trivial⟩) (by kernel_rfl) Tryz.func54 rfl (fun a w => Tryz.call54 a w) Tryz.ntmps54 (by kernel_rfl) (by decide) (by decide) ?_
 intro us r hF hdat
 obtain ⟨⟨name, ⟨nl, sz, l⟩, least, most⟩, hus, hG⟩ := FE_out hF
 clear hF
 subst hus
 have hF := hG
 clear hG
 unfold GE at hF
 split at hF
 case isFalse => cases hF
 rename_i hok
 cases hF
 obtain ⟨hok, e1, e2, hnm⟩ := hok
 simp only at hok e1 e2 hnm
 subst e1 e2
 clear hdat
 refine ⟨rfl, ?_⟩
 simp only [encE, awV]
 have d1 : decide (name = ⟨#[73, 83, 69, 82, 82]⟩) = false := by rcases hnm with rfl | rfl | rfl | rfl | rfl | rfl | rfl <;> decide
 have d2 : decide (name = ⟨#[73, 70]⟩) = false := by rcases hnm with rfl | rfl | rfl | rfl | rfl | rfl | rfl <;> decide
 have d3 : decide (name = ⟨#[67, 72, 79, 79, 83, 69]⟩) = false := by rcases hnm with rfl | rfl | rfl | rfl | rfl | rfl | rfl <;> decide
 have hcall : callW name l = if oneL l 1 = true then withL (allL l) (one1 name) else (4, 6, ⟨#[]⟩) := by rcases hnm with rfl | rfl | rfl | rfl | rfl | rfl | rfl <;> rfl
 have hon := GOnesG_of (a := 1) (b := 1) hok
 by_cases hone : oneL l 1 = true
 · have hL := one_len (n := 1) hone
   have hUl := us_get hL
   have hpr := us_props hok
   rw [onesG_yes (by rw [onesC_oneL (by decide)]; exact hone) (by intro e; rw [e] at hUl; cases hUl)] at hon
   rw [if_pos hone, withL_us] at hcall
   generalize usL (allL l) = U at *
   obtain ⟨⟨k0, n0, s0⟩, hUe⟩ : ∃ u0, U = [u0] := match U, hUl with
    | [u0], _ => ⟨u0, rfl⟩
   obtain ⟨hi0, hr0⟩ := hpr (k0, n0, s0) (by rw [hUe]; simp)
   simp only at hi0 hr0
   have hl : (U.length : Int) = 1 := by rw [hUe]; rfl
   have f0 : (U.map tv)[0]? = some (vl k0 n0 s0) := by rw [hUe]; rfl
   have fd : List.take (1 - 1) (List.drop 1 (U.map tv)) = [] := by rw [hUe]; rfl
   rw [hUe] at hcall
   generalize callW name l = R at hcall ⊢
   have hR0 : k0 = 4 → R = (k0, n0, s0) := by intros; rw [hcall]; simp [faultU, *]
   have hRn : k0 ≠ 4 → R = one1 name [(k0, n0, s0)] := by intros; rw [hcall]; simp [faultU, *]
   clear hcall hUe
   simp +decide (maxDischargeDepth := 200) only [go_sem, hon, f0, d1, d2, d3, List.length_map, hl, Tryz.results54]
   refine loop_of (X := {i : Int // i = 0 ∨ i = 1 ∧ k0 ≠ 4}) (fun i => [(0, .x (.string name)), (8, .ptr 8 0), (9, .sl false 3 (U.map tv) none), (11, .ptr 11 0), (50, .sl false 3 (U.map tv) none), (51, .x (.int .i64 1)), (52, .x (.int .i64 i.1))]) (fun i => [(8, [.x (.int .i64 0), .x (.int .i64 0), .x (.string ⟨#[]⟩)]), (11, [.x (.int .i64 k0), .x (.int .i64 n0), .x (.string s0)])]) (fun i => (1 - i.1).toNat) ⟨0, .inl rfl⟩ (by simp +decide only [go_sem] <;> (repeat' first | rfl | constructor)) (by simp +decide only [go_sem] <;> (repeat' first | rfl | constructor)) (fun ⟨i, hi⟩ => ?_)
   rcases hi with rfl | ⟨rfl, h0⟩
   · by_cases h0 : k0 = 4
     · have d4 := decide_eq_true h0
       rw [hR0  h0]
       simp +decide (maxDischargeDepth := 200) only [go_sem, List.length_map, hl, f0, d4, Tryz.results54]
     · have d4 := decide_eq_false h0
       have w1 : bWrap .i64 (0 + 1) = 1 := bwrap_of (by unfold inR; omega)
       simp +decide (maxDischargeDepth := 200) only [go_sem, List.length_map, hl, f0, d4, w1, Tryz.results54]
       refine ⟨⟨1, .inr (⟨rfl, h0⟩)⟩, ?_, ?_, ?_⟩
       · simp +decide (maxDischargeDepth := 200) only [go_sem]
       · simp +decide (maxDischargeDepth := 200) only [go_sem]
       · show ((1 : Int) - 1).toNat < ((1 : Int) - 0).toNat
         decide
   · rw [hRn h0]
     have hsz := showB_size (k := k0) (s := s0) hi0
     rcases hnm with rfl | rfl | rfl | rfl | rfl | rfl | rfl
     · rw [show one1 ⟨#[78, 79, 84]⟩ [(k0, n0, s0)] = notW (k0, n0, s0) from (not_same hr0 h0).symm]
       simp +decide (maxDischargeDepth := 200) only [go_sem, List.length_map, hl, FNot, Tryz.results54]
     · rw [show one1 ⟨#[65, 66, 83]⟩ [(k0, n0, s0)] = ofNumW ⟨#[65, 66, 83]⟩ (k0, n0, s0) from (ofNum_same hr0 (.inl rfl)).symm]
       simp +decide (maxDischargeDepth := 200) only [go_sem, List.length_map, hl, FOfNum, hi0, Tryz.results54]
     · rw [show one1 ⟨#[83, 73, 71, 78]⟩ [(k0, n0, s0)] = ofNumW ⟨#[83, 73, 71, 78]⟩ (k0, n0, s0) from (ofNum_same hr0 (.inr rfl)).symm]
       simp +decide (maxDischargeDepth := 200) only [go_sem, List.length_map, hl, FOfNum, hi0, Tryz.results54]
     · rw [show one1 ⟨#[76, 69, 78]⟩ [(k0, n0, s0)] = text0 ⟨#[76, 69, 78]⟩ (showB k0 n0 s0) from rfl]
       have ht := FOfText_0 (nl := false) (sz := 3) hsz (.inl (rfl : (⟨#[76, 69, 78]⟩ : ByteArray) = _))
       simp +decide (maxDischargeDepth := 200) only [go_sem, List.length_map, hl, FShowV, hi0, fd, ht, Tryz.results54]
     · rw [show one1 ⟨#[85, 80, 80, 69, 82]⟩ [(k0, n0, s0)] = text0 ⟨#[85, 80, 80, 69, 82]⟩ (showB k0 n0 s0) from (upper_same (g := true) hsz).symm]
       have ht := FOfText_0 (nl := false) (sz := 3) hsz (.inr (.inl (rfl : (⟨#[85, 80, 80, 69, 82]⟩ : ByteArray) = _)))
       simp +decide (maxDischargeDepth := 200) only [go_sem, List.length_map, hl, FShowV, hi0, fd, ht, Tryz.results54]
     · rw [show one1 ⟨#[76, 79, 87, 69, 82]⟩ [(k0, n0, s0)] = text0 ⟨#[76, 79, 87, 69, 82]⟩ (showB k0 n0 s0) from (upper_same (g := false) hsz).symm]
       have ht := FOfText_0 (nl := false) (sz := 3) hsz (.inr (.inr (rfl : (⟨#[76, 79, 87, 69, 82]⟩ : ByteArray) = _)))
       simp +decide (maxDischargeDepth := 200) only [go_sem, List.length_map, hl, FShowV, hi0, fd, ht, Tryz.results54]
     · rw [show one1 ⟨#[73, 83, 66, 76, 65, 78, 75]⟩ [(k0, n0, s0)] = boolW (decide (k0 = 0)) from rfl]
       cases hb : decide (k0 = 0)
       · simp +decide (maxDischargeDepth := 200) only [go_sem, List.length_map, hl, FFilled, FTruth, boolW, hb, Tryz.results54]
       · simp +decide (maxDischargeDepth := 200) only [go_sem, List.length_map, hl, FFilled, FTruth, boolW, hb, Tryz.results54]
 · have hone' : oneL l 1 = false := by simpa using hone
   rw [onesG_no (by rw [onesC_oneL (by decide)]; exact hone')] at hon
   rw [if_neg hone] at hcall
   rw [hcall]
   simp +decide (maxDischargeDepth := 200) only [go_sem, hon, FFault, Tryz.results54]
def nmB (name : ByteArray) (least most : Int) : Prop := least = 2 ∧ most = 2 ∧ (name = ⟨#[77, 79, 68]⟩ ∨ name = ⟨#[76, 69, 70, 84]⟩ ∨ name = ⟨#[82, 73, 71, 72, 84]⟩ ∨ name = ⟨#[70, 73, 78, 68]⟩)
set_option maxHeartbeats 16000000 in
set_option maxRecDepth 100000 in
theorem geachB_fun : FunV 54 (FE encE (GE nmB)) := by
 refine fun_of_run (E := envOf [(104, (FE encA3 GOnesG)), (56, FFault), (105, FTruth), (106, FBranch), (107, (FE encVR GChoose)), (108, FNot), (109, FOfNum), (110, FModG), (52, FFilled), (92, FShowV), (111, FOfText)]) (k := 4) (envOK_of _ ⟨gones_fun, gfault_fun, gtruth_fun, gbranch_fun, gchoose_fun, gnot_fun, gofnumber_fun, gmod_fun, gfilled_fun, showV_fun, goftext_fun, trivial⟩) (by kernel_rfl) Tryz.func54 rfl (fun a w => Tryz.call54 a w) Tryz.ntmps54 (by kernel_rfl) (by decide) (by decide) ?_
 intro us r hF hdat
 obtain ⟨⟨name, ⟨nl, sz, l⟩, least, most⟩, hus, hG⟩ := FE_out hF
 clear hF
 subst hus
 have hF := hG
 clear hG
 unfold GE at hF
 split at hF
 case isFalse => cases hF
 rename_i hok
 cases hF
 obtain ⟨hok, e1, e2, hnm⟩ := hok
 simp only at hok e1 e2 hnm
 subst e1 e2
 clear hdat
 refine ⟨rfl, ?_⟩
 simp only [encE, awV]
 have d1 : decide (name = ⟨#[73, 83, 69, 82, 82]⟩) = false := by rcases hnm with rfl | rfl | rfl | rfl <;> decide
 have d2 : decide (name = ⟨#[73, 70]⟩) = false := by rcases hnm with rfl | rfl | rfl | rfl <;> decide
 have d3 : decide (name = ⟨#[67, 72, 79, 79, 83, 69]⟩) = false := by rcases hnm with rfl | rfl | rfl | rfl <;> decide
 have hcall : callW name l = if oneL l 2 = true then withL (allL l) (two2 name) else (4, 6, ⟨#[]⟩) := by rcases hnm with rfl | rfl | rfl | rfl <;> rfl
 have hon := GOnesG_of (a := 2) (b := 2) hok
 by_cases hone : oneL l 2 = true
 · have hL := one_len (n := 2) hone
   have hUl := us_get hL
   have hpr := us_props hok
   rw [onesG_yes (by rw [onesC_oneL (by decide)]; exact hone) (by intro e; rw [e] at hUl; cases hUl)] at hon
   rw [if_pos hone, withL_us] at hcall
   generalize usL (allL l) = U at *
   obtain ⟨⟨k0, n0, s0⟩, ⟨k1, n1, s1⟩, hUe⟩ : ∃ u0 u1, U = [u0, u1] := match U, hUl with
    | [u0, u1], _ => ⟨u0, u1, rfl⟩
   obtain ⟨hi0, hr0⟩ := hpr (k0, n0, s0) (by rw [hUe]; simp)
   obtain ⟨hi1, hr1⟩ := hpr (k1, n1, s1) (by rw [hUe]; simp)
   simp only at hi0 hr0 hi1 hr1
   have hl : (U.length : Int) = 2 := by rw [hUe]; rfl
   have f0 : (U.map tv)[0]? = some (vl k0 n0 s0) := by rw [hUe]; rfl
   have f1 : (U.map tv)[1]? = some (vl k1 n1 s1) := by rw [hUe]; rfl
   have fd : List.take (2 - 1) (List.drop 1 (U.map tv)) = [vl k1 n1 s1] := by rw [hUe]; rfl
   rw [hUe] at hcall
   generalize callW name l = R at hcall ⊢
   have hR0 : k0 = 4 → R = (k0, n0, s0) := by intros; rw [hcall]; simp [faultU, *]
   have hR1 : k0 ≠ 4 → k1 = 4 → R = (k1, n1, s1) := by intros; rw [hcall]; simp [faultU, *]
   have hRn : k0 ≠ 4 → k1 ≠ 4 → R = two2 name [(k0, n0, s0), (k1, n1, s1)] := by intros; rw [hcall]; simp [faultU, *]
   clear hcall hUe
   simp +decide (maxDischargeDepth := 200) only [go_sem, hon, f0, d1, d2, d3, List.length_map, hl, Tryz.results54]
   refine loop_of (X := {i : Int // i = 0 ∨ i = 1 ∧ k0 ≠ 4 ∨ i = 2 ∧ k0 ≠ 4 ∧ k1 ≠ 4}) (fun i => [(0, .x (.string name)), (8, .ptr 8 0), (9, .sl false 3 (U.map tv) none), (11, .ptr 11 0), (50, .sl false 3 (U.map tv) none), (51, .x (.int .i64 2)), (52, .x (.int .i64 i.1))]) (fun i => [(8, [.x (.int .i64 0), .x (.int .i64 0), .x (.string ⟨#[]⟩)]), (11, [.x (.int .i64 k0), .x (.int .i64 n0), .x (.string s0)])]) (fun i => (2 - i.1).toNat) ⟨0, .inl rfl⟩ (by simp +decide only [go_sem] <;> (repeat' first | rfl | constructor)) (by simp +decide only [go_sem] <;> (repeat' first | rfl | constructor)) (fun ⟨i, hi⟩ => ?_)
   rcases hi with rfl | ⟨rfl, h0⟩ | ⟨rfl, h0, h1⟩
   · by_cases h0 : k0 = 4
     · have d4 := decide_eq_true h0
       rw [hR0  h0]
       simp +decide (maxDischargeDepth := 200) only [go_sem, List.length_map, hl, f0, d4, Tryz.results54]
     · have d4 := decide_eq_false h0
       have w1 : bWrap .i64 (0 + 1) = 1 := bwrap_of (by unfold inR; omega)
       simp +decide (maxDischargeDepth := 200) only [go_sem, List.length_map, hl, f0, d4, w1, Tryz.results54]
       refine ⟨⟨1, .inr (.inl ⟨rfl, h0⟩)⟩, ?_, ?_, ?_⟩
       · simp +decide (maxDischargeDepth := 200) only [go_sem]
       · simp +decide (maxDischargeDepth := 200) only [go_sem]
       · show ((2 : Int) - 1).toNat < ((2 : Int) - 0).toNat
         decide
   · by_cases h1 : k1 = 4
     · have d4 := decide_eq_true h1
       rw [hR1 h0 h1]
       simp +decide (maxDischargeDepth := 200) only [go_sem, List.length_map, hl, f1, d4, Tryz.results54]
     · have d4 := decide_eq_false h1
       have w1 : bWrap .i64 (1 + 1) = 2 := bwrap_of (by unfold inR; omega)
       simp +decide (maxDischargeDepth := 200) only [go_sem, List.length_map, hl, f1, d4, w1, Tryz.results54]
       refine ⟨⟨2, .inr (.inr (⟨rfl, h0, h1⟩))⟩, ?_, ?_, ?_⟩
       · simp +decide (maxDischargeDepth := 200) only [go_sem]
       · simp +decide (maxDischargeDepth := 200) only [go_sem]
       · show ((2 : Int) - 2).toNat < ((2 : Int) - 1).toNat
         decide
   · rw [hRn h0 h1]
     have hsz := showB_size (k := k0) (s := s0) hi0
     rcases hnm with rfl | rfl | rfl | rfl
     · rw [show two2 ⟨#[77, 79, 68]⟩ [(k0, n0, s0), (k1, n1, s1)] = modG (k0, n0, s0) (k1, n1, s1) from (mod_same _ _).symm]
       simp +decide (maxDischargeDepth := 200) only [go_sem, List.length_map, hl, f1, FModG, hi0, hi1, Tryz.results54]
     · rw [show two2 ⟨#[76, 69, 70, 84]⟩ [(k0, n0, s0), (k1, n1, s1)] = sideG ⟨#[76, 69, 70, 84]⟩ (showB k0 n0 s0) (k1, n1, s1) from (side_same (a := (k0, n0, s0)) hsz (.inl rfl)).symm]
       have ht := FOfText_1 (nl := false) (k := k1) (n := n1) (t := s1) hsz hi1 (.inr (.inl (rfl : (⟨#[76, 69, 70, 84]⟩ : ByteArray) = _)))
       rw [if_neg (by decide)] at ht
       simp +decide (maxDischargeDepth := 200) only [go_sem, List.length_map, hl, FShowV, hi0, fd, ht, Tryz.results54]
     · rw [show two2 ⟨#[82, 73, 71, 72, 84]⟩ [(k0, n0, s0), (k1, n1, s1)] = sideG ⟨#[82, 73, 71, 72, 84]⟩ (showB k0 n0 s0) (k1, n1, s1) from (side_same (a := (k0, n0, s0)) hsz (.inr rfl)).symm]
       have ht := FOfText_1 (nl := false) (k := k1) (n := n1) (t := s1) hsz hi1 (.inr (.inr (rfl : (⟨#[82, 73, 71, 72, 84]⟩ : ByteArray) = _)))
       rw [if_neg (by decide)] at ht
       simp +decide (maxDischargeDepth := 200) only [go_sem, List.length_map, hl, FShowV, hi0, fd, ht, Tryz.results54]
     · rw [show two2 ⟨#[70, 73, 78, 68]⟩ [(k0, n0, s0), (k1, n1, s1)] = findG (showB k0 n0 s0) (k1, n1, s1) from (find_same _ _).symm]
       have ht := FOfText_1 (nl := false) (k := k1) (n := n1) (t := s1) hsz hi1 (.inl (rfl : (⟨#[70, 73, 78, 68]⟩ : ByteArray) = _))
       rw [if_pos rfl] at ht
       simp +decide (maxDischargeDepth := 200) only [go_sem, List.length_map, hl, FShowV, hi0, fd, ht, Tryz.results54]
 · have hone' : oneL l 2 = false := by simpa using hone
   rw [onesG_no (by rw [onesC_oneL (by decide)]; exact hone')] at hon
   rw [if_neg hone] at hcall
   rw [hcall]
   simp +decide (maxDischargeDepth := 200) only [go_sem, hon, FFault, Tryz.results54]
def nmC (name : ByteArray) (least most : Int) : Prop := least = 3 ∧ most = 3 ∧ (name = ⟨#[77, 73, 68]⟩)
set_option maxHeartbeats 16000000 in
set_option maxRecDepth 100000 in
theorem geachC_fun : FunV 54 (FE encE (GE nmC)) := by
 refine fun_of_run (E := envOf [(104, (FE encA3 GOnesG)), (56, FFault), (105, FTruth), (106, FBranch), (107, (FE encVR GChoose)), (108, FNot), (109, FOfNum), (110, FModG), (52, FFilled), (92, FShowV), (111, FOfText)]) (k := 4) (envOK_of _ ⟨gones_fun, gfault_fun, gtruth_fun, gbranch_fun, gchoose_fun, gnot_fun, gofnumber_fun, gmod_fun, gfilled_fun, showV_fun, goftext_fun, trivial⟩) (by kernel_rfl) Tryz.func54 rfl (fun a w => Tryz.call54 a w) Tryz.ntmps54 (by kernel_rfl) (by decide) (by decide) ?_
 intro us r hF hdat
 obtain ⟨⟨name, ⟨nl, sz, l⟩, least, most⟩, hus, hG⟩ := FE_out hF
 clear hF
 subst hus
 have hF := hG
 clear hG
 unfold GE at hF
 split at hF
 case isFalse => cases hF
 rename_i hok
 cases hF
 obtain ⟨hok, e1, e2, hnm⟩ := hok
 simp only at hok e1 e2 hnm
 subst e1 e2
 clear hdat
 refine ⟨rfl, ?_⟩
 simp only [encE, awV]
 have d1 : decide (name = ⟨#[73, 83, 69, 82, 82]⟩) = false := by subst hnm <;> decide
 have d2 : decide (name = ⟨#[73, 70]⟩) = false := by subst hnm <;> decide
 have d3 : decide (name = ⟨#[67, 72, 79, 79, 83, 69]⟩) = false := by subst hnm <;> decide
 have hcall : callW name l = if oneL l 3 = true then withL (allL l) (mid3) else (4, 6, ⟨#[]⟩) := by subst hnm <;> rfl
 have hon := GOnesG_of (a := 3) (b := 3) hok
 by_cases hone : oneL l 3 = true
 · have hL := one_len (n := 3) hone
   have hUl := us_get hL
   have hpr := us_props hok
   rw [onesG_yes (by rw [onesC_oneL (by decide)]; exact hone) (by intro e; rw [e] at hUl; cases hUl)] at hon
   rw [if_pos hone, withL_us] at hcall
   generalize usL (allL l) = U at *
   obtain ⟨⟨k0, n0, s0⟩, ⟨k1, n1, s1⟩, ⟨k2, n2, s2⟩, hUe⟩ : ∃ u0 u1 u2, U = [u0, u1, u2] := match U, hUl with
    | [u0, u1, u2], _ => ⟨u0, u1, u2, rfl⟩
   obtain ⟨hi0, hr0⟩ := hpr (k0, n0, s0) (by rw [hUe]; simp)
   obtain ⟨hi1, hr1⟩ := hpr (k1, n1, s1) (by rw [hUe]; simp)
   obtain ⟨hi2, hr2⟩ := hpr (k2, n2, s2) (by rw [hUe]; simp)
   simp only at hi0 hr0 hi1 hr1 hi2 hr2
   have hl : (U.length : Int) = 3 := by rw [hUe]; rfl
   have f0 : (U.map tv)[0]? = some (vl k0 n0 s0) := by rw [hUe]; rfl
   have f1 : (U.map tv)[1]? = some (vl k1 n1 s1) := by rw [hUe]; rfl
   have f2 : (U.map tv)[2]? = some (vl k2 n2 s2) := by rw [hUe]; rfl
   have fd : List.take (3 - 1) (List.drop 1 (U.map tv)) = [vl k1 n1 s1, vl k2 n2 s2] := by rw [hUe]; rfl
   rw [hUe] at hcall
   generalize callW name l = R at hcall ⊢
   have hR0 : k0 = 4 → R = (k0, n0, s0) := by intros; rw [hcall]; simp [faultU, *]
   have hR1 : k0 ≠ 4 → k1 = 4 → R = (k1, n1, s1) := by intros; rw [hcall]; simp [faultU, *]
   have hR2 : k0 ≠ 4 → k1 ≠ 4 → k2 = 4 → R = (k2, n2, s2) := by intros; rw [hcall]; simp [faultU, *]
   have hRn : k0 ≠ 4 → k1 ≠ 4 → k2 ≠ 4 → R = mid3 [(k0, n0, s0), (k1, n1, s1), (k2, n2, s2)] := by intros; rw [hcall]; simp [faultU, *]
   clear hcall hUe
   simp +decide (maxDischargeDepth := 200) only [go_sem, hon, f0, d1, d2, d3, List.length_map, hl, Tryz.results54]
   refine loop_of (X := {i : Int // i = 0 ∨ i = 1 ∧ k0 ≠ 4 ∨ i = 2 ∧ k0 ≠ 4 ∧ k1 ≠ 4 ∨ i = 3 ∧ k0 ≠ 4 ∧ k1 ≠ 4 ∧ k2 ≠ 4}) (fun i => [(0, .x (.string name)), (8, .ptr 8 0), (9, .sl false 3 (U.map tv) none), (11, .ptr 11 0), (50, .sl false 3 (U.map tv) none), (51, .x (.int .i64 3)), (52, .x (.int .i64 i.1))]) (fun i => [(8, [.x (.int .i64 0), .x (.int .i64 0), .x (.string ⟨#[]⟩)]), (11, [.x (.int .i64 k0), .x (.int .i64 n0), .x (.string s0)])]) (fun i => (3 - i.1).toNat) ⟨0, .inl rfl⟩ (by simp +decide only [go_sem] <;> (repeat' first | rfl | constructor)) (by simp +decide only [go_sem] <;> (repeat' first | rfl | constructor)) (fun ⟨i, hi⟩ => ?_)
   rcases hi with rfl | ⟨rfl, h0⟩ | ⟨rfl, h0, h1⟩ | ⟨rfl, h0, h1, h2⟩
   · by_cases h0 : k0 = 4
     · have d4 := decide_eq_true h0
       rw [hR0  h0]
       simp +decide (maxDischargeDepth := 200) only [go_sem, List.length_map, hl, f0, d4, Tryz.results54]
     · have d4 := decide_eq_false h0
       have w1 : bWrap .i64 (0 + 1) = 1 := bwrap_of (by unfold inR; omega)
       simp +decide (maxDischargeDepth := 200) only [go_sem, List.length_map, hl, f0, d4, w1, Tryz.results54]
       refine ⟨⟨1, .inr (.inl ⟨rfl, h0⟩)⟩, ?_, ?_, ?_⟩
       · simp +decide (maxDischargeDepth := 200) only [go_sem]
       · simp +decide (maxDischargeDepth := 200) only [go_sem]
       · show ((3 : Int) - 1).toNat < ((3 : Int) - 0).toNat
         decide
   · by_cases h1 : k1 = 4
     · have d4 := decide_eq_true h1
       rw [hR1 h0 h1]
       simp +decide (maxDischargeDepth := 200) only [go_sem, List.length_map, hl, f1, d4, Tryz.results54]
     · have d4 := decide_eq_false h1
       have w1 : bWrap .i64 (1 + 1) = 2 := bwrap_of (by unfold inR; omega)
       simp +decide (maxDischargeDepth := 200) only [go_sem, List.length_map, hl, f1, d4, w1, Tryz.results54]
       refine ⟨⟨2, .inr (.inr (.inl ⟨rfl, h0, h1⟩))⟩, ?_, ?_, ?_⟩
       · simp +decide (maxDischargeDepth := 200) only [go_sem]
       · simp +decide (maxDischargeDepth := 200) only [go_sem]
       · show ((3 : Int) - 2).toNat < ((3 : Int) - 1).toNat
         decide
   · by_cases h2 : k2 = 4
     · have d4 := decide_eq_true h2
       rw [hR2 h0 h1 h2]
       simp +decide (maxDischargeDepth := 200) only [go_sem, List.length_map, hl, f2, d4, Tryz.results54]
     · have d4 := decide_eq_false h2
       have w1 : bWrap .i64 (2 + 1) = 3 := bwrap_of (by unfold inR; omega)
       simp +decide (maxDischargeDepth := 200) only [go_sem, List.length_map, hl, f2, d4, w1, Tryz.results54]
       refine ⟨⟨3, .inr (.inr (.inr (⟨rfl, h0, h1, h2⟩)))⟩, ?_, ?_, ?_⟩
       · simp +decide (maxDischargeDepth := 200) only [go_sem]
       · simp +decide (maxDischargeDepth := 200) only [go_sem]
       · show ((3 : Int) - 3).toNat < ((3 : Int) - 2).toNat
         decide
   · rw [hRn h0 h1 h2]
     have hsz := showB_size (k := k0) (s := s0) hi0
     subst hnm
     · rw [show mid3 [(k0, n0, s0), (k1, n1, s1), (k2, n2, s2)] = midG (showB k0 n0 s0) (k1, n1, s1) (k2, n2, s2) from (mid_same (a := (k0, n0, s0)) (b := (k1, n1, s1)) (c := (k2, n2, s2)) hsz hr2 h2).symm]
       have ht := FOfText_2 (nl := false) (k := k1) (n := n1) (t := s1) (k' := k2) (n' := n2) (t' := s2) hsz hi1 hi2 (rfl : (⟨#[77, 73, 68]⟩ : ByteArray) = _)
       simp +decide (maxDischargeDepth := 200) only [go_sem, List.length_map, hl, FShowV, hi0, fd, ht, Tryz.results54]
 · have hone' : oneL l 3 = false := by simpa using hone
   rw [onesG_no (by rw [onesC_oneL (by decide)]; exact hone')] at hon
   rw [if_neg hone] at hcall
   rw [hcall]
   simp +decide (maxDischargeDepth := 200) only [go_sem, hon, FFault, Tryz.results54]
def nmR (name : ByteArray) (least most : Int) : Prop := least = 1 ∧ most = 1 ∧ name = ⟨#[73, 83, 69, 82, 82]⟩
set_option maxHeartbeats 16000000 in
set_option maxRecDepth 100000 in
theorem geachR_fun : FunV 54 (FE encE (GE nmR)) := by
 refine fun_of_run (E := envOf [(104, (FE encA3 GOnesG)), (56, FFault), (105, FTruth), (106, FBranch), (107, (FE encVR GChoose)), (108, FNot), (109, FOfNum), (110, FModG), (52, FFilled), (92, FShowV), (111, FOfText)]) (k := 4) (envOK_of _ ⟨gones_fun, gfault_fun, gtruth_fun, gbranch_fun, gchoose_fun, gnot_fun, gofnumber_fun, gmod_fun, gfilled_fun, showV_fun, goftext_fun, trivial⟩) (by kernel_rfl) Tryz.func54 rfl (fun a w => Tryz.call54 a w) Tryz.ntmps54 (by kernel_rfl) (by decide) (by decide) ?_
 intro us r hF hdat
 obtain ⟨⟨name, ⟨nl, sz, l⟩, least, most⟩, hus, hG⟩ := FE_out hF
 clear hF
 subst hus
 have hF := hG
 clear hG
 unfold GE at hF
 split at hF
 case isFalse => cases hF
 rename_i hok
 cases hF
 obtain ⟨hok, e1, e2, e3⟩ := hok
 simp only at hok e1 e2 e3
 subst e1 e2 e3
 clear hdat
 refine ⟨rfl, ?_⟩
 simp only [encE, awV]
 have hcall : callW ⟨#[73, 83, 69, 82, 82]⟩ l = if oneL l 1 = true then boolW (faultL (allL l)).isSome else (4, 6, ⟨#[]⟩) := rfl
 have hon := GOnesG_of (a := 1) (b := 1) hok
 by_cases hone : oneL l 1 = true
 · have hL := one_len (n := 1) hone
   have hUl := us_get hL
   rw [onesG_yes (by rw [onesC_oneL (by decide)]; exact hone) (by intro e; rw [e] at hUl; cases hUl)] at hon
   rw [if_pos hone, faultL_us] at hcall
   generalize usL (allL l) = U at *
   obtain ⟨⟨k0, n0, s0⟩, hUe⟩ : ∃ u0, U = [u0] := match U, hUl with
    | [u0], _ => ⟨u0, rfl⟩
   have f0 : (U.map tv)[0]? = some (vl k0 n0 s0) := by rw [hUe]; rfl
   rw [hcall, boolW_tv, hUe]
   have e9 : (faultU [(k0, n0, s0)]).isSome = decide (k0 = 4) := by
    unfold faultU
    rw [List.find?_cons]
    cases decide (k0 = 4) <;> rfl
   rw [e9]
   cases hb : decide (k0 = 4)
   · simp +decide (maxDischargeDepth := 200) only [go_sem, hon, f0, hb, FTruth, Tryz.results54]
   · simp +decide (maxDischargeDepth := 200) only [go_sem, hon, f0, hb, FTruth, Tryz.results54]
 · have hone' : oneL l 1 = false := by simpa using hone
   rw [onesG_no (by rw [onesC_oneL (by decide)]; exact hone')] at hon
   rw [if_neg hone] at hcall
   rw [hcall]
   simp +decide (maxDischargeDepth := 200) only [go_sem, hon, FFault, Tryz.results54]
def nmI (name : ByteArray) (least most : Int) : Prop := least = 3 ∧ most = 3 ∧ name = ⟨#[73, 70]⟩
set_option maxHeartbeats 16000000 in
set_option maxRecDepth 100000 in
theorem geachI_fun : FunV 54 (FE encE (GE nmI)) := by
 refine fun_of_run (E := envOf [(104, (FE encA3 GOnesG)), (56, FFault), (105, FTruth), (106, FBranch), (107, (FE encVR GChoose)), (108, FNot), (109, FOfNum), (110, FModG), (52, FFilled), (92, FShowV), (111, FOfText)]) (k := 4) (envOK_of _ ⟨gones_fun, gfault_fun, gtruth_fun, gbranch_fun, gchoose_fun, gnot_fun, gofnumber_fun, gmod_fun, gfilled_fun, showV_fun, goftext_fun, trivial⟩) (by kernel_rfl) Tryz.func54 rfl (fun a w => Tryz.call54 a w) Tryz.ntmps54 (by kernel_rfl) (by decide) (by decide) ?_
 intro us r hF hdat
 obtain ⟨⟨name, ⟨nl, sz, l⟩, least, most⟩, hus, hG⟩ := FE_out hF
 clear hF
 subst hus
 have hF := hG
 clear hG
 unfold GE at hF
 split at hF
 case isFalse => cases hF
 rename_i hok
 cases hF
 obtain ⟨hok, e1, e2, e3⟩ := hok
 simp only at hok e1 e2 e3
 subst e1 e2 e3
 clear hdat
 refine ⟨rfl, ?_⟩
 simp only [encE, awV]
 have hcall : callW ⟨#[73, 70]⟩ l = if oneL l (l.length : Int) = true then ifW (allL l) else (4, 6, ⟨#[]⟩) := rfl
 have hon := GOnesG_of (a := 3) (b := 3) hok
 by_cases hone : oneL l 3 = true
 · have hL := one_len (n := 3) hone
   have hln : (l.length : Int) = 3 := by
    unfold oneL at hone
    rw [Bool.and_eq_true] at hone
    exact of_decide_eq_true hone.1
   have hpr := us_props hok
   have hUl := us_get hL
   rw [onesG_yes (by rw [onesC_oneL (by decide)]; exact hone) (by intro e; rw [e] at hUl; cases hUl)] at hon
   rw [hln, if_pos hone] at hcall
   generalize hA : allL l = L at *
   obtain ⟨v0, v1, v2, rfl⟩ : ∃ v0 v1 v2, L = [v0, v1, v2] := match L, hL with
    | [v0, v1, v2], _ => ⟨v0, v1, v2, rfl⟩
   rw [← branch_same] at hcall
   generalize hUe : usL [v0, v1, v2] = U at *
   have hUe : [plainT v0, plainT v1, plainT v2] = U := hUe
   generalize plainT v0 = u0 at *
   generalize plainT v1 = u1 at *
   generalize plainT v2 = u2 at *
   obtain ⟨k0, n0, s0⟩ := u0
   obtain ⟨k1, n1, s1⟩ := u1
   obtain ⟨k2, n2, s2⟩ := u2
   have f0 : (U.map tv)[0]? = some (vl k0 n0 s0) := by rw [← hUe]; rfl
   have f1 : (U.map tv)[1]? = some (vl k1 n1 s1) := by rw [← hUe]; rfl
   have f2 : (U.map tv)[2]? = some (vl k2 n2 s2) := by rw [← hUe]; rfl
   have t1 := right_text (hpr (k1, n1, s1) (by rw [← hUe]; simp)).2
   have t2 := right_text (hpr (k2, n2, s2) (by rw [← hUe]; simp)).2
   rw [hcall]
   clear hUe
   simp +decide (maxDischargeDepth := 200) only [go_sem, hon, f0, f1, f2, FBranch, t1, t2, Tryz.results54]
 · have hone' : oneL l 3 = false := by simpa using hone
   rw [onesG_no (by rw [onesC_oneL (by decide)]; exact hone')] at hon
   have e6 : callW ⟨#[73, 70]⟩ l = (4, 6, ⟨#[]⟩) := by
    rw [hcall]
    by_cases h1 : oneL l (l.length : Int) = true
    · rw [if_pos h1]
      have h2 := allL_len h1
      have h3 : l.length ≠ 3 := fun e => by rw [e] at h1; exact hone h1
      unfold ifW
      split
      · rename_i e; rw [e] at h2; exact absurd h2.symm h3
      · rfl
    · rw [if_neg h1]
   rw [e6]
   simp +decide (maxDischargeDepth := 200) only [go_sem, hon, FFault, Tryz.results54]
def nmD (name : ByteArray) (least most : Int) : Prop := least = 2 ∧ most = -1 ∧ name = ⟨#[67, 72, 79, 79, 83, 69]⟩
set_option maxHeartbeats 16000000 in
set_option maxRecDepth 100000 in
theorem geachD_fun : FunV 54 (FE encE (GE nmD)) := by
 refine fun_of_run (E := envOf [(104, (FE encA3 GOnesG)), (56, FFault), (105, FTruth), (106, FBranch), (107, (FE encVR GChoose)), (108, FNot), (109, FOfNum), (110, FModG), (52, FFilled), (92, FShowV), (111, FOfText)]) (k := 4) (envOK_of _ ⟨gones_fun, gfault_fun, gtruth_fun, gbranch_fun, gchoose_fun, gnot_fun, gofnumber_fun, gmod_fun, gfilled_fun, showV_fun, goftext_fun, trivial⟩) (by kernel_rfl) Tryz.func54 rfl (fun a w => Tryz.call54 a w) Tryz.ntmps54 (by kernel_rfl) (by decide) (by decide) ?_
 intro us r hF hdat
 obtain ⟨⟨name, ⟨nl, sz, l⟩, least, most⟩, hus, hG⟩ := FE_out hF
 clear hF
 subst hus
 have hF := hG
 clear hG
 unfold GE at hF
 split at hF
 case isFalse => cases hF
 rename_i hok
 cases hF
 obtain ⟨hok, e1, e2, e3⟩ := hok
 simp only at hok e1 e2 e3
 subst e1 e2 e3
 clear hdat
 refine ⟨rfl, ?_⟩
 simp only [encE, awV]
 have hcall : callW ⟨#[67, 72, 79, 79, 83, 69]⟩ l = if oneL l (l.length : Int) = true then chooseW (allL l) else (4, 6, ⟨#[]⟩) := rfl
 have hon := GOnesG_of (a := 2) (b := -1) hok
 have hoc : onesC l 2 (-1) = (!decide ((l.length : Int) < 2) && oneL l (l.length : Int)) := by
  unfold onesC oneL
  rw [decide_eq_true (p := (-1 : Int) = -1) rfl, decide_eq_true (p := (l.length : Int) = (l.length : Int)) rfl]
  simp
 by_cases h1 : oneL l (l.length : Int) = true
 · have hL := allL_len h1
   rw [if_pos h1] at hcall
   by_cases h2 : (l.length : Int) < 2
   · rw [onesG_no (by rw [hoc, decide_eq_true h2]; rfl)] at hon
     have e6 : callW ⟨#[67, 72, 79, 79, 83, 69]⟩ l = (4, 6, ⟨#[]⟩) := by
      rw [hcall]
      unfold chooseW
      split
      · rename_i e; rw [e] at hL; simp only [List.length_cons] at hL; omega
      · rfl
     rw [e6]
     simp +decide (maxDischargeDepth := 200) only [go_sem, hon, FFault, Tryz.results54]
   · obtain ⟨v0, v1, rest, hA⟩ : ∃ v0 v1 rest, allL l = v0 :: v1 :: rest := by
      match hm : allL l with
      | [] => rw [hm] at hL; simp at hL; omega
      | [v0] => rw [hm] at hL; simp at hL; omega
      | v0 :: v1 :: rest => exact ⟨v0, v1, rest, rfl⟩
     have hpr := us_props hok
     have hlU : (usL (allL l)).length ≤ 1000000 := usAll_len hok
     rw [onesG_yes (by rw [hoc, decide_eq_false h2, h1]; rfl) (by rw [hA]; intro e; cases e)] at hon
     rw [hA] at hcall hon hpr hlU
     rw [← choose_same] at hcall
     rw [hcall]
     have hUe : usL (v0 :: v1 :: rest) = plainT v0 :: usL (v1 :: rest) := rfl
     rw [hUe] at hon hpr hlU
     have hp0 := hpr (plainT v0) (List.mem_cons_self ..)
     generalize plainT v0 = u0 at *
     obtain ⟨k0, n0, s0⟩ := u0
     generalize hUr : usL (v1 :: rest) = Ur at *
     have f0 : ((((k0, n0, s0) :: Ur : List T3)).map tv)[0]? = some (vl k0 n0 s0) := rfl
     have b1 : (1 : Int) ≤ ((((k0, n0, s0) :: Ur : List T3)).length : Int) := by simp only [List.length_cons]; omega
     have fd : List.take (Int.toNat ((((k0, n0, s0) :: Ur : List T3)).length : Int) - 1) (List.drop 1 ((((k0, n0, s0) :: Ur : List T3)).map tv)) = Ur.map tv := by
      rw [Int.toNat_natCast, List.map_cons, List.drop_succ_cons, List.drop_zero, List.length_cons, Nat.add_sub_cancel]
      rw [show Ur.length = (Ur.map tv).length from (List.length_map ..).symm, List.take_length]
     have hch := GChoose_of (k := k0) (n := n0) (s := s0) (nl := false) (sz := 3) (l := Ur) ⟨fun _ => rfl, fun v hv => (hpr v (List.mem_cons_of_mem _ hv)).1, by simp only [List.length_cons] at hlU; show Ur.length ≤ 1000000; omega⟩ hp0.1 (fun v hv => right_text (hpr v (List.mem_cons_of_mem _ hv)).2)
     generalize ((k0, n0, s0) :: Ur : List T3) = U at *
     simp +decide (maxDischargeDepth := 200) only [go_sem, hon, f0, b1, fd, hch, List.length_map, Tryz.results54]
 · have h1' : oneL l (l.length : Int) = false := by simpa using h1
   rw [onesG_no (by rw [hoc, h1', Bool.and_false])] at hon
   rw [if_neg h1] at hcall
   rw [hcall]
   simp +decide (maxDischargeDepth := 200) only [go_sem, hon, FFault, Tryz.results54]
theorem geach_fun : FunV 54 (FE encE (GE fun a b c => nmA a b c ∨ nmB a b c ∨ nmC a b c ∨ nmR a b c ∨ nmI a b c ∨ nmD a b c)) :=
 each_join geachA_fun (each_join geachB_fun (each_join geachC_fun (each_join geachR_fun (each_join geachI_fun geachD_fun))))
end Go.Proofs.YtfngpfnbhafmlaaGreatDoor
namespace Go.Proofs.YtfngpfnbhafmlaaGreatDoor
open Go Go.RowKit
set_option linter.unusedSimpArgs false
theorem cntU_cons (f : Int → Bool) (v : T3) (l : List T3) : cntU f (v :: l) = (bif f v.1 then 1 else 0) + cntU f l := by
 unfold cntU
 rw [List.filter_cons]
 cases f v.1
 · simp
 · simp only [if_true, List.length_cons, cond_true]; omega
theorem cnt_fold : ∀ (l : List T3) (a : T3 × Nat), (l.foldl sumStep a).2 = a.2 + cntU isI l
 | [], a => rfl
 | v :: l, a => by
   rw [List.foldl_cons, cnt_fold l, cntU_cons]
   unfold sumStep isI
   by_cases h : v.1 = 1
   · rw [if_pos h, decide_eq_true h]; simp only [cond_true]; omega
   · rw [if_neg h, decide_eq_false h]; simp only [cond_false]; omega
theorem cnt_sum (l : List T3) : cntU isI l = (sumL l).2 := by
 unfold sumL
 rw [cnt_fold]
 simp
theorem sum_none : ∀ (l : List T3) (a : T3 × Nat), cntU isI l = 0 → l.foldl sumStep a = a
 | [], _, _ => rfl
 | v :: l, a, h => by
   rw [cntU_cons] at h
   rw [List.foldl_cons]
   have h1 : v.1 ≠ 1 := fun e => by unfold isI at h; rw [decide_eq_true e] at h; simp at h
   have h2 : sumStep a v = a := by unfold sumStep; rw [if_neg h1]
   rw [h2]
   exact sum_none l a (by omega)
theorem avg_same (l : List T3) : pairW ⟨#[47]⟩ (sumL l).1.1 (sumL l).1.2.1 (sumL l).1.2.2 1 ((cntU isI l : Nat) : Int) ⟨#[]⟩ = avgW (sumL l).1 (sumL l).2 := by
 rw [cnt_sum]
 unfold avgW
 by_cases h : (sumL l).2 = 0
 · have e : sumL l = ((1, 0, ⟨#[]⟩), 0) := sum_none l _ (by rw [cnt_sum]; exact h)
   rw [if_pos h, e]
   have hr : rightB 1 0 ⟨#[]⟩ = true := by kernel_rfl
   show pairW ⟨#[47]⟩ 1 0 ⟨#[]⟩ 1 0 ⟨#[]⟩ = _
   unfold pairW
   rw [hr]
   decide
 · rw [if_neg h]
theorem right_i {n : Int} {s : ByteArray} (h : rightB 1 n s = true) : s = ⟨#[]⟩ := by
 unfold rightB at h
 simp at h
 exact ba_ext (by rw [show s.toList = [] from by simpa using h]; simp)
theorem cmp_nums (a b : Int) : cmpV 1 a ⟨#[]⟩ 1 b ⟨#[]⟩ = cmpI a b := by
 have hr : ∀ n, rightB 1 n ⟨#[]⟩ = true := fun n => by simp [rightB]
 unfold cmpV
 rw [hr, hr, if_pos (by rfl), if_neg (by decide)]
 by_cases h : cmpI a b = 0
 · rw [if_neg (by simpa using h), cmpS_eq.2 rfl, h]
 · rw [if_pos h]
theorem out_fold (mn : Bool) (side : Int) (hs : side = if mn = true then -1 else 1) : ∀ (l : List T3) (n : Int) (fd : Bool), (∀ v ∈ l, rightB v.1 v.2.1 v.2.2 = true) → ∃ n' fd', l.foldl (outStep side) ((1, n, ⟨#[]⟩), fd) = ((1, n', ⟨#[]⟩), fd') ∧ l.foldl (bestStep mn) ((1, n, ⟨#[]⟩), !fd) = ((1, n', ⟨#[]⟩), !fd')
 | [], n, fd, _ => ⟨n, fd, rfl, rfl⟩
 | (k, m, s) :: l, n, fd, h => by
   have hr := h _ (List.mem_cons_self ..)
   have ih := fun n fd => out_fold mn side hs l n fd (fun v hv => h v (List.mem_cons_of_mem _ hv))
   simp only at hr
   rw [List.foldl_cons, List.foldl_cons]
   by_cases hk : k = 1
   · subst hk
     obtain rfl := right_i hr
     have e : outStep side ((1, n, ⟨#[]⟩), fd) (1, m, ⟨#[]⟩) = (if (!fd || decide (cmpI m n = side)) = true then ((1, m, ⟨#[]⟩), true) else ((1, n, ⟨#[]⟩), fd)) := by
      unfold outStep
      simp only [cmp_nums]
      rfl
     have e2 : bestStep mn ((1, n, ⟨#[]⟩), !fd) (1, m, ⟨#[]⟩) = (if (!fd || decide (cmpI m n = side)) = true then ((1, m, ⟨#[]⟩), false) else ((1, n, ⟨#[]⟩), !fd)) := by
      unfold bestStep
      simp only
      have : (if mn = true then decide (m < n) else decide (n < m)) = decide (cmpI m n = side) := by
       subst hs
       unfold cmpI
       cases mn
       · simp only [Bool.false_eq_true, if_false]
         refine decide_eq_decide.2 ?_
         split
         · omega
         · split
           · omega
           · omega
       · simp only [if_true]
         refine decide_eq_decide.2 ?_
         split
         · omega
         · split
           · omega
           · omega
      rw [this]
      simp
     rw [e, e2]
     cases hc : (!fd || decide (cmpI m n = side))
     · simp only [Bool.false_eq_true, if_false]
       exact ih n fd
     · simp only [if_true]
       exact ih m true
   · have e : outStep side ((1, n, ⟨#[]⟩), fd) (k, m, s) = ((1, n, ⟨#[]⟩), fd) := by unfold outStep; simp only [decide_eq_false hk]; rfl
     have e2 : bestStep mn ((1, n, ⟨#[]⟩), !fd) (k, m, s) = ((1, n, ⟨#[]⟩), !fd) := by unfold bestStep; simp only [decide_eq_false hk]; rfl
     rw [e, e2]
     exact ih n fd
theorem out_best {l : List T3} (h : ∀ v ∈ l, rightB v.1 v.2.1 v.2.2 = true) : (outL (-1) l).1 = (bestL true l).1 ∧ (outL 1 l).1 = (bestL false l).1 := by
 obtain ⟨n', fd', e1, e2⟩ := out_fold true (-1) rfl l 0 false h
 obtain ⟨n2, fd2, e3, e4⟩ := out_fold false 1 rfl l 0 false h
 unfold outL bestL
 rw [e1, e3]
 rw [show (!false) = true from rfl] at e2 e4
 rw [e2, e4]
 exact ⟨rfl, rfl⟩
theorem right_0' {n : Int} {s : ByteArray} (h : rightB 0 n s = true) : n = 0 := by
 simp [rightB] at h
 exact h.1
theorem isT_eq {k n : Int} {s : ByteArray} (hr : rightB k n s = true) (h : k = 3 ∨ k = 0) : isT (k, n, s) = decide (n = 1) := by
 unfold isT
 rcases h with rfl | rfl
 · simp
 · rw [right_0' hr]; rfl
theorem settle_gen (f : Bool → Bool → Bool) (b : Bool) (hf : ∀ acc t, f acc t = (if t = b then b else acc)) : ∀ (l : List T3) (am : Bool), (∀ v ∈ l, rightB v.1 v.2.1 v.2.2 = true ∧ v.1 ≠ 4) →
 bL f (if am = true then b else !b) l = (match l.findSome? truE with
  | some w => w
  | none => boolW (decide ((am || amongL b l) = b)))
 | [], am, _ => by
   cases am <;> cases b <;> rfl
 | (k, n, s) :: l, am, h => by
   obtain ⟨hr, h4⟩ := h _ (List.mem_cons_self ..)
   have ih := fun am => settle_gen f b hf l am (fun v hv => h v (List.mem_cons_of_mem _ hv))
   simp only at hr h4
   rw [List.findSome?_cons]
   unfold bL
   simp only
   by_cases hk : k = 3 ∨ k = 0
   · have e : truE (k, n, s) = none := by unfold truE; rw [if_pos hk]
     rw [if_pos hk, e]
     have hi := isT_eq hr hk
     have e2 : f (if am = true then b else !b) (decide (n = 1)) = if (am || decide (isT (k, n, s) = b)) = true then b else !b := by
      rw [hf, hi]
      cases am <;> cases decide (n = 1) <;> cases b <;> rfl
     rw [e2, ih]
     have e3 : amongL b ((k, n, s) :: l) = (decide (isT (k, n, s) = b) || amongL b l) := rfl
     rw [e3, Bool.or_assoc]
   · have e : truE (k, n, s) = some (4, 3, ⟨#[]⟩) := by unfold truE; rw [if_neg hk, if_neg h4]
     rw [if_neg hk, e]
theorem settle_same {l : List T3} (h : ∀ v ∈ l, rightB v.1 v.2.1 v.2.2 = true ∧ v.1 ≠ 4) : settleW false l = bL (· && ·) true l ∧ settleW true l = bL (· || ·) false l := by
 have h1 := settle_gen (· && ·) false (fun acc t => by cases acc <;> cases t <;> rfl) l false h
 have h2 := settle_gen (· || ·) true (fun acc t => by cases acc <;> cases t <;> rfl) l false h
 refine ⟨?_, ?_⟩
 · rw [show (if false = true then false else !false) = true from rfl] at h1
   rw [h1]
   unfold settleW
   cases l.findSome? truE <;> rfl
 · rw [show (if false = true then true else !true) = false from rfl] at h2
   rw [h2]
   unfold settleW
   cases l.findSome? truE <;> rfl
set_option maxHeartbeats 32000000 in
set_option maxRecDepth 100000 in
theorem gofvalues_fun {w0 : World} {fv : Value} {nl : Bool} {sz : Nat} {l : List RW} (hf : EachAt w0 fv nl sz l) : Fun (envW w0 []) 53 (tabF [([.x (.string ⟨#[83, 85, 77]⟩), .x fv], tv (manyW ⟨#[83, 85, 77]⟩ (allL l))), ([.x (.string ⟨#[77, 73, 78]⟩), .x fv], tv (manyW ⟨#[77, 73, 78]⟩ (allL l))), ([.x (.string ⟨#[77, 65, 88]⟩), .x fv], tv (manyW ⟨#[77, 65, 88]⟩ (allL l))), ([.x (.string ⟨#[67, 79, 85, 78, 84]⟩), .x fv], tv (manyW ⟨#[67, 79, 85, 78, 84]⟩ (allL l))), ([.x (.string ⟨#[65, 86, 71]⟩), .x fv], tv (manyW ⟨#[65, 86, 71]⟩ (allL l))), ([.x (.string ⟨#[65, 78, 68]⟩), .x fv], tv (manyW ⟨#[65, 78, 68]⟩ (allL l))), ([.x (.string ⟨#[79, 82]⟩), .x fv], tv (manyW ⟨#[79, 82]⟩ (allL l))), ([.x (.string ⟨#[67, 79, 78, 67, 65, 84]⟩), .x fv], tv (manyW ⟨#[67, 79, 78, 67, 65, 84]⟩ (allL l)))]) := by
 obtain ⟨q, hfv, _⟩ := hf.is
 subst hfv
 obtain ⟨fv, hfv⟩ : ∃ fv, fv = Value.func (.func 96) #[] #[q] := ⟨_, rfl⟩
 rw [← hfv] at hf ⊢
 obtain ⟨F1, h1, t1⟩ : ∃ F, Fun (envW w0 []) 98 F ∧ F [.x fv] = some (faultUV (usL (allL l))) := ⟨_, gfirst_fun hf, tabF_hd ..⟩
 obtain ⟨F2, h2, t2⟩ : ∃ F, Fun (envW w0 []) 99 F ∧ F [.x fv] = some (tv (sumL (usL (allL l))).1) := ⟨_, gsum_fun hf, tabF_hd ..⟩
 obtain ⟨F3, h3, t3, t4⟩ : ∃ F, Fun (envW w0 []) 100 F ∧ F [.x fv, .x (.int .i64 (-1))] = some (tv (outL (-1) (usL (allL l))).1) ∧ F [.x fv, .x (.int .i64 1)] = some (tv (outL 1 (usL (allL l))).1) := ⟨_, gout_fun hf, tabF_hd .., (tabF_tl _ _ (by intro e; cases e)).trans (tabF_hd ..)⟩
 obtain ⟨F4, h4, t5⟩ : ∃ F, Fun (envW w0 []) 50 F ∧ F [.x fv, .x (.func (.func 101) #[] #[])] = some (.x (.int .i64 ((cntU isI (usL (allL l)) : Nat) : Int))) := ⟨_, gcountI_fun hf, tabF_hd ..⟩
 obtain ⟨F5, h5, t6, t7⟩ : ∃ F, Fun (envW w0 []) 102 F ∧ F [.x fv, .x (.bool false)] = some (tv (settleW false (usL (allL l)))) ∧ F [.x fv, .x (.bool true)] = some (tv (settleW true (usL (allL l)))) := ⟨_, gsettled_fun hf, tabF_hd .., (tabF_tl _ _ (by intro e; cases e)).trans (tabF_hd ..)⟩
 obtain ⟨F6, h6, t8⟩ : ∃ F, Fun (envW w0 []) 103 F ∧ F [.x fv] = some (tv (textW (catL (usL (allL l))))) := ⟨_, gconcat_fun hf, tabF_hd ..⟩
 have hin := usAll_in hf.ok
 have hlen := usAll_len hf.ok
 have hno : ∀ h : faultL (allL l) = none, usL (allL l) = allL l ∧ ∀ v ∈ allL l, rightB v.1 v.2.1 v.2.2 = true ∧ v.1 ≠ 4 := fun h => faultL_none h
 have hfl := faultL_us (allL l)
 have hmn : ∀ name e, faultL (allL l) = some e → manyW name (allL l) = e := fun name e h => by unfold manyW; rw [h]
 have hmo : ∀ name, faultL (allL l) = none → _ := fun name h => many_no (name := name) h
 subst hfv
 generalize hU : usL (allL l) = U at *
 generalize allL l = L at *
 have hE : EnvOK (envW w0 [(98, F1), (99, F2), (100, F3), (50, F4), (49, FNumber), (27, FPair), (102, F5), (103, F6)]) := envOK_W ⟨h1, h2, h3, h4, fun_W w0 gnumber_fun, fun_W w0 pair_fun, h5, h6, trivial⟩
 refine fun_of_run (E := envW w0 [(98, F1), (99, F2), (100, F3), (50, F4), (49, FNumber), (27, FPair), (102, F5), (103, F6)]) (k := 2) hE (by kernel_rfl) Tryz.func53 rfl (fun a w => Tryz.call53 a w) Tryz.ntmps53 (by kernel_rfl) (by decide) (by decide) ?_
 intro us r hF hdat
 clear hdat
 cases hfa : faultU U with
 | some e =>
   obtain ⟨ek, en, es⟩ := e
   have e1 : faultUV U = .tup [vl ek en es, .x (.bool true)] := by unfold faultUV; rw [hfa]; rfl
   rw [e1] at t1
   have hr : r = vl ek en es ∧ us.length = 2 ∧ ∃ name, us = [.x (.string name), .x (.func (.func 96) #[] #[q])] := by
    replace hF := tabF_out hF
    simp only [List.mem_cons, List.not_mem_nil, or_false, Prod.mk.injEq, hmn _ _ (hfl.trans hfa)] at hF
    rcases hF with h | h | h | h | h | h | h | h <;> exact ⟨h.2, by rw [h.1]; rfl, _, h.1⟩
   obtain ⟨rfl, _, name, rfl⟩ := hr
   refine ⟨rfl, ?_⟩
   simp +decide (maxDischargeDepth := 200) only [go_sem, t1, Tryz.results53]
 | none =>
   have e1 : faultUV U = .tup [vl 0 0 ⟨#[]⟩, .x (.bool false)] := by unfold faultUV; rw [hfa]; rfl
   rw [e1] at t1
   have hn := hfl.trans hfa
   obtain ⟨rfl, hright⟩ := hno hn
   have hb := out_best (fun v hv => (hright v hv).1)
   have hse := settle_same hright
   have hav := avg_same U
   have hcs := cnt_sum U
   obtain ⟨s1, s2⟩ := sumL_in hin
   have hci : inR ((cntU isI U : Nat) : Int) := by rw [hcs]; unfold inR; omega
   replace hF := tabF_out hF
   simp only [List.mem_cons, List.not_mem_nil, or_false, Prod.mk.injEq] at hF
   rcases hF with ⟨rfl, rfl⟩ | ⟨rfl, rfl⟩ | ⟨rfl, rfl⟩ | ⟨rfl, rfl⟩ | ⟨rfl, rfl⟩ | ⟨rfl, rfl⟩ | ⟨rfl, rfl⟩ | ⟨rfl, rfl⟩
   · have e : manyW ⟨#[83, 85, 77]⟩ U = (sumL U).1 := (hmo _ hn).trans rfl
     rw [e]
     refine ⟨rfl, ?_⟩
     simp +decide (maxDischargeDepth := 200) only [go_sem, t1, t2, Tryz.results53]
   · have e : manyW ⟨#[77, 73, 78]⟩ U = (outL (-1) U).1 := (hmo _ hn).trans hb.1.symm
     rw [e]
     refine ⟨rfl, ?_⟩
     simp +decide (maxDischargeDepth := 200) only [go_sem, t1, t3, Tryz.results53]
   · have e : manyW ⟨#[77, 65, 88]⟩ U = (outL 1 U).1 := (hmo _ hn).trans hb.2.symm
     rw [e]
     refine ⟨rfl, ?_⟩
     simp +decide (maxDischargeDepth := 200) only [go_sem, t1, t4, Tryz.results53]
   · have e : manyW ⟨#[67, 79, 85, 78, 84]⟩ U = (1, ((cntU isI U : Nat) : Int), ⟨#[]⟩) := by rw [hcs]; exact (hmo _ hn).trans rfl
     rw [e]
     refine ⟨rfl, ?_⟩
     simp +decide (maxDischargeDepth := 200) only [go_sem, t1, t5, FNumber, Tryz.results53]
   · have e : manyW ⟨#[65, 86, 71]⟩ U = pairW ⟨#[47]⟩ (sumL U).1.1 (sumL U).1.2.1 (sumL U).1.2.2 1 ((cntU isI U : Nat) : Int) ⟨#[]⟩ := by rw [hav]; exact (hmo _ hn).trans rfl
     rw [e]
     refine ⟨rfl, ?_⟩
     simp +decide (maxDischargeDepth := 200) only [go_sem, t1, t2, t5, FNumber, FPair, s1, hci, Tryz.results53]
   · have e : manyW ⟨#[65, 78, 68]⟩ U = settleW false U := (hmo _ hn).trans hse.1.symm
     rw [e]
     refine ⟨rfl, ?_⟩
     simp +decide (maxDischargeDepth := 200) only [go_sem, t1, t6, Tryz.results53]
   · have e : manyW ⟨#[79, 82]⟩ U = settleW true U := (hmo _ hn).trans hse.2.symm
     rw [e]
     refine ⟨rfl, ?_⟩
     simp +decide (maxDischargeDepth := 200) only [go_sem, t1, t7, Tryz.results53]
   · have e : manyW ⟨#[67, 79, 78, 67, 65, 84]⟩ U = textW (catL U) := (hmo _ hn).trans rfl
     rw [e]
     refine ⟨rfl, ?_⟩
     simp +decide (maxDischargeDepth := 200) only [go_sem, t1, t8, Tryz.results53]
end Go.Proofs.YtfngpfnbhafmlaaGreatDoor
namespace Go.Proofs.YtfngpfnbhafmlaaGreatDoor
open Go Go.RowKit
set_option linter.unusedSimpArgs false
theorem cntF (l : List T3) : cntU isF (usL l) = cntA l := by
 unfold cntU cntA usL
 rw [List.filter_map, List.length_map]
 congr 1
 refine List.filter_congr fun v _ => ?_
 show isF (plainT v).1 = _
 unfold isF
 cases hr : rightB v.1 v.2.1 v.2.2
 · rw [plain_wrong hr]; rfl
 · rw [plain_right hr]; rfl
open Classical in
noncomputable def GC (C : ByteArray → Prop) (p : ByteArray × AW) : Option V := if okAw p.2 ∧ C p.1 then some (tv (callW p.1 p.2.2.2)) else none
theorem call_join {f : FuncId} {C1 C2 : ByteArray → Prop} (h1 : FunV f (FE encNA (GC C1))) (h2 : FunV f (FE encNA (GC C2))) : FunV f (FE encNA (GC fun a => C1 a ∨ C2 a)) := by
 refine ⟨h1.1, fun m w vs us r hF hd hr hj hg => ?_⟩
 obtain ⟨p, rfl, hG⟩ := FE_out hF
 unfold GC at hG
 split at hG
 case isFalse => cases hG
 rename_i h
 cases hG
 obtain ⟨h, h' | h'⟩ := h
 · exact h1.2 m w vs _ _ ((FE_at encNA_inj _ p).trans (if_pos ⟨h, h'⟩)) hd hr hj hg
 · exact h2.2 m w vs _ _ ((FE_at encNA_inj _ p).trans (if_pos ⟨h, h'⟩)) hd hr hj hg
theorem ext_none (m : Lim) (w : World) : Ext m w (fun _ => none) w := ⟨Nat.le_refl _, fun _ _ _ _ _ h => h, fun _ _ fr' h => by cases h⟩
theorem rows_boxed {m : Lim} {w : World} {v : Value} {u : V} {ty : TypeId} (hu : Rd m w v u) : Step (fun _ => False) m w (upd m w.heap.size none) (w.alloc (.cells #[v] ty)) ∧ Rd (upd m w.heap.size none) (w.alloc (.cells #[v] ty)) (.pointer (some ⟨w.heap.size, 0, none⟩)) (.ip [u]) := by
 have hs : Step (fun _ => False) m w (upd m w.heap.size none) (w.alloc (.cells #[v] ty)) := Step.of_below ((Below.refl _ w).alloc (Nat.le_refl _) _) (fun k hk => upd_ne _ _ (Nat.ne_of_lt hk))
 refine ⟨hs, .ip _ 0 [u] (fun _ => v) (by simp) (fun k hk => ?_) (fun fr hf => by rw [upd_same] at hf; cases hf) (fun k d hd => ?_)⟩
 · have hh : (w.alloc (.cells #[v] ty)).heap[w.heap.size]? = some (.cells #[v] ty (0, 0)) := World.heap_new w _
   rw [Box.cell hh]
   have : k = 0 := by simp at hk; omega
   subst this
   rfl
 · have : k = 0 := by have := (List.getElem?_eq_some_iff.1 hd).1; simp at this; omega
   subst this
   cases hd
   exact hu.mono hs.ext
theorem each_use {f : FuncId} {t : List V → Option V} {nl : Bool} {sz : Nat} {l : List RW} {fv : Value} (hok : okAw (nl, sz, l)) (ht : ∀ w0, EachAt w0 fv nl sz l → Fun (envW w0 []) f t) {q : Value} (hfv : fv = .func (.func 96) #[] #[q]) {m : Lim} {w : World} (hq : Rd m w q (.ip [awV (nl, sz, l)])) (hj : Glob w) {vs : Array Value} {us : List V} {r : V} (hF : t us = some r) (hx : Exact r) (hd : us.all V.dat = true) (hr : RdL m w vs.toList us) :
 Calls Tryz.prog f vs w fun e w' => ∃ v, e = .returned v ∧ (∀ m', Rd m' w' v r) ∧ Below w.heap.size w w' ∧ Glob w' := by
 have hE : EachAt w fv nl sz l := ⟨hok, q, hfv, hq.mono (ext_none m w)⟩
 refine ((ht w hE).2 m w vs us r hF hd hr (Since.refl hj) (fun g => .undef _)).mono ?_
 rintro e w' ⟨v, m', rfl, hv, hb, _⟩
 exact ⟨v, rfl, fun m' => hx _ _ _ hv _ _, hb, hj.below hb⟩
theorem ofv_ne {a b : ByteArray} {u : V} (h : a ≠ b) : [V.x (.string a), u] ≠ [V.x (.string b), u] := fun e => h (Value.string.inj (V.x.inj (List.cons.inj e).1))
def cPure (name : ByteArray) : Prop := name = ⟨#[78, 79, 84]⟩ ∨ name = ⟨#[65, 66, 83]⟩ ∨ name = ⟨#[83, 73, 71, 78]⟩ ∨ name = ⟨#[76, 69, 78]⟩ ∨ name = ⟨#[85, 80, 80, 69, 82]⟩ ∨ name = ⟨#[76, 79, 87, 69, 82]⟩ ∨ name = ⟨#[73, 83, 69, 82, 82]⟩ ∨ name = ⟨#[73, 83, 66, 76, 65, 78, 75]⟩ ∨ name = ⟨#[77, 79, 68]⟩ ∨ name = ⟨#[76, 69, 70, 84]⟩ ∨ name = ⟨#[82, 73, 71, 72, 84]⟩ ∨ name = ⟨#[70, 73, 78, 68]⟩ ∨ name = ⟨#[77, 73, 68]⟩ ∨ name = ⟨#[73, 70]⟩ ∨ name = ⟨#[67, 72, 79, 79, 83, 69]⟩
set_option maxHeartbeats 64000000 in
set_option maxRecDepth 100000 in
theorem gcallP_fun : FunV 28 (FE encNA (GC cPure)) := by
 refine fun_of_run (E := envOf [(54, (FE encE (GE fun a b c => nmA a b c ∨ nmB a b c ∨ nmC a b c ∨ nmR a b c ∨ nmI a b c ∨ nmD a b c))), (55, (FE encAw GMatch)), (56, FFault)]) (k := 2) (envOK_of _ ⟨geach_fun, gmatch_fun, gfault_fun, trivial⟩) (by kernel_rfl) Tryz.func28 rfl (fun a w => Tryz.call28 a w) Tryz.ntmps28 (by kernel_rfl) (by decide) (by decide) ?_
 intro us r hF hdat
 obtain ⟨⟨name, nl, sz, l⟩, hus, hG⟩ := FE_out hF
 clear hF
 subst hus
 have hF := hG
 clear hG
 unfold GC at hF
 split at hF
 case isFalse => cases hF
 rename_i hok
 cases hF
 obtain ⟨hok, hnm⟩ := hok
 simp only at hok hnm
 clear hdat
 refine ⟨rfl, ?_⟩
 simp only [encNA, awV]
 rcases hnm with rfl | rfl | rfl | rfl | rfl | rfl | rfl | rfl | rfl | rfl | rfl | rfl | rfl | rfl | rfl
 · have hge := GE_of (C := fun a b c => nmA a b c ∨ nmB a b c ∨ nmC a b c ∨ nmR a b c ∨ nmI a b c ∨ nmD a b c) (name := ⟨#[78, 79, 84]⟩) (a := 1) (b := 1) hok (.inl ⟨rfl, rfl, .inl rfl⟩)
   generalize callW ⟨#[78, 79, 84]⟩ l = R at hge ⊢
   simp +decide (maxDischargeDepth := 200) only [go_sem, hge, Tryz.results28]
 · have hge := GE_of (C := fun a b c => nmA a b c ∨ nmB a b c ∨ nmC a b c ∨ nmR a b c ∨ nmI a b c ∨ nmD a b c) (name := ⟨#[65, 66, 83]⟩) (a := 1) (b := 1) hok (.inl ⟨rfl, rfl, .inr (.inl rfl)⟩)
   generalize callW ⟨#[65, 66, 83]⟩ l = R at hge ⊢
   simp +decide (maxDischargeDepth := 200) only [go_sem, hge, Tryz.results28]
 · have hge := GE_of (C := fun a b c => nmA a b c ∨ nmB a b c ∨ nmC a b c ∨ nmR a b c ∨ nmI a b c ∨ nmD a b c) (name := ⟨#[83, 73, 71, 78]⟩) (a := 1) (b := 1) hok (.inl ⟨rfl, rfl, .inr (.inr (.inl rfl))⟩)
   generalize callW ⟨#[83, 73, 71, 78]⟩ l = R at hge ⊢
   simp +decide (maxDischargeDepth := 200) only [go_sem, hge, Tryz.results28]
 · have hge := GE_of (C := fun a b c => nmA a b c ∨ nmB a b c ∨ nmC a b c ∨ nmR a b c ∨ nmI a b c ∨ nmD a b c) (name := ⟨#[76, 69, 78]⟩) (a := 1) (b := 1) hok (.inl ⟨rfl, rfl, .inr (.inr (.inr (.inl rfl)))⟩)
   generalize callW ⟨#[76, 69, 78]⟩ l = R at hge ⊢
   simp +decide (maxDischargeDepth := 200) only [go_sem, hge, Tryz.results28]
 · have hge := GE_of (C := fun a b c => nmA a b c ∨ nmB a b c ∨ nmC a b c ∨ nmR a b c ∨ nmI a b c ∨ nmD a b c) (name := ⟨#[85, 80, 80, 69, 82]⟩) (a := 1) (b := 1) hok (.inl ⟨rfl, rfl, .inr (.inr (.inr (.inr (.inl rfl))))⟩)
   generalize callW ⟨#[85, 80, 80, 69, 82]⟩ l = R at hge ⊢
   simp +decide (maxDischargeDepth := 200) only [go_sem, hge, Tryz.results28]
 · have hge := GE_of (C := fun a b c => nmA a b c ∨ nmB a b c ∨ nmC a b c ∨ nmR a b c ∨ nmI a b c ∨ nmD a b c) (name := ⟨#[76, 79, 87, 69, 82]⟩) (a := 1) (b := 1) hok (.inl ⟨rfl, rfl, .inr (.inr (.inr (.inr (.inr (.inl rfl)))))⟩)
   generalize callW ⟨#[76, 79, 87, 69, 82]⟩ l = R at hge ⊢
   simp +decide (maxDischargeDepth := 200) only [go_sem, hge, Tryz.results28]
 · have hge := GE_of (C := fun a b c => nmA a b c ∨ nmB a b c ∨ nmC a b c ∨ nmR a b c ∨ nmI a b c ∨ nmD a b c) (name := ⟨#[73, 83, 69, 82, 82]⟩) (a := 1) (b := 1) hok (.inr (.inr (.inr (.inl ⟨rfl, rfl, rfl⟩))))
   generalize callW ⟨#[73, 83, 69, 82, 82]⟩ l = R at hge ⊢
   simp +decide (maxDischargeDepth := 200) only [go_sem, hge, Tryz.results28]
 · have hge := GE_of (C := fun a b c => nmA a b c ∨ nmB a b c ∨ nmC a b c ∨ nmR a b c ∨ nmI a b c ∨ nmD a b c) (name := ⟨#[73, 83, 66, 76, 65, 78, 75]⟩) (a := 1) (b := 1) hok (.inl ⟨rfl, rfl, .inr (.inr (.inr (.inr (.inr (.inr (rfl))))))⟩)
   generalize callW ⟨#[73, 83, 66, 76, 65, 78, 75]⟩ l = R at hge ⊢
   simp +decide (maxDischargeDepth := 200) only [go_sem, hge, Tryz.results28]
 · have hge := GE_of (C := fun a b c => nmA a b c ∨ nmB a b c ∨ nmC a b c ∨ nmR a b c ∨ nmI a b c ∨ nmD a b c) (name := ⟨#[77, 79, 68]⟩) (a := 2) (b := 2) hok (.inr (.inl ⟨rfl, rfl, .inl rfl⟩))
   generalize callW ⟨#[77, 79, 68]⟩ l = R at hge ⊢
   simp +decide (maxDischargeDepth := 200) only [go_sem, hge, Tryz.results28]
 · have hge := GE_of (C := fun a b c => nmA a b c ∨ nmB a b c ∨ nmC a b c ∨ nmR a b c ∨ nmI a b c ∨ nmD a b c) (name := ⟨#[76, 69, 70, 84]⟩) (a := 2) (b := 2) hok (.inr (.inl ⟨rfl, rfl, .inr (.inl rfl)⟩))
   generalize callW ⟨#[76, 69, 70, 84]⟩ l = R at hge ⊢
   simp +decide (maxDischargeDepth := 200) only [go_sem, hge, Tryz.results28]
 · have hge := GE_of (C := fun a b c => nmA a b c ∨ nmB a b c ∨ nmC a b c ∨ nmR a b c ∨ nmI a b c ∨ nmD a b c) (name := ⟨#[82, 73, 71, 72, 84]⟩) (a := 2) (b := 2) hok (.inr (.inl ⟨rfl, rfl, .inr (.inr (.inl rfl))⟩))
   generalize callW ⟨#[82, 73, 71, 72, 84]⟩ l = R at hge ⊢
   simp +decide (maxDischargeDepth := 200) only [go_sem, hge, Tryz.results28]
 · have hge := GE_of (C := fun a b c => nmA a b c ∨ nmB a b c ∨ nmC a b c ∨ nmR a b c ∨ nmI a b c ∨ nmD a b c) (name := ⟨#[70, 73, 78, 68]⟩) (a := 2) (b := 2) hok (.inr (.inl ⟨rfl, rfl, .inr (.inr (.inr (rfl)))⟩))
   generalize callW ⟨#[70, 73, 78, 68]⟩ l = R at hge ⊢
   simp +decide (maxDischargeDepth := 200) only [go_sem, hge, Tryz.results28]
 · have hge := GE_of (C := fun a b c => nmA a b c ∨ nmB a b c ∨ nmC a b c ∨ nmR a b c ∨ nmI a b c ∨ nmD a b c) (name := ⟨#[77, 73, 68]⟩) (a := 3) (b := 3) hok (.inr (.inr (.inl ⟨rfl, rfl, rfl⟩)))
   generalize callW ⟨#[77, 73, 68]⟩ l = R at hge ⊢
   simp +decide (maxDischargeDepth := 200) only [go_sem, hge, Tryz.results28]
 · have hge := GE_of (C := fun a b c => nmA a b c ∨ nmB a b c ∨ nmC a b c ∨ nmR a b c ∨ nmI a b c ∨ nmD a b c) (name := ⟨#[73, 70]⟩) (a := 3) (b := 3) hok (.inr (.inr (.inr (.inr (.inl ⟨rfl, rfl, rfl⟩)))))
   generalize callW ⟨#[73, 70]⟩ l = R at hge ⊢
   simp +decide (maxDischargeDepth := 200) only [go_sem, hge, Tryz.results28]
 · have hge := GE_of (C := fun a b c => nmA a b c ∨ nmB a b c ∨ nmC a b c ∨ nmR a b c ∨ nmI a b c ∨ nmD a b c) (name := ⟨#[67, 72, 79, 79, 83, 69]⟩) (a := 2) (b := (-1)) hok (.inr (.inr (.inr (.inr (.inr ⟨rfl, rfl, rfl⟩)))))
   generalize callW ⟨#[67, 72, 79, 79, 83, 69]⟩ l = R at hge ⊢
   simp +decide (maxDischargeDepth := 200) only [go_sem, hge, Tryz.results28]
def cRest (name : ByteArray) : Prop := name ≠ ⟨#[67, 79, 85, 78, 84, 65]⟩ ∧ name ≠ ⟨#[83, 85, 77]⟩ ∧ name ≠ ⟨#[77, 73, 78]⟩ ∧ name ≠ ⟨#[77, 65, 88]⟩ ∧ name ≠ ⟨#[67, 79, 85, 78, 84]⟩ ∧ name ≠ ⟨#[65, 86, 71]⟩ ∧ name ≠ ⟨#[65, 78, 68]⟩ ∧ name ≠ ⟨#[79, 82]⟩ ∧ name ≠ ⟨#[67, 79, 78, 67, 65, 84]⟩ ∧ name ≠ ⟨#[78, 79, 84]⟩ ∧ name ≠ ⟨#[65, 66, 83]⟩ ∧ name ≠ ⟨#[83, 73, 71, 78]⟩ ∧ name ≠ ⟨#[76, 69, 78]⟩ ∧ name ≠ ⟨#[85, 80, 80, 69, 82]⟩ ∧ name ≠ ⟨#[76, 79, 87, 69, 82]⟩ ∧ name ≠ ⟨#[73, 83, 69, 82, 82]⟩ ∧ name ≠ ⟨#[73, 83, 66, 76, 65, 78, 75]⟩ ∧ name ≠ ⟨#[77, 79, 68]⟩ ∧ name ≠ ⟨#[76, 69, 70, 84]⟩ ∧ name ≠ ⟨#[82, 73, 71, 72, 84]⟩ ∧ name ≠ ⟨#[70, 73, 78, 68]⟩ ∧ name ≠ ⟨#[77, 73, 68]⟩ ∧ name ≠ ⟨#[73, 70]⟩ ∧ name ≠ ⟨#[67, 72, 79, 79, 83, 69]⟩
set_option maxHeartbeats 64000000 in
set_option maxRecDepth 100000 in
theorem gcallR_fun : FunV 28 (FE encNA (GC cRest)) := by
 refine fun_of_run (E := envOf [(54, (FE encE (GE fun a b c => nmA a b c ∨ nmB a b c ∨ nmC a b c ∨ nmR a b c ∨ nmI a b c ∨ nmD a b c))), (55, (FE encAw GMatch)), (56, FFault)]) (k := 2) (envOK_of _ ⟨geach_fun, gmatch_fun, gfault_fun, trivial⟩) (by kernel_rfl) Tryz.func28 rfl (fun a w => Tryz.call28 a w) Tryz.ntmps28 (by kernel_rfl) (by decide) (by decide) ?_
 intro us r hF hdat
 obtain ⟨⟨name, nl, sz, l⟩, hus, hG⟩ := FE_out hF
 clear hF
 subst hus
 have hF := hG
 clear hG
 unfold GC at hF
 split at hF
 case isFalse => cases hF
 rename_i hok
 cases hF
 obtain ⟨hok, hnm⟩ := hok
 simp only at hok hnm
 clear hdat
 refine ⟨rfl, ?_⟩
 simp only [encNA, awV]
 obtain ⟨q0, q1, q2, q3, q4, q5, q6, q7, q8, q9, q10, q11, q12, q13, q14, q15, q16, q17, q18, q19, q20, q21, q22, q23⟩ := hnm
 have d0 := decide_eq_false q0
 have d1 := decide_eq_false q1
 have d2 := decide_eq_false q2
 have d3 := decide_eq_false q3
 have d4 := decide_eq_false q4
 have d5 := decide_eq_false q5
 have d6 := decide_eq_false q6
 have d7 := decide_eq_false q7
 have d8 := decide_eq_false q8
 have d9 := decide_eq_false q9
 have d10 := decide_eq_false q10
 have d11 := decide_eq_false q11
 have d12 := decide_eq_false q12
 have d13 := decide_eq_false q13
 have d14 := decide_eq_false q14
 have d15 := decide_eq_false q15
 have d16 := decide_eq_false q16
 have d17 := decide_eq_false q17
 have d18 := decide_eq_false q18
 have d19 := decide_eq_false q19
 have d20 := decide_eq_false q20
 have d21 := decide_eq_false q21
 have d22 := decide_eq_false q22
 have d23 := decide_eq_false q23
 by_cases hm : name = ⟨#[77, 65, 84, 67, 72]⟩
 · subst hm
   have e : callW ⟨#[77, 65, 84, 67, 72]⟩ l = matchG l := by rw [match_same]; rfl
   have hge := GMatch_of hok
   rw [e]
   generalize matchG l = R at hge ⊢
   simp +decide (maxDischargeDepth := 200) only [go_sem, hge, Tryz.results28]
 · have dm := decide_eq_false hm
   have e : callW name l = (4, 5, ⟨#[]⟩) := by
    have m1 : (manyN.any fun x => decide (name = x)) = false := by simp only [manyN, List.any_cons, List.any_nil, d0, d1, d2, d3, d4, d5, d6, d7, d8, d9, d10, d11, d12, d13, d14, d15, d16, d17, d18, d19, d20, d21, d22, d23]; rfl
    have m2 : (lazyN.any fun x => decide (name = x)) = false := by simp only [lazyN, List.any_cons, List.any_nil, d0, d1, d2, d3, d4, d5, d6, d7, d8, d9, d10, d11, d12, d13, d14, d15, d16, d17, d18, d19, d20, d21, d22, d23, dm]; rfl
    have m3 : (oneN.any fun x => decide (name = x)) = false := by simp only [oneN, List.any_cons, List.any_nil, d0, d1, d2, d3, d4, d5, d6, d7, d8, d9, d10, d11, d12, d13, d14, d15, d16, d17, d18, d19, d20, d21, d22, d23]; rfl
    have m4 : (twoN.any fun x => decide (name = x)) = false := by simp only [twoN, List.any_cons, List.any_nil, d0, d1, d2, d3, d4, d5, d6, d7, d8, d9, d10, d11, d12, d13, d14, d15, d16, d17, d18, d19, d20, d21, d22, d23]; rfl
    unfold callW
    rw [m1, m2, m3, m4, if_neg (by decide), if_neg q0, if_neg (by decide), if_neg (by decide), if_neg (by decide), if_neg q21]
   rw [e]
   simp +decide (maxDischargeDepth := 200) only [go_sem, d0, d1, d2, d3, d4, d5, d6, d7, d8, d9, d10, d11, d12, d13, d14, d15, d16, d17, d18, d19, d20, d21, d22, d23, dm, FFault, Tryz.results28]
theorem now_read {E : Env} {n : Nat} {D : List Deferred} {m : Lim} {w : World} {O : Nat → Prop} {st : St} {a : Act} (h : Now E n D O m st a w) (i : Nat) {u : V} (hi : st.t i = u) (hu : u.dat = true) : Rd m w (a.tmps.getD i Go.undef) u := by
 obtain ⟨b, β, hr⟩ := h.rel
 exact (hi ▸ hr.tmps i : Rs m w β _ u).dat hu
theorem rd_slice {m : Lim} {w : World} {v : Value} {nl : Bool} {sz : Nat} {es : List V} {t : Option Nat} (h : Rd m w v (.sl nl sz es t)) : ∃ ao ln cp, v = .slice ao ln cp := by
 cases h with
 | nil => exact ⟨_, _, _, rfl⟩
 | sl => exact ⟨_, _, _, rfl⟩
 | emp => exact ⟨_, _, _, rfl⟩
def cCnt (name : ByteArray) : Prop := name = ⟨#[67, 79, 85, 78, 84, 65]⟩
set_option maxHeartbeats 64000000 in
set_option maxRecDepth 100000 in
theorem gcallC_fun : FunV 28 (FE encNA (GC cCnt)) := by
 have hE : EnvOK (envOf [(49, FNumber)]) := envOK_of _ ⟨gnumber_fun, trivial⟩
 have hm : (envOf [(49, FNumber)]).P.follows .mixedOrders = true := by kernel_rfl
 refine fun_of_one (E := envOf [(49, FNumber)]) (n := 61) (k := 2) hE Tryz.func28 rfl (fun a w => Tryz.call28 a w) Tryz.ntmps28 (by decide) (by decide) ?_
 intro us r m w a hF hdat h1
 obtain ⟨⟨name, nl, sz, l⟩, hus, hG⟩ := FE_out hF
 clear hF hdat
 subst hus
 unfold GC at hG
 split at hG
 case isFalse => cases hG
 rename_i hok
 cases hG
 obtain ⟨hok, hnm⟩ := hok
 simp only at hok hnm
 replace h1 := h1 rfl
 refine ⟨rfl, ?_⟩
 simp only [encNA, awV] at h1
 obtain rfl : name = ⟨#[67, 79, 85, 78, 84, 65]⟩ := hnm
 have hres : callW ⟨#[67, 79, 85, 78, 84, 65]⟩ l = (1, ((cntU isF (usL (allL l)) : Nat) : Int), ⟨#[]⟩) := by rw [cntF]; rfl
 rw [hres]
 refine wpIn_seq (one_T hE hm [(0, .x (.string ⟨#[67, 79, 85, 78, 84, 65]⟩)), (1, .sl nl sz (l.map rwV) none), (4, .ptr 4 0)] [(4, [.x (.int .i64 0), .x (.int .i64 0), .x (.string ⟨#[]⟩)])] (by kernel_rfl) h1 (by simp +decide (maxDischargeDepth := 200) only [go_sem, Nat.reduceBEq] <;> (repeat' first | rfl | constructor)) ?_)
 clear h1 a
 intro a w1 h1
 refine wpIn_seq (wpIn_seq (one_T hE hm [(1, .sl nl sz (l.map rwV) none), (4, .ptr 4 0), (5, .x (.string ⟨#[67, 79, 85, 78, 84, 65]⟩))] [(4, [.x (.int .i64 0), .x (.int .i64 0), .x (.string ⟨#[]⟩)])] (by kernel_rfl) h1 (by simp +decide (maxDischargeDepth := 200) only [go_sem, Nat.reduceBEq] <;> (repeat' first | rfl | constructor)) ?_))
 clear h1 a w1
 intro a w1 h1
 refine wpIn_block ?_
 refine wpIn_seq (one_T hE hm [(1, .sl nl sz (l.map rwV) none), (4, .ptr 4 0), (6, .x (.bool true))] [(4, [.x (.int .i64 0), .x (.int .i64 0), .x (.string ⟨#[]⟩)])] (by kernel_rfl) h1 (by simp +decide (maxDischargeDepth := 200) only [go_sem, Nat.reduceBEq] <;> (repeat' first | rfl | constructor)) ?_)
 clear h1 a w1
 intro a w1 h1
 refine wpIn_cond_true (one_val h1 (by simp only [go_sem, Nat.reduceEqDiff, if_false, if_true, tOf, stOf])) ?_
 refine wpIn_seq (wpIn_region ?_)
 refine one_S hE 0 1 [(4, .ptr 4 0), (8, .sl nl sz (l.map rwV) none)] [(4, [.x (.int .i64 0), .x (.int .i64 0), .x (.string ⟨#[]⟩)])] [1, 2, 3, 4] (by decide) (by kernel_rfl) h1 (by simp +decide (maxDischargeDepth := 200) only [go_sem, Nat.reduceBEq] <;> (repeat' first | rfl | constructor)) ?_
 clear h1 a w1
 intro a w1 h1
 obtain ⟨aw, hawd⟩ : ∃ aw, a.eval (.tmp 8) = aw := ⟨_, rfl⟩
 refine one_call (i := 1) (d := 9) (f := 51) (Kno.rd (.pointer (some ⟨w1.heap.size, 0, none⟩)) (.ip [awV (nl, sz, l)])) rfl rfl rfl (by decide) rfl (fun a w => Tryz.call51 a w) h1 (R := fun e w' => e = .returned (.func (.func 96) #[] #[.pointer (some ⟨w1.heap.size, 0, none⟩)]) ∧ w' = w1.alloc (.cells #[aw] 56)) (fun m1 O1 hn1 _ => ?call) ?_
 case call =>
  have hrd := now_read hn1 8 (u := .sl nl sz (l.map rwV) none) (by simp only [go_sem, Nat.reduceEqDiff, if_false, if_true, tOf, stOf]) rfl
  have e6 : a.tmps.getD 8 Go.undef = aw := hawd
  rw [e6] at hrd
  obtain ⟨ao, ln, cp, rfl⟩ := rd_slice hrd
  rw [show Array.map a.eval #[.tmp 8] = #[.slice ao ln cp] from by simp [hawd]]
  exact each_call ao ln cp w1
 intro m1 O1 hn1 _ e w2 he
 obtain ⟨rfl, rfl⟩ := he
 have hrd := now_read hn1 8 (u := .sl nl sz (l.map rwV) none) (by simp only [go_sem, Nat.reduceEqDiff, if_false, if_true, tOf, stOf]) rfl
 have e6 : a.tmps.getD 8 Go.undef = aw := hawd
 rw [e6] at hrd
 obtain ⟨hs2, hr2⟩ := rows_boxed (ty := 56) hrd
 refine ⟨_, _, .x (.func (.func 96) #[] #[.pointer (some ⟨w1.heap.size, 0, none⟩)]), rfl, hs2, hE.keep [] _ _ (fun x hx => by cases hx) hn1.J (hs2.bel (fun k _ h => h.elim)), .x _, hr2, fun h2 => ?_⟩
 generalize w1.heap.size = g at h2
 replace h2 := h2.le (st' := stOf [(4, .ptr 4 0), (9, .x (.func (.func 96) #[] #[.pointer (some ⟨g, 0, none⟩)]))] [(4, [.x (.int .i64 0), .x (.int .i64 0), .x (.string ⟨#[]⟩)])]) (le_stOf (by simp +decide (maxDischargeDepth := 200) only [go_sem, Nat.reduceBEq] <;> (repeat' first | rfl | constructor)) (by simp +decide (maxDischargeDepth := 200) only [go_sem, Nat.reduceBEq] <;> (repeat' first | rfl | constructor)))
 generalize a.put (some 9) _ = a2 at h2
 generalize w1.alloc _ = w2 at h2
 have ef : a2.eval (.tmp 9) = (.func (.func 96) #[] #[.pointer (some ⟨g, 0, none⟩)]) := one_val h2 (by simp only [go_sem, Nat.reduceEqDiff, if_false, if_true, tOf, stOf])
 refine one_call (i := 2) (d := 10) (f := 50) Kno.top rfl rfl rfl (by decide) rfl (fun a w => Tryz.call50 a w) h2 (R := fun e w' => ∃ v, e = .returned v ∧ (∀ m', Rd m' w' v (.x (.int .i64 ((cntU isF (usL (allL l)) : Nat) : Int)))) ∧ Below w2.heap.size w2 w' ∧ Glob w') (fun m1 O1 hn1 hk1 => ?call2) ?_
 case call2 =>
  rw [show Array.map a2.eval #[.tmp 9, .func 52] = #[(.func (.func 96) #[] #[.pointer (some ⟨g, 0, none⟩)]), (.func (.func 52) #[] #[])] from by simp [ef]; rfl]
  exact each_use hok (fun w0 h => gcountF_fun h) rfl hk1 hn1.J (us := [.x (.func (.func 96) #[] #[.pointer (some ⟨g, 0, none⟩)]), .x (.func (.func 52) #[] #[])]) (tabF_hd ..) (exact_x _) rfl ⟨.x _, .x _, trivial⟩
 intro m1 O1 hn1 _ e w3 he
 obtain ⟨v, rfl, hv, hb, hgl⟩ := he
 refine ⟨v, m1, .x (.int .i64 ((cntU isF (usL (allL l)) : Nat) : Int)), rfl, Step.of_below hb (fun _ _ => rfl), hgl, hv m1, trivial, fun h3 => ?_⟩
 replace h3 := h3.le (st' := stOf [(4, .ptr 4 0), (10, .x (.int .i64 ((cntU isF (usL (allL l)) : Nat) : Int)))] [(4, [.x (.int .i64 0), .x (.int .i64 0), .x (.string ⟨#[]⟩)])]) (le_stOf (by simp +decide (maxDischargeDepth := 200) only [go_sem, Nat.reduceBEq] <;> (repeat' first | rfl | constructor)) (by simp +decide (maxDischargeDepth := 200) only [go_sem, Nat.reduceBEq] <;> (repeat' first | rfl | constructor)))
 generalize a2.put (some 10) v = a3 at h3
 refine one_S hE 3 2 [(4, .ptr 4 0)] [(4, [.x (.int .i64 1), .x (.int .i64 ((cntU isF (usL (allL l)) : Nat) : Int)), .x (.string ⟨#[]⟩)])] [] (by decide) (by kernel_rfl) h3 (by simp +decide (maxDischargeDepth := 200) only [go_sem, Nat.reduceBEq, FNumber] <;> (repeat' first | rfl | constructor)) ?_
 intro a4 w4 h4
 exact wpIn_ret ⟨.inr rfl, _, _, _, _, _, h4, by simp +decide (maxDischargeDepth := 200) only [go_sem, Nat.reduceBEq, Tryz.results28]⟩
def cMany (name : ByteArray) : Prop := name = ⟨#[83, 85, 77]⟩ ∨ name = ⟨#[77, 73, 78]⟩ ∨ name = ⟨#[77, 65, 88]⟩ ∨ name = ⟨#[67, 79, 85, 78, 84]⟩ ∨ name = ⟨#[65, 86, 71]⟩ ∨ name = ⟨#[65, 78, 68]⟩ ∨ name = ⟨#[79, 82]⟩ ∨ name = ⟨#[67, 79, 78, 67, 65, 84]⟩
theorem ofv_at {name : ByteArray} (h : cMany name) (fv : Value) (l : List RW) : tabF [([.x (.string ⟨#[83, 85, 77]⟩), .x fv], tv (manyW ⟨#[83, 85, 77]⟩ (allL l))), ([.x (.string ⟨#[77, 73, 78]⟩), .x fv], tv (manyW ⟨#[77, 73, 78]⟩ (allL l))), ([.x (.string ⟨#[77, 65, 88]⟩), .x fv], tv (manyW ⟨#[77, 65, 88]⟩ (allL l))), ([.x (.string ⟨#[67, 79, 85, 78, 84]⟩), .x fv], tv (manyW ⟨#[67, 79, 85, 78, 84]⟩ (allL l))), ([.x (.string ⟨#[65, 86, 71]⟩), .x fv], tv (manyW ⟨#[65, 86, 71]⟩ (allL l))), ([.x (.string ⟨#[65, 78, 68]⟩), .x fv], tv (manyW ⟨#[65, 78, 68]⟩ (allL l))), ([.x (.string ⟨#[79, 82]⟩), .x fv], tv (manyW ⟨#[79, 82]⟩ (allL l))), ([.x (.string ⟨#[67, 79, 78, 67, 65, 84]⟩), .x fv], tv (manyW ⟨#[67, 79, 78, 67, 65, 84]⟩ (allL l)))] [.x (.string name), .x fv] = some (tv (manyW name (allL l))) := by
 rcases h with rfl | rfl | rfl | rfl | rfl | rfl | rfl | rfl
 · exact tabF_hd ..
 · exact (tabF_tl _ _ (ofv_ne (by decide))).trans (tabF_hd ..)
 · exact (tabF_tl _ _ (ofv_ne (by decide))).trans ((tabF_tl _ _ (ofv_ne (by decide))).trans (tabF_hd ..))
 · exact (tabF_tl _ _ (ofv_ne (by decide))).trans ((tabF_tl _ _ (ofv_ne (by decide))).trans ((tabF_tl _ _ (ofv_ne (by decide))).trans (tabF_hd ..)))
 · exact (tabF_tl _ _ (ofv_ne (by decide))).trans ((tabF_tl _ _ (ofv_ne (by decide))).trans ((tabF_tl _ _ (ofv_ne (by decide))).trans ((tabF_tl _ _ (ofv_ne (by decide))).trans (tabF_hd ..))))
 · exact (tabF_tl _ _ (ofv_ne (by decide))).trans ((tabF_tl _ _ (ofv_ne (by decide))).trans ((tabF_tl _ _ (ofv_ne (by decide))).trans ((tabF_tl _ _ (ofv_ne (by decide))).trans ((tabF_tl _ _ (ofv_ne (by decide))).trans (tabF_hd ..)))))
 · exact (tabF_tl _ _ (ofv_ne (by decide))).trans ((tabF_tl _ _ (ofv_ne (by decide))).trans ((tabF_tl _ _ (ofv_ne (by decide))).trans ((tabF_tl _ _ (ofv_ne (by decide))).trans ((tabF_tl _ _ (ofv_ne (by decide))).trans ((tabF_tl _ _ (ofv_ne (by decide))).trans (tabF_hd ..))))))
 · exact (tabF_tl _ _ (ofv_ne (by decide))).trans ((tabF_tl _ _ (ofv_ne (by decide))).trans ((tabF_tl _ _ (ofv_ne (by decide))).trans ((tabF_tl _ _ (ofv_ne (by decide))).trans ((tabF_tl _ _ (ofv_ne (by decide))).trans ((tabF_tl _ _ (ofv_ne (by decide))).trans ((tabF_tl _ _ (ofv_ne (by decide))).trans (tabF_hd ..)))))))
theorem many_at {name : ByteArray} (h : cMany name) (l : List RW) : callW name l = manyW name (allL l) := by
 rcases h with rfl | rfl | rfl | rfl | rfl | rfl | rfl | rfl <;> rfl
set_option maxHeartbeats 64000000 in
set_option maxRecDepth 100000 in
theorem gcallM_fun : FunV 28 (FE encNA (GC cMany)) := by
 have hE : EnvOK (envOf []) := envOK_of _ trivial
 have hm : (envOf []).P.follows .mixedOrders = true := by kernel_rfl
 refine fun_of_one (E := envOf []) (n := 61) (k := 2) hE Tryz.func28 rfl (fun a w => Tryz.call28 a w) Tryz.ntmps28 (by decide) (by decide) ?_
 intro us r m w a hF hdat h1
 obtain ⟨⟨name, nl, sz, l⟩, hus, hG⟩ := FE_out hF
 clear hF hdat
 subst hus
 unfold GC at hG
 split at hG
 case isFalse => cases hG
 rename_i hok
 cases hG
 obtain ⟨hok, hnm⟩ := hok
 simp only at hok hnm
 replace h1 := h1 rfl
 refine ⟨rfl, ?_⟩
 simp only [encNA, awV] at h1
 rw [many_at hnm]
 have d0 : decide (name = ⟨#[67, 79, 85, 78, 84, 65]⟩) = false := by rcases hnm with rfl | rfl | rfl | rfl | rfl | rfl | rfl | rfl <;> decide
 refine wpIn_seq (one_T hE hm [(0, .x (.string name)), (1, .sl nl sz (l.map rwV) none), (4, .ptr 4 0)] [(4, [.x (.int .i64 0), .x (.int .i64 0), .x (.string ⟨#[]⟩)])] (by kernel_rfl) h1 (by simp +decide (maxDischargeDepth := 200) only [go_sem, Nat.reduceBEq] <;> (repeat' first | rfl | constructor)) ?_)
 clear h1 a
 intro a w1 h1
 refine wpIn_seq (wpIn_seq (one_T hE hm [(0, .x (.string name)), (1, .sl nl sz (l.map rwV) none), (4, .ptr 4 0), (5, .x (.string name))] [(4, [.x (.int .i64 0), .x (.int .i64 0), .x (.string ⟨#[]⟩)])] (by kernel_rfl) h1 (by simp +decide (maxDischargeDepth := 200) only [go_sem, Nat.reduceBEq] <;> (repeat' first | rfl | constructor)) ?_))
 clear h1 a w1
 intro a w1 h1
 refine wpIn_block ?_
 refine wpIn_seq (one_T hE hm [(0, .x (.string name)), (1, .sl nl sz (l.map rwV) none), (4, .ptr 4 0), (5, .x (.string name)), (6, .x (.bool false))] [(4, [.x (.int .i64 0), .x (.int .i64 0), .x (.string ⟨#[]⟩)])] (by kernel_rfl) h1 (by simp +decide (maxDischargeDepth := 200) only [go_sem, Nat.reduceBEq, d0] <;> (repeat' first | rfl | constructor)) ?_)
 clear h1 a w1
 intro a w1 h1
 refine wpIn_cond_false (one_val h1 (by simp only [go_sem, Nat.reduceEqDiff, if_false, if_true, tOf, stOf])) ?_
 refine wpIn_seq (one_T hE hm [(0, .x (.string name)), (1, .sl nl sz (l.map rwV) none), (4, .ptr 4 0), (12, .x (.bool true))] [(4, [.x (.int .i64 0), .x (.int .i64 0), .x (.string ⟨#[]⟩)])] (by kernel_rfl) h1 (by rcases hnm with rfl | rfl | rfl | rfl | rfl | rfl | rfl | rfl <;> (simp +decide (maxDischargeDepth := 200) only [go_sem, Nat.reduceBEq] <;> (repeat' first | rfl | constructor))) ?_)
 clear h1 a w1
 intro a w1 h1
 refine wpIn_cond_true (one_val h1 (by simp only [go_sem, Nat.reduceEqDiff, if_false, if_true, tOf, stOf])) ?_
 refine wpIn_seq (wpIn_region ?_)
 refine one_S hE 0 2 [(4, .ptr 4 0), (21, .x (.string name)), (22, .sl nl sz (l.map rwV) none)] [(4, [.x (.int .i64 0), .x (.int .i64 0), .x (.string ⟨#[]⟩)])] [2, 3, 4] (by decide) (by kernel_rfl) h1 (by simp +decide (maxDischargeDepth := 200) only [go_sem, Nat.reduceBEq] <;> (repeat' first | rfl | constructor)) ?_
 clear h1 a w1
 intro a w1 h1
 obtain ⟨aw, hawd⟩ : ∃ aw, a.eval (.tmp 22) = aw := ⟨_, rfl⟩
 refine one_call (i := 2) (d := 23) (f := 51) (Kno.rd (.pointer (some ⟨w1.heap.size, 0, none⟩)) (.ip [awV (nl, sz, l)])) rfl rfl rfl (by decide) rfl (fun a w => Tryz.call51 a w) h1 (R := fun e w' => e = .returned (.func (.func 96) #[] #[.pointer (some ⟨w1.heap.size, 0, none⟩)]) ∧ w' = w1.alloc (.cells #[aw] 56)) (fun m1 O1 hn1 _ => ?call) ?_
 case call =>
  have hrd := now_read hn1 22 (u := .sl nl sz (l.map rwV) none) (by simp only [go_sem, Nat.reduceEqDiff, if_false, if_true, tOf, stOf]) rfl
  have e6 : a.tmps.getD 22 Go.undef = aw := hawd
  rw [e6] at hrd
  obtain ⟨ao, ln, cp, rfl⟩ := rd_slice hrd
  rw [show Array.map a.eval #[.tmp 22] = #[.slice ao ln cp] from by simp [hawd]]
  exact each_call ao ln cp w1
 intro m1 O1 hn1 _ e w2 he
 obtain ⟨rfl, rfl⟩ := he
 have hrd := now_read hn1 22 (u := .sl nl sz (l.map rwV) none) (by simp only [go_sem, Nat.reduceEqDiff, if_false, if_true, tOf, stOf]) rfl
 have e6 : a.tmps.getD 22 Go.undef = aw := hawd
 rw [e6] at hrd
 obtain ⟨hs2, hr2⟩ := rows_boxed (ty := 56) hrd
 refine ⟨_, _, .x (.func (.func 96) #[] #[.pointer (some ⟨w1.heap.size, 0, none⟩)]), rfl, hs2, hE.keep [] _ _ (fun x hx => by cases hx) hn1.J (hs2.bel (fun k _ h => h.elim)), .x _, hr2, fun h2 => ?_⟩
 generalize w1.heap.size = g at h2
 replace h2 := h2.le (st' := stOf [(4, .ptr 4 0), (21, .x (.string name)), (23, .x (.func (.func 96) #[] #[.pointer (some ⟨g, 0, none⟩)]))] [(4, [.x (.int .i64 0), .x (.int .i64 0), .x (.string ⟨#[]⟩)])]) (le_stOf (by simp +decide (maxDischargeDepth := 200) only [go_sem, Nat.reduceBEq] <;> (repeat' first | rfl | constructor)) (by simp +decide (maxDischargeDepth := 200) only [go_sem, Nat.reduceBEq] <;> (repeat' first | rfl | constructor)))
 generalize a.put (some 23) _ = a2 at h2
 generalize w1.alloc _ = w2 at h2
 have ef : a2.eval (.tmp 23) = (.func (.func 96) #[] #[.pointer (some ⟨g, 0, none⟩)]) := one_val h2 (by simp only [go_sem, Nat.reduceEqDiff, if_false, if_true, tOf, stOf])
 have en : a2.eval (.tmp 21) = .string name := one_val h2 (by simp only [go_sem, Nat.reduceEqDiff, if_false, if_true, tOf, stOf])
 refine one_call (i := 3) (d := 24) (f := 53) Kno.top rfl rfl rfl (by decide) rfl (fun a w => Tryz.call53 a w) h2 (R := fun e w' => ∃ v, e = .returned v ∧ (∀ m', Rd m' w' v (tv (manyW name (allL l)))) ∧ Below w2.heap.size w2 w' ∧ Glob w') (fun m1 O1 hn1 hk1 => ?call2) ?_
 case call2 =>
  rw [show Array.map a2.eval #[.tmp 21, .tmp 23] = #[.string name, (.func (.func 96) #[] #[.pointer (some ⟨g, 0, none⟩)])] from by simp [ef, en]]
  exact each_use hok (fun w0 h => gofvalues_fun h) rfl hk1 hn1.J (us := [.x (.string name), .x (.func (.func 96) #[] #[.pointer (some ⟨g, 0, none⟩)])]) (ofv_at hnm _ l) (exact_tv _) rfl ⟨.x _, .x _, trivial⟩
 intro m1 O1 hn1 _ e w3 he
 obtain ⟨v, rfl, hv, hb, hgl⟩ := he
 refine ⟨v, m1, tv (manyW name (allL l)), rfl, Step.of_below hb (fun _ _ => rfl), hgl, hv m1, trivial, fun h3 => ?_⟩
 generalize manyW name (allL l) = R at h3 ⊢
 obtain ⟨rk, rn, rs⟩ := R
 replace h3 := h3.le (st' := stOf [(4, .ptr 4 0), (24, vl rk rn rs)] [(4, [.x (.int .i64 0), .x (.int .i64 0), .x (.string ⟨#[]⟩)])]) (le_stOf (by simp +decide (maxDischargeDepth := 200) only [go_sem, Nat.reduceBEq] <;> (repeat' first | rfl | constructor)) (by simp +decide (maxDischargeDepth := 200) only [go_sem, Nat.reduceBEq] <;> (repeat' first | rfl | constructor)))
 generalize a2.put (some 24) v = a3 at h3
 refine one_S hE 4 1 [(4, .ptr 4 0)] [(4, [.x (.int .i64 rk), .x (.int .i64 rn), .x (.string rs)])] [] (by decide) (by kernel_rfl) h3 (by simp +decide (maxDischargeDepth := 200) only [go_sem, Nat.reduceBEq] <;> (repeat' first | rfl | constructor)) ?_
 intro a4 w4 h4
 exact wpIn_ret ⟨.inr rfl, _, _, _, _, _, h4, by simp +decide (maxDischargeDepth := 200) only [go_sem, Nat.reduceBEq, Tryz.results28]⟩
theorem gcall_fun : FunV 28 (FE encNA GCall) := by
 have h := call_join gcallP_fun (call_join gcallR_fun (call_join gcallC_fun gcallM_fun))
 refine ⟨h.1, fun m w vs us r hF hd hr hj hg => ?_⟩
 obtain ⟨p, rfl, hG⟩ := FE_out hF
 unfold GCall at hG
 split at hG
 case isFalse => cases hG
 rename_i hok
 cases hG
 refine h.2 m w vs _ _ ((FE_at encNA_inj _ p).trans (if_pos ⟨hok, ?_⟩)) hd hr hj hg
 by_cases h1 : cPure p.1
 · exact .inl h1
 · by_cases h2 : cCnt p.1
   · exact .inr (.inr (.inl h2))
   · by_cases h3 : cMany p.1
     · exact .inr (.inr (.inr h3))
     · refine .inr (.inl ?_)
       unfold cPure at h1
       unfold cCnt at h2
       unfold cMany at h3
       unfold cRest
       simp only [not_or] at h1 h3
       simp only [h1, h2, h3, ne_eq, not_false_eq_true, and_self]
end Go.Proofs.YtfngpfnbhafmlaaGreatDoor

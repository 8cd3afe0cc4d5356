/- Nodes of formulas among the arguments. -/
import Derived.Test.YtfngpfnbhafmlaaGreatDoorFrameC
import Derived.Test.YtfngpfnbhafmlaaGreatDoorMT
import Derived.Deep.Slices
namespace Go.Proofs.YtfngpfnbhafmlaaGreatDoor
open Go.ChangeShapes Go.WideShapes Go.ChangeAt Go.WideMaps Go.WideElems Go.RowKit Go.Joins
set_option maxRecDepth 100000
section
variable {H : Type} {enc : TypeId × Value → H} {W : World} {base : Nat} {held : Bool}
theorem list3 {l : List Value} (h : l.length = 3) : ∃ a b c, l = [a, b, c] := by
 match l, h with
 | [a, b, c], _ => exact ⟨a, b, c, rfl⟩
theorem get_some {α : Type} {l : List α} {n i : Nat} (h : l.length = n) (hi : i < n) : ∃ x, l[i]? = some x := ⟨l[i]'(by omega), List.getElem?_eq_getElem (by omega)⟩
theorem value_of_trod {fuel : Nat} {cs : List Value} {x : DataW H × List MemPlace} (h : DataW.trod enc Tryz.prog W base (fun _ => true) held fuel 23 cs = some x) : ∃ (k n : Int) (s : ByteArray), cs = [.int .i64 k, .int .i64 n, .string s] ∧ n ≤ 9223372036854775807 := by
 obtain ⟨xs, n, _, _, hlen, hxl, hf⟩ := DataW.trod_struct Tryz.underlying23 h
 have hc : Tryz.prog.cellsOf 23 = 3 := by kernel_rfl
 have ci : Tryz.prog.cellsOf 3 = 1 := by kernel_rfl
 have ct : Tryz.prog.cellsOf 9 = 1 := by kernel_rfl
 rw [hc] at hlen
 obtain ⟨a, b, c, rfl⟩ := list3 hlen
 obtain ⟨x0, h0⟩ := get_some hxl (i := 0) (by decide)
 obtain ⟨x1, h1⟩ := get_some hxl (i := 1) (by decide)
 obtain ⟨x2, h2⟩ := get_some hxl (i := 2) (by decide)
 have f0 : DataW.trod enc Tryz.prog W base (fun _ => true) held n 3 (List.take (Tryz.prog.cellsOf 3) (List.drop 0 [a, b, c])) = some x0 := (hf 0 _ rfl).trans h0
 have f1 : DataW.trod enc Tryz.prog W base (fun _ => true) held n 3 (List.take (Tryz.prog.cellsOf 3) (List.drop 1 [a, b, c])) = some x1 := (hf 1 _ rfl).trans h1
 have f2 : DataW.trod enc Tryz.prog W base (fun _ => true) held n 9 (List.take (Tryz.prog.cellsOf 9) (List.drop 2 [a, b, c])) = some x2 := (hf 2 _ rfl).trans h2
 simp only [ci, ct, List.drop_zero, List.drop_succ_cons, List.take_succ_cons, List.take_zero] at f0 f1 f2
 obtain ⟨k, e0, _⟩ := DataW.trod_int Tryz.underlying3 f0
 obtain ⟨m, e1, _, wk⟩ := DataW.trod_int Tryz.underlying3 f1
 obtain ⟨s, e2, _⟩ := DataW.trod_string Tryz.underlying9 f2
 cases e0; cases e1; cases e2
 exact ⟨k, m, s, rfl, (bounds_i64 wk).2⟩
theorem cell_of_trod {fuel : Nat} {cs : List Value} {x : DataW H × List MemPlace} (h : DataW.trod enc Tryz.prog W base (fun _ => true) held fuel 25 cs = some x) : ∃ (s : ByteArray) (k n : Int), cs = [.string s, .int .i64 k, .int .i64 n] := by
 obtain ⟨xs, n, _, _, hlen, hxl, hf⟩ := DataW.trod_struct Tryz.underlying25 h
 have hc : Tryz.prog.cellsOf 25 = 3 := by kernel_rfl
 have ci : Tryz.prog.cellsOf 3 = 1 := by kernel_rfl
 have ct : Tryz.prog.cellsOf 9 = 1 := by kernel_rfl
 rw [hc] at hlen
 obtain ⟨a, b, c, rfl⟩ := list3 hlen
 obtain ⟨x0, h0⟩ := get_some hxl (i := 0) (by decide)
 obtain ⟨x1, h1⟩ := get_some hxl (i := 1) (by decide)
 obtain ⟨x2, h2⟩ := get_some hxl (i := 2) (by decide)
 have f0 : DataW.trod enc Tryz.prog W base (fun _ => true) held n 9 (List.take (Tryz.prog.cellsOf 9) (List.drop 0 [a, b, c])) = some x0 := (hf 0 _ rfl).trans h0
 have f1 : DataW.trod enc Tryz.prog W base (fun _ => true) held n 3 (List.take (Tryz.prog.cellsOf 3) (List.drop 1 [a, b, c])) = some x1 := (hf 1 _ rfl).trans h1
 have f2 : DataW.trod enc Tryz.prog W base (fun _ => true) held n 3 (List.take (Tryz.prog.cellsOf 3) (List.drop 2 [a, b, c])) = some x2 := (hf 2 _ rfl).trans h2
 simp only [ci, ct, List.drop_zero, List.drop_succ_cons, List.take_succ_cons, List.take_zero] at f0 f1 f2
 obtain ⟨s, e0, _⟩ := DataW.trod_string Tryz.underlying9 f0
 obtain ⟨k, e1, _⟩ := DataW.trod_int Tryz.underlying3 f1
 obtain ⟨m, e2, _⟩ := DataW.trod_int Tryz.underlying3 f2
 cases e0; cases e1; cases e2
 exact ⟨s, k, m, rfl⟩
theorem list13 {l : List Value} (h : l.length = 13) : ∃ a0 a1 a2 a3 a4 a5 a6 a7 a8 a9 a10 a11 a12, l = [a0, a1, a2, a3, a4, a5, a6, a7, a8, a9, a10, a11, a12] := by
 match l, h with
 | [a0, a1, a2, a3, a4, a5, a6, a7, a8, a9, a10, a11, a12], _ => exact ⟨_, _, _, _, _, _, _, _, _, _, _, _, _, rfl⟩
theorem pick_list {α : Type} {n : Nat} {p : Nat → α → Prop} (h : ∀ i, i < n → ∃ a, p i a) : ∃ l : List α, l.length = n ∧ ∀ (i : Nat) (a : α), l[i]? = some a → p i a := by
 induction n with
 | zero => exact ⟨[], rfl, fun i a h => by simp at h⟩
 | succ n ih =>
   obtain ⟨l, hl, hp⟩ := ih (fun i hi => h i (by omega))
   obtain ⟨a, ha⟩ := h n (by omega)
   refine ⟨l ++ [a], by simp [hl], fun i b hb => ?_⟩
   by_cases hi : i < l.length
   · rw [List.getElem?_append_left hi] at hb; exact hp i b hb
   · rw [List.getElem?_append_right (by omega)] at hb
     have h0 : i - l.length = 0 := by
      have := (List.getElem?_eq_some_iff.1 hb).1
      simp at this
      omega
     rw [h0] at hb
     simp at hb
     subst hb
     rw [show i = n by omega]
     exact ha
theorem node_of_trod : ∀ (fuel : Nat) (cs : List Value) (x : DataW H × List MemPlace), DataW.trod enc Tryz.prog W base (fun _ => true) held fuel 28 cs = some x → ∃ nd : Nd, smN nd ∧ RdL (fun _ => none) W cs (nodeV nd).cells := by
 intro fuel
 induction fuel using Nat.strongRecOn with
 | _ fuel ih =>
   intro cs x h
   obtain ⟨xs, n, rfl, _, hlen, hxl, hf⟩ := DataW.trod_struct Tryz.underlying28 h
   have hc : Tryz.prog.cellsOf 28 = 13 := by kernel_rfl
   have ci : Tryz.prog.cellsOf 3 = 1 := by kernel_rfl
   have ct : Tryz.prog.cellsOf 9 = 1 := by kernel_rfl
   have cv : Tryz.prog.cellsOf 23 = 3 := by kernel_rfl
   have cc : Tryz.prog.cellsOf 25 = 3 := by kernel_rfl
   have ck : Tryz.prog.cellsOf 26 = 1 := by kernel_rfl
   rw [hc] at hlen
   obtain ⟨a0, a1, a2, a3, a4, a5, a6, a7, a8, a9, a10, a11, a12, rfl⟩ := list13 hlen
   obtain ⟨x0, h0⟩ := get_some hxl (i := 0) (by decide)
   obtain ⟨x1, h1⟩ := get_some hxl (i := 1) (by decide)
   obtain ⟨x2, h2⟩ := get_some hxl (i := 2) (by decide)
   obtain ⟨x3, h3⟩ := get_some hxl (i := 3) (by decide)
   obtain ⟨x4, h4⟩ := get_some hxl (i := 4) (by decide)
   obtain ⟨x5, h5⟩ := get_some hxl (i := 5) (by decide)
   obtain ⟨x6, h6⟩ := get_some hxl (i := 6) (by decide)
   have f0 : DataW.trod enc Tryz.prog W base (fun _ => true) held n 3 (List.take (Tryz.prog.cellsOf 3) (List.drop 0 [a0, a1, a2, a3, a4, a5, a6, a7, a8, a9, a10, a11, a12])) = some x0 := (hf 0 _ rfl).trans h0
   have f1 : DataW.trod enc Tryz.prog W base (fun _ => true) held n 9 (List.take (Tryz.prog.cellsOf 9) (List.drop 1 [a0, a1, a2, a3, a4, a5, a6, a7, a8, a9, a10, a11, a12])) = some x1 := (hf 1 _ rfl).trans h1
   have f2 : DataW.trod enc Tryz.prog W base (fun _ => true) held n 9 (List.take (Tryz.prog.cellsOf 9) (List.drop 2 [a0, a1, a2, a3, a4, a5, a6, a7, a8, a9, a10, a11, a12])) = some x2 := (hf 2 _ rfl).trans h2
   have f3 : DataW.trod enc Tryz.prog W base (fun _ => true) held n 23 (List.take (Tryz.prog.cellsOf 23) (List.drop 3 [a0, a1, a2, a3, a4, a5, a6, a7, a8, a9, a10, a11, a12])) = some x3 := (hf 3 _ rfl).trans h3
   have f4 : DataW.trod enc Tryz.prog W base (fun _ => true) held n 25 (List.take (Tryz.prog.cellsOf 25) (List.drop 6 [a0, a1, a2, a3, a4, a5, a6, a7, a8, a9, a10, a11, a12])) = some x4 := (hf 4 _ rfl).trans h4
   have f5 : DataW.trod enc Tryz.prog W base (fun _ => true) held n 25 (List.take (Tryz.prog.cellsOf 25) (List.drop 9 [a0, a1, a2, a3, a4, a5, a6, a7, a8, a9, a10, a11, a12])) = some x5 := (hf 5 _ rfl).trans h5
   have f6 : DataW.trod enc Tryz.prog W base (fun _ => true) held n 26 (List.take (Tryz.prog.cellsOf 26) (List.drop 12 [a0, a1, a2, a3, a4, a5, a6, a7, a8, a9, a10, a11, a12])) = some x6 := (hf 6 _ rfl).trans h6
   simp only [ci, ct, cv, cc, ck, List.drop_zero, List.drop_succ_cons, List.take_succ_cons, List.take_zero] at f0 f1 f2 f3 f4 f5 f6
   obtain ⟨k, e0, _⟩ := DataW.trod_int Tryz.underlying3 f0
   obtain ⟨op, e1, _⟩ := DataW.trod_string Tryz.underlying9 f1
   obtain ⟨nm, e2, _⟩ := DataW.trod_string Tryz.underlying9 f2
   obtain ⟨vk, vn, vs, e3, hvn⟩ := value_of_trod f3
   obtain ⟨cs, c1, c2, e4⟩ := cell_of_trod f4
   obtain ⟨ts, t1, t2, e5⟩ := cell_of_trod f5
   cases e0; cases e1; cases e2; cases e3; cases e4; cases e5
   have key : ∃ nd : Nd, nd.hd = ⟨k, op, nm, vk, vn, vs, cs, c1, c2, ts, t1, t2⟩ ∧ smL nd.ks ∧ Rd (fun _ => none) W a12 (kidsV nd) := by
    rcases DataW.trod_slice Tryz.underlying26 f6 with ⟨e, _⟩ | ⟨a, len, cap, elems, rest, n', rfl, e, _, _, hle, hcm, hel, hes, hsp, _⟩
    · cases e
      exact ⟨.leaf _, rfl, trivial, .nil _ _⟩
    · cases e
      rw [hc] at hes hsp
      have hcell : ∀ i, i < len → ∃ cs' y, W.cells? base (a.add (i * 13)) 13 = some cs' ∧ DataW.trod enc Tryz.prog W base (fun _ => true) held n' 28 cs' = some y := fun i hi => by
       have := hes i hi
       rw [List.getElem?_eq_getElem (by omega)] at this
       obtain ⟨cs', q1, q2⟩ := Option.bind_eq_some_iff.1 this
       exact ⟨cs', _, q1, q2⟩
      obtain ⟨l, hl, hp⟩ := pick_list (p := fun i (c : Nd) => ∃ cs', W.cells? base (a.add (i * 13)) 13 = some cs' ∧ smN c ∧ RdL (fun _ => none) W cs' (nodeV c).cells) (fun i hi => by
       obtain ⟨cs', y, q1, q2⟩ := hcell i hi
       obtain ⟨c, hcr⟩ := ih n' (by omega) cs' y q2
       exact ⟨c, cs', q1, hcr⟩)
      refine ⟨.mk _ l, rfl, smL_of fun c hc => ?_, ?_⟩
      · obtain ⟨i, hi⟩ := List.getElem?_of_mem hc
        obtain ⟨_, _, h, _⟩ := hp i c hi
        exact h
      rcases Nat.eq_zero_or_pos len with hz | hz
      · subst hz
        obtain rfl : l = [] := List.length_eq_zero_iff.1 hl
        exact .emp _ _ _
      · obtain ⟨ab, ao, spot⟩ := a
        obtain rfl : spot = none := by
         obtain ⟨cs', y, q1, _⟩ := hcell 0 hz
         obtain ⟨_, hl', hg⟩ := World.cells?_some q1
         have h0 := hg 0 (by omega)
         rw [List.getElem?_eq_getElem (by omega)] at h0
         have h1 := World.cell?_spot h0
         simpa [Addr.add] using h1
        have hat : ∀ (i : Nat) (c : Nd), l[i]? = some c → ∃ cs', (∀ j, j < 13 → W.cell? ⟨ab, ao + (i * 13 + j), none⟩ = cs'[j]?) ∧ cs'.length = 13 ∧ RdL (fun _ => none) W cs' (nodeV c).cells := fun i c hi => by
         obtain ⟨cs', q1, -, q2⟩ := hp i c hi
         obtain ⟨_, hl', hg⟩ := World.cells?_some q1
         refine ⟨cs', fun j hj => ?_, hl', q2⟩
         have := hg j hj
         rwa [Addr_add_eq, Addr_add_eq, Nat.add_assoc] at this
        have hblk : ab < W.heap.size := by
         obtain ⟨c, hc0⟩ := get_some hl hz
         obtain ⟨cs', q1, q2, _⟩ := hat 0 c hc0
         have h0 := q1 0 (by omega)
         rw [List.getElem?_eq_getElem (by omega)] at h0
         exact World.block_lt_of_cell? W _ h0
        have hmap : (l.map nodeV).length = len := by rw [List.length_map, hl]
        have hsl := Rd.sl (m := fun _ => none) (w := W) ab ao cap 13 (l.map nodeV) none (fun k => (W.cell? ⟨ab, ao + k, none⟩).getD Go.undef) hblk (by rw [hmap]; exact hle)
         (fun i e he => by
          rw [List.getElem?_map, Option.map_eq_some_iff] at he
          obtain ⟨c, _, rfl⟩ := he
          exact cells_len c)
         (fun q hq => by
          rw [hmap] at hq
          have hi : q / 13 < len := (Nat.div_lt_iff_lt_mul (by decide)).2 hq
          obtain ⟨c, hc0⟩ := get_some hl hi
          obtain ⟨cs', q1, q2, _⟩ := hat (q / 13) c hc0
          have h0 := q1 (q % 13) (Nat.mod_lt _ (by decide))
          have e : q / 13 * 13 + q % 13 = q := by omega
          rw [e] at h0
          simp only [h0]
          rw [List.getElem?_eq_getElem (by have := Nat.mod_lt q (show 0 < 13 by decide); omega)]
          rfl)
         (fun fr hf => by cases hf)
         (fun i e he j d hd => by
          rw [List.getElem?_map, Option.map_eq_some_iff] at he
          obtain ⟨c, hc0, rfl⟩ := he
          obtain ⟨cs', q1, q2, q3⟩ := hat i c hc0
          have hj : j < 13 := by
           have := (List.getElem?_eq_some_iff.1 hd).1
           rwa [cells_len] at this
          have h0 := q1 j hj
          simp only [h0]
          rw [List.getElem?_eq_getElem (by omega)]
          exact q3.get j _ d (List.getElem?_eq_getElem (by omega)) hd)
        rw [hmap] at hsl
        exact hsl
   obtain ⟨nd, hh, hsm, hk⟩ := key
   refine ⟨nd, (smN_eq nd).2 ⟨by rw [hh]; exact hvn, hsm⟩, ?_⟩
   rw [nodeV_eq, hh]
   exact ⟨.x _, .x _, .x _, .x _, .x _, .x _, .x _, .x _, .x _, .x _, .x _, .x _, hk, trivial⟩
end
theorem open_nodeS {H : Type} {enc : TypeId × Value → H} {W : World} {r : Reach} {b0 base : Nat} {held : Bool} {v : Value} {d : DataW H} {p : List MemPlace} (hv : Value.okWide Tryz.prog W r b0 28 v) (h : DataW.Trod enc Tryz.prog W base (fun _ => true) held 28 v d p) :
 ∃ nd : Nd, smN nd ∧ Rd (fun _ => none) W v (nodeV nd) := by
 obtain ⟨cs, rfl, _⟩ := okWide_struct Tryz.underlying28 hv
 obtain ⟨fuel, hf⟩ := h
 obtain ⟨nd, hs, hr⟩ := node_of_trod fuel _ _ hf
 refine ⟨nd, hs, ?_⟩
 rw [nodeV_eq] at hr ⊢
 exact Rd.agg_iff.2 ⟨cs, rfl, hr⟩
end Go.Proofs.YtfngpfnbhafmlaaGreatDoor

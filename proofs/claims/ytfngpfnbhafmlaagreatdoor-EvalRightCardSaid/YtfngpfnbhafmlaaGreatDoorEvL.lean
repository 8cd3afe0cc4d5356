/- Chapter 11: package eval's reckon, over a map by cell. -/
import Derived.Test.YtfngpfnbhafmlaaGreatDoorME
import Derived.Test.YtfngpfnbhafmlaaGreatDoorMQ
namespace Go.Proofs.YtfngpfnbhafmlaaGreatDoor
open Go Go.RowKit
set_option linter.unusedSimpArgs false
theorem node_opaque (n : Nd) : ∃ N : List V, nodeV n = .agg N ∧ N.length = 13 ∧ N.take 13 = N := ⟨cellsH n.hd (kidsV n), nodeV_eq n, rfl, rfl⟩
set_option maxHeartbeats 64000000 in
set_option maxRecDepth 100000 in
theorem ereckon_step (n : Nat) (hcallF : FunV 28 (FE encNA GCall)) (ih : FunPV 16 (FE encRk (GRk n))) (iha : FunPV 29 (FE encAr (GAr n))) : FunPV 16 (FE encRk (GRk (n + 1))) := by
 refine fun_of_runP (E := envB [(15, FFault), (26, FMinus), (27, FPair), (28, (FE encNA GCall))] (fun _ => false) [(16, (FE encRk (GRk n))), (29, (FE encAr (GAr n)))] (fun _ => false) (fun i => i == 9 || i == 11)) (k := 2) (envOK_B _ _ _ _ _ ⟨efault_fun, minus_fun, pair_fun, hcallF, trivial⟩ ⟨ih, iha, trivial⟩) (fun _ _ => rfl) (by kernel_rfl) Tryz.func16 rfl (fun a w => Tryz.call16 a w) Tryz.ntmps16 (by kernel_rfl) (by decide) (by decide) ?_
 intro us r outs hF
 obtain ⟨⟨nd, L⟩, hus, hG⟩ := FE_out hF
 clear hF
 subst hus
 have hF := hG
 clear hG
 unfold GRk at hF
 split at hF
 case isFalse => cases hF
 rename_i hok
 cases hF
 obtain ⟨hlt, h400, hr, hs, hM, hin⟩ := hok
 simp only at hlt h400 hr hs hM hin
 have hgin : ∀ c, IR (getM L c) := fun c => by
  clear hlt h400 hr hs hM
  induction L with
  | nil => exact ir_c (by decide) (by decide)
  | cons p L ihL =>
    unfold getM
    split
    · exact hin p (List.mem_cons_self ..)
    · exact ihL fun q hq => hin q (List.mem_cons_of_mem _ hq)
 obtain ⟨c20, cu, cp, ck⟩ := rN_count hr
 have hkok : ∀ c ∈ nd.ks, okRk (c, L) ∧ IR (evalN (getM L) c) ∧ cnt c < n := fun c hm => by
  have h1 := cntL_mem hm
  have h2 := cnt_eq nd
  have hsc := smL_mem ((smN_eq nd).1 hs).2 hm
  have hrc := rN_kids hr c hm
  exact ⟨⟨by simp only; omega, hrc, hsc, hM, hin⟩, ev_in hgin _ c (Nat.le_refl _) hrc hsc, by omega⟩
 have hkid : ∀ (i : Nat) (c : Nd), nd.ks[i]? = some c → FE encRk (GRk n) [nodeV c, mpM 0 L] = some (tv (evalN (getM L) c), [[mpM 0 L]]) ∧ IR (evalN (getM L) c) := fun i c hc => by
  obtain ⟨q1, q2, q3⟩ := hkok c (List.mem_of_getElem? hc)
  exact ⟨GRk_of q3 q1, q2⟩
 have hargs : FE encAr (GAr n) [.sl false 13 (nd.ks.map nodeV) none, mpM 0 L] = some (.sl false 1 ((nd.ks.map fun c => kidR (getM L) c.hd (evalN (getM L) c)).map rwV) none, [[mpM 0 L]]) := GAr_some (by have := cnt_eq nd; omega) ⟨c20, fun c hc => (hkok c hc).1⟩
 have hargs0 : FE encAr (GAr n) [.sl true 0 [] (some 0), mpM 0 L] = some (.sl false 1 [] none, [[mpM 0 L]]) := GAr_none (by have := cnt_eq nd; omega) ⟨Nat.zero_le _, fun c hc => by cases hc⟩
 have hka := kids_all (f := getM L) hgin (l := nd.ks) (fun c hc => (hkok c hc).2.1)
 have hkr : ∀ r ∈ (nd.ks.map fun c => kidR (getM L) c.hd (evalN (getM L) c)), (r.2.2 ≠ [] → r.2.1 = 3) ∧ (∀ v ∈ r.2.2, IR v) ∧ r.2.2.length ≤ 1000000 := fun r hr => by
  obtain ⟨c, hc, rfl⟩ := List.mem_map.1 hr
  obtain ⟨q1, q2, q3⟩ := kid_IR (f := getM L) hgin (h := c.hd) (hkok c hc).2.1
  exact ⟨q3, q1, by omega⟩
 have hat : ∀ p : C3, lookV Tryz.prog 44 (.mp 1001 (ksM L) (vsM L)) (cellV p) false = some (tv (getM L p)) := fun p => lookM 1001 hM
 simp only [encRk]
 rw [evalN_eq]
 obtain ⟨k, op, nm, vk, vn, vs, cs, cc, cr, ts, tc, tr, l, nl, sz, hh, hl, hf, hs13⟩ := node_cases nd
 rw [hl] at c20 cu cp hkid hargs hka hkr ⊢
 rw [hh] at cu cp ck ⊢
 rw [hf]
 simp only at cu cp ck
 refine ⟨rfl, ?_⟩
 have ferr : ∀ c : Int, FFault [.x (.int .i64 c)] = some (vl 4 c ⟨#[]⟩) := fun _ => rfl
 simp only [vl] at ferr
 unfold evalH
 simp only
 by_cases h1 : k = 1
 · subst h1
   rw [if_pos rfl]
   simp +decide (maxDischargeDepth := 200) only [go_sem, Tryz.results16]
 rw [if_neg h1]
 have d1 := decide_eq_false h1
 by_cases h2 : k = 2
 · subst h2
   rw [if_pos rfl]
   have ha := hat (cs, cc, cr)
   rcases hw : getM L (cs, cc, cr) with ⟨a1, a2, a3⟩
   rw [hw] at ha
   simp only [tv, vl, cellV] at ha
   simp +decide (maxDischargeDepth := 200) only [go_sem, Tryz.results16, d1, ha]
 rw [if_neg h2]
 have d2 := decide_eq_false h2
 by_cases h7 : k = 7
 · subst h7
   rw [if_pos rfl]
   simp +decide (maxDischargeDepth := 200) only [go_sem, Tryz.results16, d1, d2, ferr]
 rw [if_neg h7]
 have d7 := decide_eq_false h7
 by_cases h4 : k = 4
 · subst h4
   rw [if_pos rfl]
   obtain ⟨x0, rfl⟩ : ∃ x0, l = [x0] := List.length_eq_one_iff.1 (cu rfl)
   obtain rfl := hs13 (by simp)
   obtain ⟨k0, i0⟩ := hkid 0 x0 rfl
   rcases he : evalN (getM L) x0 with ⟨a1, a2, a3⟩
   rw [he] at k0 i0
   have hm : FMinus [.agg [.x (.int .i64 a1), .x (.int .i64 a2), .x (.string a3)]] = some (tv (pairW ⟨#[45]⟩ 1 0 ⟨#[]⟩ a1 a2 a3)) := if_pos i0
   simp only [List.map_cons, List.map_nil, List.getD_cons_zero, he]
   rcases hp : pairW ⟨#[45]⟩ 1 0 ⟨#[]⟩ a1 a2 a3 with ⟨b1, b2, b3⟩
   rw [hp] at hm
   obtain ⟨N0, n0, l0, t0⟩ := node_opaque x0
   rw [n0] at k0 ⊢
   simp only [tv, vl] at k0 hm
   simp +decide (maxDischargeDepth := 200) only [go_sem, Tryz.results16, d1, d2, k0, hm, l0, t0]
 rw [if_neg h4]
 have d4 := decide_eq_false h4
 by_cases h5 : k = 5
 · subst h5
   rw [if_pos rfl]
   obtain ⟨x0, x1, rfl⟩ : ∃ x0 x1, l = [x0, x1] := by
    have h := cp rfl
    rcases l with _ | ⟨x0, _ | ⟨x1, _ | ⟨x2, l⟩⟩⟩
    · simp at h
    · simp at h
    · exact ⟨x0, x1, rfl⟩
    · simp at h
   obtain rfl := hs13 (by simp)
   obtain ⟨k0, i0⟩ := hkid 0 x0 rfl
   obtain ⟨k1, i1⟩ := hkid 1 x1 rfl
   rcases he : evalN (getM L) x0 with ⟨a1, a2, a3⟩
   rcases he1 : evalN (getM L) x1 with ⟨e1, e2, e3⟩
   rw [he] at k0 i0
   rw [he1] at k1 i1
   have hm : FPair [.x (.string op), .agg [.x (.int .i64 a1), .x (.int .i64 a2), .x (.string a3)], .agg [.x (.int .i64 e1), .x (.int .i64 e2), .x (.string e3)]] = some (tv (pairW op a1 a2 a3 e1 e2 e3)) := if_pos ⟨i0, i1⟩
   simp only [List.map_cons, List.map_nil, List.getD_cons_zero, List.getD_cons_succ, he, he1]
   rcases hp : pairW op a1 a2 a3 e1 e2 e3 with ⟨b1, b2, b3⟩
   rw [hp] at hm
   obtain ⟨N0, n0, l0, t0⟩ := node_opaque x0
   obtain ⟨N1, n1, l1, t1⟩ := node_opaque x1
   rw [n0] at k0
   rw [n1] at k1
   rw [n0, n1]
   simp only [tv, vl] at k0 k1 hm
   clear hkid hargs hargs0 hka hkr hat hkok hgin hin hM hr hs h400 hlt c20 cu cp ck i0 i1 he he1 hp ferr
   simp +decide (maxDischargeDepth := 200) only [go_sem, Tryz.results16, d1, d2, d4]
   refine any_dagBs [(0, 0, 1, .mp 1001 (ksM L) (vsM L)), (0, 0, 2, .ptr 2 0), (0, 0, 4, .ptr 4 0), (1, 2, 28, .ptr 2 1), (2, 16384, 29, .x (.string op)), (4, 8, 30, .ptr 2 12), (8, 16, 31, .sl nl 13 [.agg N0, .agg N1] none), (16, 32, 32, .ip N0), (32, 128, 33, .agg N0), (64, 128, 34, .mp 1001 (ksM L) (vsM L)), (128, 16384, 35, vl a1 a2 a3), (256, 512, 36, .ptr 2 12), (512, 1024, 37, .sl nl 13 [.agg N0, .agg N1] none), (1024, 2048, 38, .ip N1), (2048, 8192, 39, .agg N1), (4096, 8192, 40, .mp 1001 (ksM L) (vsM L)), (8192, 16384, 41, vl e1 e2 e3), (16384, 32768, 42, vl b1 b2 b3)] [(0, 0, 2, [.x (.int .i64 5), .x (.string op), .x (.string nm), .x (.int .i64 vk), .x (.int .i64 vn), .x (.string vs), .x (.string cs), .x (.int .i64 cc), .x (.int .i64 cr), .x (.string ts), .x (.int .i64 tc), .x (.int .i64 tr), .sl nl 13 [.agg N0, .agg N1] none]), (0, 32768, 4, [.x (.int .i64 0), .x (.int .i64 0), .x (.string ⟨#[]⟩)]), (32768, 0, 4, [.x (.int .i64 b1), .x (.int .i64 b2), .x (.string b3)])] [[(0, [0, 2, 6, 8, 12]), (1, [1, 2, 6, 8, 12]), (4, [0, 3, 6, 8, 12]), (64, [0, 2, 8, 12]), (256, [0, 2, 6, 9, 12]), (4096, [0, 2, 6, 8]), (3, [2, 6, 8, 12]), (5, [1, 3, 6, 8, 12]), (65, [1, 2, 8, 12]), (257, [1, 2, 6, 9, 12]), (4097, [1, 2, 6, 8]), (12, [0, 4, 6, 8, 12]), (68, [0, 3, 8, 12]), (260, [0, 3, 6, 9, 12])], [(4100, [0, 3, 6, 8]), (320, [0, 2, 9, 12]), (4160, [0, 2, 8]), (768, [0, 2, 6, 10, 12]), (4352, [0, 2, 6, 9]), (7, [3, 6, 8, 12]), (67, [2, 8, 12]), (259, [2, 6, 9, 12]), (4099, [2, 6, 8]), (13, [1, 4, 6, 8, 12]), (69, [1, 3, 8, 12]), (261, [1, 3, 6, 9, 12]), (4101, [1, 3, 6, 8]), (321, [1, 2, 9, 12]), (4161, [1, 2, 8]), (769, [1, 2, 6, 10, 12])], [(4353, [1, 2, 6, 9]), (28, [0, 5, 6, 8, 12]), (76, [0, 4, 8, 12]), (268, [0, 4, 6, 9, 12]), (4108, [0, 4, 6, 8]), (324, [0, 3, 9, 12]), (4164, [0, 3, 8]), (772, [0, 3, 6, 10, 12]), (4356, [0, 3, 6, 9]), (832, [0, 2, 10, 12]), (4416, [0, 2, 9]), (1792, [0, 2, 6, 11, 12]), (4864, [0, 2, 6, 10]), (15, [4, 6, 8, 12]), (71, [3, 8, 12])], [(263, [3, 6, 9, 12]), (4103, [3, 6, 8]), (323, [2, 9, 12]), (4163, [2, 8]), (771, [2, 6, 10, 12]), (4355, [2, 6, 9]), (29, [1, 5, 6, 8, 12]), (77, [1, 4, 8, 12]), (269, [1, 4, 6, 9, 12]), (4109, [1, 4, 6, 8]), (325, [1, 3, 9, 12]), (4165, [1, 3, 8]), (773, [1, 3, 6, 10, 12]), (4357, [1, 3, 6, 9]), (833, [1, 2, 10, 12]), (4417, [1, 2, 9])], [(1793, [1, 2, 6, 11, 12]), (4865, [1, 2, 6, 10]), (60, [0, 6, 8, 12]), (92, [0, 5, 8, 12]), (284, [0, 5, 6, 9, 12]), (4124, [0, 5, 6, 8]), (332, [0, 4, 9, 12]), (4172, [0, 4, 8]), (780, [0, 4, 6, 10, 12]), (4364, [0, 4, 6, 9]), (836, [0, 3, 10, 12]), (4420, [0, 3, 9]), (1796, [0, 3, 6, 11, 12]), (4868, [0, 3, 6, 10]), (1856, [0, 2, 11, 12])], [(4928, [0, 2, 10]), (3840, [0, 2, 6, 12]), (5888, [0, 2, 6, 11]), (31, [5, 6, 8, 12]), (79, [4, 8, 12]), (271, [4, 6, 9, 12]), (4111, [4, 6, 8]), (327, [3, 9, 12]), (4167, [3, 8]), (775, [3, 6, 10, 12]), (4359, [3, 6, 9]), (835, [2, 10, 12]), (4419, [2, 9]), (1795, [2, 6, 11, 12]), (4867, [2, 6, 10]), (61, [1, 6, 8, 12]), (93, [1, 5, 8, 12]), (285, [1, 5, 6, 9, 12])], [(4125, [1, 5, 6, 8]), (333, [1, 4, 9, 12]), (4173, [1, 4, 8]), (781, [1, 4, 6, 10, 12]), (4365, [1, 4, 6, 9]), (837, [1, 3, 10, 12]), (4421, [1, 3, 9]), (1797, [1, 3, 6, 11, 12]), (4869, [1, 3, 6, 10]), (1857, [1, 2, 11, 12]), (4929, [1, 2, 10]), (3841, [1, 2, 6, 12]), (5889, [1, 2, 6, 11]), (124, [0, 7, 8, 12]), (316, [0, 6, 9, 12]), (4156, [0, 6, 8])], [(348, [0, 5, 9, 12]), (4188, [0, 5, 8]), (796, [0, 5, 6, 10, 12]), (4380, [0, 5, 6, 9]), (844, [0, 4, 10, 12]), (4428, [0, 4, 9]), (1804, [0, 4, 6, 11, 12]), (4876, [0, 4, 6, 10]), (1860, [0, 3, 11, 12]), (4932, [0, 3, 10]), (3844, [0, 3, 6, 12]), (5892, [0, 3, 6, 11]), (3904, [0, 2, 12]), (5952, [0, 2, 11]), (7936, [0, 2, 6]), (63, [6, 8, 12]), (95, [5, 8, 12])], [(287, [5, 6, 9, 12]), (4127, [5, 6, 8]), (335, [4, 9, 12]), (4175, [4, 8]), (783, [4, 6, 10, 12]), (4367, [4, 6, 9]), (839, [3, 10, 12]), (4423, [3, 9]), (1799, [3, 6, 11, 12]), (4871, [3, 6, 10]), (1859, [2, 11, 12]), (4931, [2, 10]), (3843, [2, 6, 12]), (5891, [2, 6, 11]), (125, [1, 7, 8, 12]), (317, [1, 6, 9, 12]), (4157, [1, 6, 8]), (349, [1, 5, 9, 12]), (4189, [1, 5, 8])], [(797, [1, 5, 6, 10, 12]), (4381, [1, 5, 6, 9]), (845, [1, 4, 10, 12]), (4429, [1, 4, 9]), (1805, [1, 4, 6, 11, 12]), (4877, [1, 4, 6, 10]), (1861, [1, 3, 11, 12]), (4933, [1, 3, 10]), (3845, [1, 3, 6, 12]), (5893, [1, 3, 6, 11]), (3905, [1, 2, 12]), (5953, [1, 2, 11]), (7937, [1, 2, 6]), (252, [0, 8, 12]), (380, [0, 7, 9, 12]), (4220, [0, 7, 8]), (828, [0, 6, 10, 12])], [(4412, [0, 6, 9]), (860, [0, 5, 10, 12]), (4444, [0, 5, 9]), (1820, [0, 5, 6, 11, 12]), (4892, [0, 5, 6, 10]), (1868, [0, 4, 11, 12]), (4940, [0, 4, 10]), (3852, [0, 4, 6, 12]), (5900, [0, 4, 6, 11]), (3908, [0, 3, 12]), (5956, [0, 3, 11]), (7940, [0, 3, 6]), (8000, [0, 2]), (127, [7, 8, 12]), (319, [6, 9, 12]), (4159, [6, 8]), (351, [5, 9, 12]), (4191, [5, 8]), (799, [5, 6, 10, 12])], [(4383, [5, 6, 9]), (847, [4, 10, 12]), (4431, [4, 9]), (1807, [4, 6, 11, 12]), (4879, [4, 6, 10]), (1863, [3, 11, 12]), (4935, [3, 10]), (3847, [3, 6, 12]), (5895, [3, 6, 11]), (3907, [2, 12]), (5955, [2, 11]), (7939, [2, 6]), (253, [1, 8, 12]), (381, [1, 7, 9, 12]), (4221, [1, 7, 8]), (829, [1, 6, 10, 12]), (4413, [1, 6, 9]), (861, [1, 5, 10, 12]), (4445, [1, 5, 9]), (1821, [1, 5, 6, 11, 12])], [(4893, [1, 5, 6, 10]), (1869, [1, 4, 11, 12]), (4941, [1, 4, 10]), (3853, [1, 4, 6, 12]), (5901, [1, 4, 6, 11]), (3909, [1, 3, 12]), (5957, [1, 3, 11]), (7941, [1, 3, 6]), (8001, [1, 2]), (508, [0, 9, 12]), (4348, [0, 8]), (892, [0, 7, 10, 12]), (4476, [0, 7, 9]), (1852, [0, 6, 11, 12]), (4924, [0, 6, 10]), (1884, [0, 5, 11, 12]), (4956, [0, 5, 10]), (3868, [0, 5, 6, 12])], [(5916, [0, 5, 6, 11]), (3916, [0, 4, 12]), (5964, [0, 4, 11]), (7948, [0, 4, 6]), (8004, [0, 3]), (255, [8, 12]), (383, [7, 9, 12]), (4223, [7, 8]), (831, [6, 10, 12]), (4415, [6, 9]), (863, [5, 10, 12]), (4447, [5, 9]), (1823, [5, 6, 11, 12]), (4895, [5, 6, 10]), (1871, [4, 11, 12]), (4943, [4, 10]), (3855, [4, 6, 12]), (5903, [4, 6, 11]), (3911, [3, 12]), (5959, [3, 11]), (7943, [3, 6]), (8003, [2]), (509, [1, 9, 12])], [(4349, [1, 8]), (893, [1, 7, 10, 12]), (4477, [1, 7, 9]), (1853, [1, 6, 11, 12]), (4925, [1, 6, 10]), (1885, [1, 5, 11, 12]), (4957, [1, 5, 10]), (3869, [1, 5, 6, 12]), (5917, [1, 5, 6, 11]), (3917, [1, 4, 12]), (5965, [1, 4, 11]), (7949, [1, 4, 6]), (8005, [1, 3]), (1020, [0, 10, 12]), (4604, [0, 9]), (1916, [0, 7, 11, 12]), (4988, [0, 7, 10]), (3900, [0, 6, 12]), (5948, [0, 6, 11])], [(3932, [0, 5, 12]), (5980, [0, 5, 11]), (7964, [0, 5, 6]), (8012, [0, 4]), (511, [9, 12]), (4351, [8]), (895, [7, 10, 12]), (4479, [7, 9]), (1855, [6, 11, 12]), (4927, [6, 10]), (1887, [5, 11, 12]), (4959, [5, 10]), (3871, [5, 6, 12]), (5919, [5, 6, 11]), (3919, [4, 12]), (5967, [4, 11]), (7951, [4, 6]), (8007, [3]), (1021, [1, 10, 12]), (4605, [1, 9]), (1917, [1, 7, 11, 12]), (4989, [1, 7, 10]), (3901, [1, 6, 12]), (5949, [1, 6, 11])], [(3933, [1, 5, 12]), (5981, [1, 5, 11]), (7965, [1, 5, 6]), (8013, [1, 4]), (2044, [0, 11, 12]), (5116, [0, 10]), (3964, [0, 7, 12]), (6012, [0, 7, 11]), (7996, [0, 6]), (8028, [0, 5]), (1023, [10, 12]), (4607, [9]), (1919, [7, 11, 12]), (4991, [7, 10]), (3903, [6, 12]), (5951, [6, 11]), (3935, [5, 12]), (5983, [5, 11]), (7967, [5, 6]), (8015, [4]), (2045, [1, 11, 12]), (5117, [1, 10]), (3965, [1, 7, 12]), (6013, [1, 7, 11]), (7997, [1, 6]), (8029, [1, 5])], [(4092, [0, 12]), (6140, [0, 11]), (8060, [0, 7]), (2047, [11, 12]), (5119, [10]), (3967, [7, 12]), (6015, [7, 11]), (7999, [6]), (8031, [5]), (4093, [1, 12]), (6141, [1, 11]), (8061, [1, 7]), (8188, [0, 13]), (4095, [12]), (6143, [11]), (8063, [7]), (8189, [1, 13]), (16380, [0]), (8191, [13]), (16381, [1]), (16383, [14]), (32767, [15]), (65535, [])]] 65535 (by kernel_rfl) (by kernel_rfl) ?_ ⟨?_, ?_, ?_, ?_, ?_, ?_, ?_, ?_, ?_, ?_, ?_, ?_, ?_, ?_, ?_, ?_, ?_, ?_, trivial⟩ ?_
   · simp +decide (maxDischargeDepth := 200) only [go_sem]
   · as_aux_lemma => simp +decide (maxDischargeDepth := 200) (maxSteps := 100000000) only [go_sem, unrow_eq, Nat.reduceOr, Nat.reducePow, k0, k1, hm, l0, l1, t0, t1]
   · as_aux_lemma => simp +decide (maxDischargeDepth := 200) (maxSteps := 100000000) only [go_sem, unrow_eq, Nat.reduceOr, Nat.reducePow, k0, k1, hm, l0, l1, t0, t1]
   · as_aux_lemma => simp +decide (maxDischargeDepth := 200) (maxSteps := 100000000) only [go_sem, unrow_eq, Nat.reduceOr, Nat.reducePow, k0, k1, hm, l0, l1, t0, t1]
   · as_aux_lemma => simp +decide (maxDischargeDepth := 200) (maxSteps := 100000000) only [go_sem, unrow_eq, Nat.reduceOr, Nat.reducePow, k0, k1, hm, l0, l1, t0, t1]
   · as_aux_lemma => simp +decide (maxDischargeDepth := 200) (maxSteps := 100000000) only [go_sem, unrow_eq, Nat.reduceOr, Nat.reducePow, k0, k1, hm, l0, l1, t0, t1]
   · as_aux_lemma => simp +decide (maxDischargeDepth := 200) (maxSteps := 100000000) only [go_sem, unrow_eq, Nat.reduceOr, Nat.reducePow, k0, k1, hm, l0, l1, t0, t1]
   · as_aux_lemma => simp +decide (maxDischargeDepth := 200) (maxSteps := 100000000) only [go_sem, unrow_eq, Nat.reduceOr, Nat.reducePow, k0, k1, hm, l0, l1, t0, t1]
   · as_aux_lemma => simp +decide (maxDischargeDepth := 200) (maxSteps := 100000000) only [go_sem, unrow_eq, Nat.reduceOr, Nat.reducePow, k0, k1, hm, l0, l1, t0, t1]
   · as_aux_lemma => simp +decide (maxDischargeDepth := 200) (maxSteps := 100000000) only [go_sem, unrow_eq, Nat.reduceOr, Nat.reducePow, k0, k1, hm, l0, l1, t0, t1]
   · as_aux_lemma => simp +decide (maxDischargeDepth := 200) (maxSteps := 100000000) only [go_sem, unrow_eq, Nat.reduceOr, Nat.reducePow, k0, k1, hm, l0, l1, t0, t1]
   · as_aux_lemma => simp +decide (maxDischargeDepth := 200) (maxSteps := 100000000) only [go_sem, unrow_eq, Nat.reduceOr, Nat.reducePow, k0, k1, hm, l0, l1, t0, t1]
   · as_aux_lemma => simp +decide (maxDischargeDepth := 200) (maxSteps := 100000000) only [go_sem, unrow_eq, Nat.reduceOr, Nat.reducePow, k0, k1, hm, l0, l1, t0, t1]
   · as_aux_lemma => simp +decide (maxDischargeDepth := 200) (maxSteps := 100000000) only [go_sem, unrow_eq, Nat.reduceOr, Nat.reducePow, k0, k1, hm, l0, l1, t0, t1]
   · as_aux_lemma => simp +decide (maxDischargeDepth := 200) (maxSteps := 100000000) only [go_sem, unrow_eq, Nat.reduceOr, Nat.reducePow, k0, k1, hm, l0, l1, t0, t1]
   · as_aux_lemma => simp +decide (maxDischargeDepth := 200) (maxSteps := 100000000) only [go_sem, unrow_eq, Nat.reduceOr, Nat.reducePow, k0, k1, hm, l0, l1, t0, t1]
   · as_aux_lemma => simp +decide (maxDischargeDepth := 200) (maxSteps := 100000000) only [go_sem, unrow_eq, Nat.reduceOr, Nat.reducePow, k0, k1, hm, l0, l1, t0, t1]
   · as_aux_lemma => simp +decide (maxDischargeDepth := 200) (maxSteps := 100000000) only [go_sem, unrow_eq, Nat.reduceOr, Nat.reducePow, k0, k1, hm, l0, l1, t0, t1]
   · as_aux_lemma => simp +decide (maxDischargeDepth := 200) (maxSteps := 100000000) only [go_sem, unrow_eq, Nat.reduceOr, Nat.reducePow, k0, k1, hm, l0, l1, t0, t1]
   · simp +decide (maxDischargeDepth := 200) only [go_sem, Tryz.results16]
 rw [if_neg h5]
 have d5 := decide_eq_false h5
 by_cases h6 : k = 6
 · subst h6
   rw [if_pos rfl]
   rcases node_nl hf with ⟨rfl, rfl, hnil⟩ | ⟨rfl, rfl⟩
   · obtain rfl := List.map_eq_nil_iff.1 hnil
     have hcall := GCall_of (name := nm) (nl := false) (sz := 1) (l := []) ⟨fun _ => rfl, (fun r hr => by cases hr), by simp only [allL, List.flatMap_nil, List.length_nil]; omega, by simp only [List.length_nil]; omega⟩
     simp only [List.map_nil] at hcall ⊢
     rcases hcw : callW nm [] with ⟨b1, b2, b3⟩
     rw [hcw] at hcall
     simp only [tv, vl, mpM] at hcall hargs0
     rw [← rowA_nil 1] at hargs0
     clear hkid hargs hka hkr hat hkok hgin hin hM hr hs h400 hlt c20 cu cp ck ferr
     simp +decide (maxDischargeDepth := 200) only [go_sem, Tryz.results16, d1, d2, d4, d5]
     refine any_dagB [(0, 0, 1, .mp 1001 (ksM L) (vsM L)), (0, 0, 2, .ptr 2 0), (0, 0, 4, .ptr 4 0), (1, 2, 45, .ptr 2 2), (2, 64, 46, .x (.string nm)), (4, 8, 47, .ptr 2 12), (8, 32, 48, .sl true 0 [] none), (16, 32, 49, .mp 1001 (ksM L) (vsM L)), (32, 64, 50, .sl false 1 [] none), (64, 128, 51, vl b1 b2 b3)] [(0, 0, 2, [.x (.int .i64 6), .x (.string op), .x (.string nm), .x (.int .i64 vk), .x (.int .i64 vn), .x (.string vs), .x (.string cs), .x (.int .i64 cc), .x (.int .i64 cr), .x (.string ts), .x (.int .i64 tc), .x (.int .i64 tr), .sl true 0 [] none]), (0, 128, 4, [.x (.int .i64 0), .x (.int .i64 0), .x (.string ⟨#[]⟩)]), (128, 0, 4, [.x (.int .i64 b1), .x (.int .i64 b2), .x (.string b3)])] [(0, 0, 1), (0, 2, 4), (0, 4, 16), (1, 1, 3), (1, 2, 5), (1, 4, 17), (4, 0, 5), (4, 3, 12), (4, 4, 20), (16, 0, 17), (16, 2, 20), (3, 2, 7), (3, 4, 19), (5, 1, 7), (5, 3, 13), (5, 4, 21), (17, 1, 19), (17, 2, 21), (12, 0, 13), (12, 4, 28), (20, 0, 21), (20, 3, 28), (7, 3, 15), (7, 4, 23), (19, 2, 23), (13, 1, 15), (13, 4, 29), (21, 1, 23), (21, 3, 29), (28, 0, 29), (28, 5, 60), (15, 4, 31), (23, 3, 31), (29, 1, 31), (29, 5, 61), (60, 0, 61), (31, 5, 63), (61, 1, 63), (63, 6, 127), (127, 7, 255)] 255 (by kernel_rfl) (by kernel_rfl) ?_ ?_ ?_
     · simp +decide (maxDischargeDepth := 200) only [go_sem]
     · simp +decide (maxDischargeDepth := 200) only [go_sem, hargs0, hcall]
     · simp +decide (maxDischargeDepth := 200) only [go_sem, Tryz.results16]
   · have ha := hargs
     have hcall := GCall_of (name := nm) (nl := false) (sz := 1) (l := l.map fun n => kidR (getM L) n.hd (evalN (getM L) n)) ⟨fun _ => rfl, hkr, by have := hka.2; simp only; omega, by simp only [List.length_map]; omega⟩
     generalize (l.map fun n => kidR (getM L) n.hd (evalN (getM L) n)) = rs at ha hcall ⊢
     rcases hcw : callW nm rs with ⟨b1, b2, b3⟩
     rw [hcw] at hcall
     simp only [tv, vl, mpM] at hcall ha
     generalize rs.map rwV = rl at ha hcall
     generalize l.map nodeV = kl at ha ⊢
     clear hkid hargs hargs0 hka hkr hat hkok hgin hin hM hr hs h400 hlt c20 cu cp ck ferr
     simp +decide (maxDischargeDepth := 200) only [go_sem, Tryz.results16, d1, d2, d4, d5]
     refine any_dagB [(0, 0, 1, .mp 1001 (ksM L) (vsM L)), (0, 0, 2, .ptr 2 0), (0, 0, 4, .ptr 4 0), (1, 2, 45, .ptr 2 2), (2, 64, 46, .x (.string nm)), (4, 8, 47, .ptr 2 12), (8, 32, 48, .sl false 13 kl none), (16, 32, 49, .mp 1001 (ksM L) (vsM L)), (32, 64, 50, .sl false 1 rl none), (64, 128, 51, vl b1 b2 b3)] [(0, 0, 2, [.x (.int .i64 6), .x (.string op), .x (.string nm), .x (.int .i64 vk), .x (.int .i64 vn), .x (.string vs), .x (.string cs), .x (.int .i64 cc), .x (.int .i64 cr), .x (.string ts), .x (.int .i64 tc), .x (.int .i64 tr), .sl false 13 kl none]), (0, 128, 4, [.x (.int .i64 0), .x (.int .i64 0), .x (.string ⟨#[]⟩)]), (128, 0, 4, [.x (.int .i64 b1), .x (.int .i64 b2), .x (.string b3)])] [(0, 0, 1), (0, 2, 4), (0, 4, 16), (1, 1, 3), (1, 2, 5), (1, 4, 17), (4, 0, 5), (4, 3, 12), (4, 4, 20), (16, 0, 17), (16, 2, 20), (3, 2, 7), (3, 4, 19), (5, 1, 7), (5, 3, 13), (5, 4, 21), (17, 1, 19), (17, 2, 21), (12, 0, 13), (12, 4, 28), (20, 0, 21), (20, 3, 28), (7, 3, 15), (7, 4, 23), (19, 2, 23), (13, 1, 15), (13, 4, 29), (21, 1, 23), (21, 3, 29), (28, 0, 29), (28, 5, 60), (15, 4, 31), (23, 3, 31), (29, 1, 31), (29, 5, 61), (60, 0, 61), (31, 5, 63), (61, 1, 63), (63, 6, 127), (127, 7, 255)] 255 (by kernel_rfl) (by kernel_rfl) ?_ ?_ ?_
     · simp +decide (maxDischargeDepth := 200) only [go_sem]
     · simp +decide (maxDischargeDepth := 200) only [go_sem, ha, hcall]
     · simp +decide (maxDischargeDepth := 200) only [go_sem, Tryz.results16]
 rw [if_neg h6]
 have d6 := decide_eq_false h6
 simp +decide (maxDischargeDepth := 200) only [go_sem, Tryz.results16, d1, d2, d7, d4, d5, d6, ferr]
theorem ereckon_all (hcallF : FunV 28 (FE encNA GCall)) : ∀ n, FunPV 16 (FE encRk (GRk n))
 | 0 => ⟨fun a w => Tryz.call16 a w, fun m w vs us bs gs hs r outs hF => by
     obtain ⟨p, _, h⟩ := FE_out hF
     unfold GRk at h
     split at h
     · rename_i hh; exact absurd hh.1 (Nat.not_lt_zero _)
     · cases h⟩
 | n + 1 => by
   have h := ereckon_all hcallF n
   exact ereckon_step n hcallF h (eargs_step n (erow_step n h))
theorem ereckon_fun (hcallF : FunV 28 (FE encNA GCall)) : FunPV 16 (FE encRk (GRk 401)) := ereckon_all hcallF 401
end Go.Proofs.YtfngpfnbhafmlaaGreatDoor

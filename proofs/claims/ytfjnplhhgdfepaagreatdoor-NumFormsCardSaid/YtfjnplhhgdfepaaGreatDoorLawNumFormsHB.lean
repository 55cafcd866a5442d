/- NumForms: what its walk leans on: contracts of helpers, and facts of integers. -/
import Derived.Deep.AppendLies
import Derived.Deep.DeepCutAuto
import Derived.Outline
import Derived.IntWalk
import Derived.Test.YtfjnplhhgdfepaaGreatDoorLawNumFormsH
set_option linter.all false

/- The reference's FromBytes. -/
namespace Go.Proofs.YtfjnplhhgdfepaaGreatDoor
open Go.RowKit

set_option maxHeartbeats 1000000 in
theorem rfb_empty (ao : Option Addr) (cap : Nat) (bs : List Int) (w : World) (hs : Sb w ao 0 cap bs) :
    Calls Tryz.prog 35 #[.slice ao 0 cap] w (RetNo w) := by
  have hl := hs.len_le
  go_enter Tryz.func35, Tryz.ntmps35
  go_wp2
  refine bodyPost_ret (v := .tuple #[.agg #[.bool false, .slice none 0 0], .int .i64 12]) (by simp [results, Tryz.results35, go_sem]) rfl ?_
  exact ⟨rfl, ((Below.refl _ w).alloc (Nat.le_refl _) _)⟩

set_option maxHeartbeats 1000000 in
theorem rfb_odd (ao : Option Addr) (len cap : Nat) (bs : List Int) (w : World) (hs : Sb w ao len cap bs) (h0 : 0 < len) (c : Int) (hc : bs.getD 0 0 = c) (hc0 : 0 ≤ c) (hc1 : c ≤ 255) (hne : (len : Int) ≠ 1 + 4 * (c % 128)) :
    Calls Tryz.prog 35 #[.slice ao len cap] w (RetNo w) := by
  have hl := hs.len_le
  have hA := hs.alloc (.cells #[.bool false, .slice none 0 0] 24)
  obtain ⟨b, o, rfl, hcell⟩ := hA.at h0
  have hb0 := hcell 0 h0
  rw [hc] at hb0
  simp only [Nat.add_zero] at hb0
  have hq0 : ((len : Int) == 0) = false := by simp; omega
  have hm : Int.tmod c 128 = c % 128 := Int.tmod_eq_emod_of_nonneg hc0
  have hm2 : 0 ≤ c % 128 ∧ c % 128 < 128 := by omega
  have hq : ((len : Int) != 1 + 4 * (c % 128)) = true := by simpa using hne
  have hi0 : (0 : Int) < (len : Int) := by omega
  clear hne hcell hs hA
  go_enter Tryz.func35, Tryz.ntmps35
  go_wp2
  refine bodyPost_ret (v := .tuple #[.agg #[.bool false, .slice none 0 0], .int .i64 12]) (by simp [results, Tryz.results35, go_sem]) rfl ?_
  exact ⟨rfl, ((Below.refl _ w).alloc (Nat.le_refl _) _)⟩

theorem box_put {w : World} {g : Nat} {a b : Value} {t : TypeId} (h : w.heap[g]? = some (.cells #[a, b] t (0, 0))) (u : Value) : (w.setCell ⟨g, 1, none⟩ u).heap[g]? = some (.cells #[a, u] t (0, 0)) := by
  simp [World.setCell, Array.getElem?_modify, h]
/-- The parts of the bytes, the t most significant places of n done. -/
def tparts (bs : List Int) (n t : Nat) : List Int := (List.range t).map fun j => qv bs (n - 1 - j)
theorem tparts_step (bs : List Int) (n t : Nat) : tparts bs n (t + 1) = tparts bs n t ++ [qv bs (n - 1 - t)] := by
  simp [tparts, List.range_succ]
theorem tparts_all (bs : List Int) (n : Nat) : tparts bs n n = qparts bs n n := by
  unfold tparts qparts
  apply List.map_congr_left
  intro j hj
  have := List.mem_range.1 hj
  rw [if_pos (by omega)]
theorem Sb.keep {w w' : World} {b o len cap : Nat} {xs : List Int} (h : Sb w (some ⟨b, o, none⟩) len cap xs) (hb : w'.heap[b]? = w.heap[b]?) : Sb w' (some ⟨b, o, none⟩) len cap xs := by
  obtain ⟨h1, h2, h3, ⟨h4, _⟩ | ⟨b', o', h5, h6⟩⟩ := h
  · cases h4
  · cases h5
    exact ⟨h1, h2, h3, .inr ⟨b, o, rfl, fun j hj => (World.cell?_of_block hb).trans (h6 j hj)⟩⟩
theorem tparts_length (bs : List Int) (n t : Nat) : (tparts bs n t).length = t := by simp [tparts]

/-- What each quiet operation of the round yields. -/
def fbQ (g b o len cap m m1 m2 m3 : Nat) (v : Value) (d0 d1 d2 d3 : Int) : List Value :=
  let S : Value := .slice (some ⟨b, o, none⟩) len cap
  [.pointer (some ⟨g, 1, none⟩), v, S, .int .i64 m, .pointer (some ⟨b, o + m, none⟩), .int .u8 d0, .int .i64 d0, .int .i64 (d0 * 256),
   S, .int .i64 m, .int .i64 m1, .pointer (some ⟨b, o + m1, none⟩), .int .u8 d1, .int .i64 d1, .int .i64 (d0 * 256 + d1), .int .i64 ((d0 * 256 + d1) * 256),
   S, .int .i64 m, .int .i64 m2, .pointer (some ⟨b, o + m2, none⟩), .int .u8 d2, .int .i64 d2, .int .i64 ((d0 * 256 + d1) * 256 + d2), .int .i64 (((d0 * 256 + d1) * 256 + d2) * 256),
   S, .int .i64 m, .int .i64 m3, .pointer (some ⟨b, o + m3, none⟩), .int .u8 d3, .int .i64 d3, .int .i64 (((d0 * 256 + d1) * 256 + d2) * 256 + d3)]
/-- Where the round's memory stands: B: the row's least block; g: the box. -/
def FbA (wr : World) (B g : Nat) (sg : Bool) (v : Value) (k : Nat) (xs : List Value) (x : Value) (w' : World) (L : Nat → Bool) (U : Nat → Value) : Prop :=
  Below g wr w' ∧ (L 32 = false → Below wr.heap.size wr w') ∧ (L 31 = true → L 32 = false → ∃ h, U 31 = .slice (some ⟨h, 0, none⟩) 1 1 ∧ w'.cell? ⟨h, 0, none⟩ = some x) ∧
  (L 32 = true → L 31 = true ∧ L 1 = true) ∧ (L 34 = true → L 32 = true) ∧ (L 33 = true → U 33 = .pointer (some ⟨g, 1, none⟩)) ∧
  (L 32 = true → w'.ownsRow B 3 1 (U 32) (k + 1) (xs ++ [x]) ∧ (L 34 = false → w'.heap[g]? = some (.cells #[.bool sg, v] 24 (0, 0))) ∧ (L 34 = true → w'.heap[g]? = some (.cells #[.bool sg, U 32] 24 (0, 0))))
def FbF (Qs : List Value) (wr : World) (B g : Nat) (sg : Bool) (v : Value) (k : Nat) (xs : List Value) (x : Value) (L : Nat → Bool) (U : Nat → Value) (w' : World) : Prop :=
  (∀ j q, Qs[j]? = some q → L j = true → U j = q) ∧ FbA wr B g sg v k xs x w' L U
theorem fbQ_next {Qs : List Value} {L : Nat → Bool} {U : Nat → Value} (h : ∀ j q, Qs[j]? = some q → L j = true → U j = q) (i : Nat) {v : Value} (hv : ∀ q, Qs[i]? = some q → v = q) : ∀ j q, Qs[j]? = some q → more L i j = true → upd U i v j = q := by
  intro j q hq hL
  by_cases hj : j = i
  · subst hj
    unfold upd; rw [if_pos rfl]; exact hv q hq
  · unfold upd; rw [if_neg hj]
    exact h j q hq (by unfold more at hL; rwa [if_neg hj] at hL)
theorem own_below {w w' : World} {B n : Nat} {v : Value} {e : TypeId} {xs : List Value} (h : w.ownsRow B e 1 v n xs) (hb : Below w.heap.size w w') : w'.ownsRow B e 1 v n xs := by
  rcases h with ⟨h1, h2 | ⟨g, cap, cur, hv, hB, hg, hr⟩⟩
  · exact ⟨h1, .inl h2⟩
  · refine ⟨h1, .inr ⟨g, cap, cur, hv, hB, ?_, hr⟩⟩
    have hlt : g < w.heap.size := (Array.getElem?_eq_some_iff.1 hg).1
    exact (hb.block g hlt).trans hg

set_option maxRecDepth 100000 in
set_option maxHeartbeats 4000000 in
theorem rfb_parts (ao : Option Addr) (len cap : Nat) (bs : List Int) (w : World) (hs : Sb w ao len cap bs) (n : Nat) (hlen : len = 1 + 4 * n) (hn : n < 128) (c : Int) (hc : bs.getD 0 0 = c) (hc0 : 0 ≤ c) (hc1 : c ≤ 255) (hcn : c % 128 = n) (hby : ∀ j, 0 ≤ bs.getD j 0 ∧ bs.getD j 0 ≤ 255) (ok : Bool) (hok : okInt (decide (128 ≤ c)) (qparts bs n n) = ok) :
    Calls Tryz.prog 35 #[.slice ao len cap] w fun e w' => if ok then RetPE (decide (128 ≤ c)) (qparts bs n n) 0 w e w' else RetNo w e w' := by
  have hl := hs.len_le
  obtain ⟨i0, hi, hz0, hz1, hz2⟩ := info_parts Tryz.info3
  have hA := (hs.alloc (.cells #[.bool false, .slice none 0 0] 24)).alloc (.cells #[.bool (decide (128 ≤ c)), .slice none 0 0] 24)
  obtain ⟨b, o, rfl, hcell⟩ := hA.at (by omega)
  have hsa := hs.alloc (.cells #[.bool false, .slice none 0 0] 24)
  obtain ⟨b', o', e_, hcell1⟩ := hsa.at (by omega)
  cases e_
  have hbw : b < w.heap.size := by
    obtain ⟨b2, o2, e2, hh⟩ := hs.at (by omega)
    cases e2
    exact cell_lt (hh 0 (by omega))
  have hb0 := hcell1 0 (by omega)
  rw [hc] at hb0
  simp only [Nat.add_zero] at hb0
  have hq0 : ((len : Int) == 0) = false := by simp; omega
  have hm : Int.tmod c 128 = n := by rw [Int.tmod_eq_emod_of_nonneg hc0, hcn]
  have hq : ((len : Int) != 1 + 4 * (n : Int)) = false := by simp; omega
  have hi0_ : (0 : Int) < (len : Int) := by omega
  have Hck := Lib.hid (fun ao len cap w hs => is_any (decide (128 ≤ c)) ao len cap (qparts bs n n) w hs)
  rw [hok] at Hck
  clear hok
  have Hlen := Lib.hid hlen
  have hlen1 : (len : Int) = 1 + 4 * (n : Int) := by omega
  have Hlen1 := Lib.hid hlen1
  clear hcell hcell1 hs hlen hlen1 hsa
  have hR := (heap_new w (.cells #[.bool false, .slice none 0 0] 24))
  go_enter Tryz.func35, Tryz.ntmps35

  go_wp2_with fail
  have hR0 : BoxI ((w.alloc (.cells #[.bool false, .slice none 0 0] 24)).alloc (.cells #[.bool (decide (128 ≤ c)), .slice none 0 0] 24)) w.heap.size false none 0 0 := (BoxI.new w w.heap.size rfl false none 0 0).alloc _
  have hB0 : ((w.alloc (.cells #[.bool false, .slice none 0 0] 24)).alloc (.cells #[.bool (decide (128 ≤ c)), .slice none 0 0] 24)).heap[w.heap.size + 1]? = some (.cells #[.bool (decide (128 ≤ c)), .slice none 0 0] 24 (0, 0)) := by
    have := heap_new (w.alloc (.cells #[.bool false, .slice none 0 0] 24)) (.cells #[.bool (decide (128 ≤ c)), .slice none 0 0] 24)
    rwa [World.size_alloc] at this
  have hbb0 : Below w.heap.size w ((w.alloc (.cells #[.bool false, .slice none 0 0] 24)).alloc (.cells #[.bool (decide (128 ≤ c)), .slice none 0 0] 24)) := below2 w _ _
  clear hR hb0
  have hsz : w.heap.size + 2 ≤ ((w.alloc (.cells #[.bool false, .slice none 0 0] 24)).alloc (.cells #[.bool (decide (128 ≤ c)), .slice none 0 0] 24)).heap.size := by simp
  generalize ((w.alloc (.cells #[.bool false, .slice none 0 0] 24)).alloc (.cells #[.bool (decide (128 ≤ c)), .slice none 0 0] 24)) = W0 at *
  generalize hsg : decide (128 ≤ c) = sg at *
  have Hsg := Lib.hid hsg
  clear hsg
  go_loopw [5] (fun i wr => ∃ (t : Nat) (iv : Int) (v : Value), t ≤ n ∧ i = .int .i64 iv ∧ iv = 4 * (n : Int) - 3 - 4 * (t : Int) ∧ wr.ownsRow (w.heap.size + 2) 3 1 v t ((tparts bs n t).map (Value.int .i64)) ∧ wr.heap[w.heap.size + 1]? = some (.cells #[.bool sg, v] 24 (0, 0)) ∧ BoxI wr w.heap.size false none 0 0 ∧ Sb wr (some ⟨b, o, none⟩) len cap bs ∧ Below w.heap.size w wr ∧ w.heap.size + 2 ≤ wr.heap.size) (fun i _ => (intOf i + 4).toNat)
  case atStart => exact ⟨0, _, _, Nat.zero_le _, rfl, by have := Hlen1.out; omega, ⟨rfl, .inl ⟨rfl, rfl⟩⟩, hB0, hR0, hA, hbb0, hsz⟩
  case round =>
    clear hA hR0 hB0 hbb0 hsz
    obtain ⟨t, iv, v, ht, rfl, hiv, hown, hB, hR, hA, hbb, hsz⟩ := hrel
    have hlen := Hlen.out
    by_cases hlt : t < n
    · obtain ⟨m, hm_⟩ : ∃ m : Nat, 1 + 4 * (n - 1 - t) = m := ⟨_, rfl⟩
      obtain rfl : iv = (m : Int) := by omega
      obtain ⟨m1, hm1⟩ : ∃ j : Nat, m + 1 = j := ⟨_, rfl⟩
      obtain ⟨m2, hm2⟩ : ∃ j : Nat, m + 2 = j := ⟨_, rfl⟩
      obtain ⟨m3, hm3⟩ : ∃ j : Nat, m + 3 = j := ⟨_, rfl⟩
      have hb_0 : (m : Int) < (len : Int) := by omega
      have hb_1 : (m1 : Int) < (len : Int) := by omega
      have hb_2 : (m2 : Int) < (len : Int) := by omega
      have hb_3 : (m3 : Int) < (len : Int) := by omega
      have hw1_ : IntKind.i64.wrap ((m : Int) + 1) = (m1 : Int) := by rw [IntWalk.i64_in _ (by omega)]; omega
      have hw2_ : IntKind.i64.wrap ((m : Int) + 2) = (m2 : Int) := by rw [IntWalk.i64_in _ (by omega)]; omega
      have hw3_ : IntKind.i64.wrap ((m : Int) + 3) = (m3 : Int) := by rw [IntWalk.i64_in _ (by omega)]; omega
      have hm0_ : 0 < (m : Int) := by omega
      obtain ⟨b', o', e_, hcell⟩ := hA.at (by omega)
      cases e_
      have c0 := hcell m (by omega)
      have c1 := hcell m1 (by omega)
      have c2 := hcell m2 (by omega)
      have c3 := hcell m3 (by omega)
      have y0 := hby m; have y1 := hby m1; have y2 := hby m2; have y3 := hby m3
      have HQ := Lib.hid (show qv bs (n - 1 - t) = ((bs.getD m 0 * 256 + bs.getD m1 0) * 256 + bs.getD m2 0) * 256 + bs.getD m3 0 by unfold qv; rw [hm_, hm1, hm2, hm3]; omega)
      generalize bs.getD m 0 = d0 at *
      generalize bs.getD m1 0 = d1 at *
      generalize bs.getD m2 0 = d2 at *
      generalize bs.getD m3 0 = d3 at *
      have Hm := Lib.hid hm_; have Hiv := Lib.hid hiv
      clear hcell hlen hm_ hm1 hm2 hm3 hiv
      go_upto_region 7 with (fail)

      refine region_kept 35 [some 35, some 36, some 37, some 38, some 39, some 40, some 41, some 42, some 43, some 44, some 45, some 46, some 47, some 48, some 49, some 50, some 51, some 52, some 53, some 54, some 55, some 56, some 57, some 58, some 59, some 60, some 61, some 62, some 63, some 64, some 65, some 66, some 67, some 68, none] (fun U => [U 0, U 1, U 2, U 3, U 4, U 5, U 6, U 7, U 8, U 9, U 10, U 11, U 12, U 13, U 14, U 15, U 16, U 17, U 18, U 19, U 20, U 21, U 22, U 23, U 24, U 25, U 26, U 27, U 28, U 29, U 30, U 31, U 32, U 33, U 34]) (FbF (fbQ (w.heap.size + 1) b o len cap m m1 m2 m3 v d0 d1 d2 d3) wr (w.heap.size + 2) (w.heap.size + 1) sg v t ((tparts bs n t).map (Value.int .i64)) (.int .i64 (((d0 * 256 + d1) * 256 + d2) * 256 + d3))) rfl rfl (fun _ => rfl) rfl (by kernel_rfl) (by kernel_rfl) (by kernel_rfl) ?start ?step ?fin
      case start =>
        intro U
        exact ⟨fun _ _ _ h => (by cases h), ((Below.refl wr.heap.size wr).mono (show w.heap.size + 1 ≤ wr.heap.size by omega)).drew, fun _ => (Below.refl _ _).drew, (by intro h; cases h), (by intro h; cases h), (by intro h; cases h), (by intro h; cases h), (by intro h; cases h)⟩
      case step =>
        refine ⟨?_, ?_, ?_, ?_, ?_, ?_, ?_, ?_, ?_, ?_, ?_, ?_, ?_, ?_, ?_, ?_, ?_, ?_, ?_, ?_, ?_, ?_, ?_, ?_, ?_, ?_, ?_, ?_, ?_, ?_, ?_, ?_, ?_, ?_, ?_, trivial⟩
        · intro L U w' a hF hLi hmet hb ho K hK
          have U1 := hF.2.1
          have s4 : a.tmps.getD 4 undef = .pointer (some ⟨w.heap.size + 1, 0, none⟩) := (ho 4 rfl).trans rfl
          have r4 := getD_r s4
          clear hb ho hmet
          rw [if_pos (by rfl)]
          go_simp
          exact hK.out (.pointer (some ⟨w.heap.size + 1, 1, none⟩)) w' ⟨fbQ_next hF.1 0 (by intro q hq; cases hq; rfl), hF.2⟩
        · intro L U w' a hF hLi hmet hb ho K hK
          have U1 := hF.2.1
          have s35 := (hb 0 35 rfl).trans (hF.1 0 _ rfl (hmet.get rfl))
          have r35 := getD_r s35
          have n32 : L 32 = false := by cases h32 : L 32 with | false => rfl | true => exact absurd ((hF.2.2.2.2.1 h32).2.symm.trans hLi) (by decide)
          have hB1 := ((hF.2.2.1 n32).block (w.heap.size + 1) (by omega)).trans hB
          have e_ := (box2 hB1).2.1
          clear hb ho hmet
          rw [if_pos (by rfl)]
          go_simp
          exact hK.out (v) w' ⟨fbQ_next hF.1 1 (by intro q hq; cases hq; rfl), ⟨hF.2.1, hF.2.2.1, hF.2.2.2.1, fun h => absurd (n32.symm.trans h) (by decide), hF.2.2.2.2.2⟩⟩
        · intro L U w' a hF hLi hmet hb ho K hK
          have U1 := hF.2.1
          have s0 : a.tmps.getD 0 undef = .slice (some ⟨b, o, none⟩) len cap := (ho 0 rfl).trans rfl
          have r0 := getD_r s0
          clear hb ho hmet
          rw [if_pos (by rfl)]
          go_simp
          exact hK.out (.slice (some ⟨b, o, none⟩) len cap) w' ⟨fbQ_next hF.1 2 (by intro q hq; cases hq; rfl), hF.2⟩
        · intro L U w' a hF hLi hmet hb ho K hK
          have U1 := hF.2.1
          have s5 : a.tmps.getD 5 undef = .int .i64 m := (ho 5 rfl).trans rfl
          have r5 := getD_r s5
          clear hb ho hmet
          rw [if_pos (by rfl)]
          go_simp
          exact hK.out (.int .i64 m) w' ⟨fbQ_next hF.1 3 (by intro q hq; cases hq; rfl), hF.2⟩
        · intro L U w' a hF hLi hmet hb ho K hK
          have U1 := hF.2.1
          have s37 := (hb 2 37 rfl).trans (hF.1 2 _ rfl (hmet.get rfl))
          have r37 := getD_r s37
          have s38 := (hb 3 38 rfl).trans (hF.1 3 _ rfl (hmet.get rfl))
          have r38 := getD_r s38
          clear hb ho hmet
          rw [if_pos (by rfl)]
          go_simp
          exact hK.out (.pointer (some ⟨b, o + m, none⟩)) w' ⟨fbQ_next hF.1 4 (by intro q hq; cases hq; rfl), hF.2⟩
        · intro L U w' a hF hLi hmet hb ho K hK
          have U1 := hF.2.1
          have s39 := (hb 4 39 rfl).trans (hF.1 4 _ rfl (hmet.get rfl))
          have r39 := getD_r s39
          have e_ := (World.cell?_of_block (U1.block b (by omega))).trans c0
          clear hb ho hmet
          rw [if_pos (by rfl)]
          go_simp
          exact hK.out (.int .u8 d0) w' ⟨fbQ_next hF.1 5 (by intro q hq; cases hq; rfl), hF.2⟩
        · intro L U w' a hF hLi hmet hb ho K hK
          have U1 := hF.2.1
          have s40 := (hb 5 40 rfl).trans (hF.1 5 _ rfl (hmet.get rfl))
          have r40 := getD_r s40
          clear hb ho hmet
          rw [if_pos (by rfl)]
          go_simp
          rw [IntWalk.i64_in d0 (by omega)]
          exact hK.out (.int .i64 d0) w' ⟨fbQ_next hF.1 6 (by intro q hq; cases hq; rfl), hF.2⟩
        · intro L U w' a hF hLi hmet hb ho K hK
          have U1 := hF.2.1
          have s41 := (hb 6 41 rfl).trans (hF.1 6 _ rfl (hmet.get rfl))
          have r41 := getD_r s41
          clear hb ho hmet
          rw [if_pos (by rfl)]
          go_simp
          rw [IntWalk.i64_in (d0 * 256) (by omega)]
          exact hK.out (.int .i64 (d0 * 256)) w' ⟨fbQ_next hF.1 7 (by intro q hq; cases hq; rfl), hF.2⟩
        · intro L U w' a hF hLi hmet hb ho K hK
          have U1 := hF.2.1
          have s0 : a.tmps.getD 0 undef = .slice (some ⟨b, o, none⟩) len cap := (ho 0 rfl).trans rfl
          have r0 := getD_r s0
          clear hb ho hmet
          rw [if_pos (by rfl)]
          go_simp
          exact hK.out (.slice (some ⟨b, o, none⟩) len cap) w' ⟨fbQ_next hF.1 8 (by intro q hq; cases hq; rfl), hF.2⟩
        · intro L U w' a hF hLi hmet hb ho K hK
          have U1 := hF.2.1
          have s5 : a.tmps.getD 5 undef = .int .i64 m := (ho 5 rfl).trans rfl
          have r5 := getD_r s5
          clear hb ho hmet
          rw [if_pos (by rfl)]
          go_simp
          exact hK.out (.int .i64 m) w' ⟨fbQ_next hF.1 9 (by intro q hq; cases hq; rfl), hF.2⟩
        · intro L U w' a hF hLi hmet hb ho K hK
          have U1 := hF.2.1
          have s44 := (hb 9 44 rfl).trans (hF.1 9 _ rfl (hmet.get rfl))
          have r44 := getD_r s44
          clear hb ho hmet
          rw [if_pos (by rfl)]
          go_simp
          exact hK.out (.int .i64 m1) w' ⟨fbQ_next hF.1 10 (by intro q hq; cases hq; rfl), hF.2⟩
        · intro L U w' a hF hLi hmet hb ho K hK
          have U1 := hF.2.1
          have s43 := (hb 8 43 rfl).trans (hF.1 8 _ rfl (hmet.get rfl))
          have r43 := getD_r s43
          have s45 := (hb 10 45 rfl).trans (hF.1 10 _ rfl (hmet.get rfl))
          have r45 := getD_r s45
          clear hb ho hmet
          rw [if_pos (by rfl)]
          go_simp
          exact hK.out (.pointer (some ⟨b, o + m1, none⟩)) w' ⟨fbQ_next hF.1 11 (by intro q hq; cases hq; rfl), hF.2⟩
        · intro L U w' a hF hLi hmet hb ho K hK
          have U1 := hF.2.1
          have s46 := (hb 11 46 rfl).trans (hF.1 11 _ rfl (hmet.get rfl))
          have r46 := getD_r s46
          have e_ := (World.cell?_of_block (U1.block b (by omega))).trans c1
          clear hb ho hmet
          rw [if_pos (by rfl)]
          go_simp
          exact hK.out (.int .u8 d1) w' ⟨fbQ_next hF.1 12 (by intro q hq; cases hq; rfl), hF.2⟩
        · intro L U w' a hF hLi hmet hb ho K hK
          have U1 := hF.2.1
          have s47 := (hb 12 47 rfl).trans (hF.1 12 _ rfl (hmet.get rfl))
          have r47 := getD_r s47
          clear hb ho hmet
          rw [if_pos (by rfl)]
          go_simp
          rw [IntWalk.i64_in d1 (by omega)]
          exact hK.out (.int .i64 d1) w' ⟨fbQ_next hF.1 13 (by intro q hq; cases hq; rfl), hF.2⟩
        · intro L U w' a hF hLi hmet hb ho K hK
          have U1 := hF.2.1
          have s42 := (hb 7 42 rfl).trans (hF.1 7 _ rfl (hmet.get rfl))
          have r42 := getD_r s42
          have s48 := (hb 13 48 rfl).trans (hF.1 13 _ rfl (hmet.get rfl))
          have r48 := getD_r s48
          clear hb ho hmet
          rw [if_pos (by rfl)]
          go_simp
          rw [IntWalk.i64_in (d0 * 256 + d1) (by omega)]
          exact hK.out (.int .i64 (d0 * 256 + d1)) w' ⟨fbQ_next hF.1 14 (by intro q hq; cases hq; rfl), hF.2⟩
        · intro L U w' a hF hLi hmet hb ho K hK
          have U1 := hF.2.1
          have s49 := (hb 14 49 rfl).trans (hF.1 14 _ rfl (hmet.get rfl))
          have r49 := getD_r s49
          clear hb ho hmet
          rw [if_pos (by rfl)]
          go_simp
          rw [IntWalk.i64_in ((d0 * 256 + d1) * 256) (by omega)]
          exact hK.out (.int .i64 ((d0 * 256 + d1) * 256)) w' ⟨fbQ_next hF.1 15 (by intro q hq; cases hq; rfl), hF.2⟩
        · intro L U w' a hF hLi hmet hb ho K hK
          have U1 := hF.2.1
          have s0 : a.tmps.getD 0 undef = .slice (some ⟨b, o, none⟩) len cap := (ho 0 rfl).trans rfl
          have r0 := getD_r s0
          clear hb ho hmet
          rw [if_pos (by rfl)]
          go_simp
          exact hK.out (.slice (some ⟨b, o, none⟩) len cap) w' ⟨fbQ_next hF.1 16 (by intro q hq; cases hq; rfl), hF.2⟩
        · intro L U w' a hF hLi hmet hb ho K hK
          have U1 := hF.2.1
          have s5 : a.tmps.getD 5 undef = .int .i64 m := (ho 5 rfl).trans rfl
          have r5 := getD_r s5
          clear hb ho hmet
          rw [if_pos (by rfl)]
          go_simp
          exact hK.out (.int .i64 m) w' ⟨fbQ_next hF.1 17 (by intro q hq; cases hq; rfl), hF.2⟩
        · intro L U w' a hF hLi hmet hb ho K hK
          have U1 := hF.2.1
          have s52 := (hb 17 52 rfl).trans (hF.1 17 _ rfl (hmet.get rfl))
          have r52 := getD_r s52
          clear hb ho hmet
          rw [if_pos (by rfl)]
          go_simp
          exact hK.out (.int .i64 m2) w' ⟨fbQ_next hF.1 18 (by intro q hq; cases hq; rfl), hF.2⟩
        · intro L U w' a hF hLi hmet hb ho K hK
          have U1 := hF.2.1
          have s51 := (hb 16 51 rfl).trans (hF.1 16 _ rfl (hmet.get rfl))
          have r51 := getD_r s51
          have s53 := (hb 18 53 rfl).trans (hF.1 18 _ rfl (hmet.get rfl))
          have r53 := getD_r s53
          clear hb ho hmet
          rw [if_pos (by rfl)]
          go_simp
          exact hK.out (.pointer (some ⟨b, o + m2, none⟩)) w' ⟨fbQ_next hF.1 19 (by intro q hq; cases hq; rfl), hF.2⟩
        · intro L U w' a hF hLi hmet hb ho K hK
          have U1 := hF.2.1
          have s54 := (hb 19 54 rfl).trans (hF.1 19 _ rfl (hmet.get rfl))
          have r54 := getD_r s54
          have e_ := (World.cell?_of_block (U1.block b (by omega))).trans c2
          clear hb ho hmet
          rw [if_pos (by rfl)]
          go_simp
          exact hK.out (.int .u8 d2) w' ⟨fbQ_next hF.1 20 (by intro q hq; cases hq; rfl), hF.2⟩
        · intro L U w' a hF hLi hmet hb ho K hK
          have U1 := hF.2.1
          have s55 := (hb 20 55 rfl).trans (hF.1 20 _ rfl (hmet.get rfl))
          have r55 := getD_r s55
          clear hb ho hmet
          rw [if_pos (by rfl)]
          go_simp
          rw [IntWalk.i64_in d2 (by omega)]
          exact hK.out (.int .i64 d2) w' ⟨fbQ_next hF.1 21 (by intro q hq; cases hq; rfl), hF.2⟩
        · intro L U w' a hF hLi hmet hb ho K hK
          have U1 := hF.2.1
          have s50 := (hb 15 50 rfl).trans (hF.1 15 _ rfl (hmet.get rfl))
          have r50 := getD_r s50
          have s56 := (hb 21 56 rfl).trans (hF.1 21 _ rfl (hmet.get rfl))
          have r56 := getD_r s56
          clear hb ho hmet
          rw [if_pos (by rfl)]
          go_simp
          rw [IntWalk.i64_in ((d0 * 256 + d1) * 256 + d2) (by omega)]
          exact hK.out (.int .i64 ((d0 * 256 + d1) * 256 + d2)) w' ⟨fbQ_next hF.1 22 (by intro q hq; cases hq; rfl), hF.2⟩
        · intro L U w' a hF hLi hmet hb ho K hK
          have U1 := hF.2.1
          have s57 := (hb 22 57 rfl).trans (hF.1 22 _ rfl (hmet.get rfl))
          have r57 := getD_r s57
          clear hb ho hmet
          rw [if_pos (by rfl)]
          go_simp
          rw [IntWalk.i64_in (((d0 * 256 + d1) * 256 + d2) * 256) (by omega)]
          exact hK.out (.int .i64 (((d0 * 256 + d1) * 256 + d2) * 256)) w' ⟨fbQ_next hF.1 23 (by intro q hq; cases hq; rfl), hF.2⟩
        · intro L U w' a hF hLi hmet hb ho K hK
          have U1 := hF.2.1
          have s0 : a.tmps.getD 0 undef = .slice (some ⟨b, o, none⟩) len cap := (ho 0 rfl).trans rfl
          have r0 := getD_r s0
          clear hb ho hmet
          rw [if_pos (by rfl)]
          go_simp
          exact hK.out (.slice (some ⟨b, o, none⟩) len cap) w' ⟨fbQ_next hF.1 24 (by intro q hq; cases hq; rfl), hF.2⟩
        · intro L U w' a hF hLi hmet hb ho K hK
          have U1 := hF.2.1
          have s5 : a.tmps.getD 5 undef = .int .i64 m := (ho 5 rfl).trans rfl
          have r5 := getD_r s5
          clear hb ho hmet
          rw [if_pos (by rfl)]
          go_simp
          exact hK.out (.int .i64 m) w' ⟨fbQ_next hF.1 25 (by intro q hq; cases hq; rfl), hF.2⟩
        · intro L U w' a hF hLi hmet hb ho K hK
          have U1 := hF.2.1
          have s60 := (hb 25 60 rfl).trans (hF.1 25 _ rfl (hmet.get rfl))
          have r60 := getD_r s60
          clear hb ho hmet
          rw [if_pos (by rfl)]
          go_simp
          exact hK.out (.int .i64 m3) w' ⟨fbQ_next hF.1 26 (by intro q hq; cases hq; rfl), hF.2⟩
        · intro L U w' a hF hLi hmet hb ho K hK
          have U1 := hF.2.1
          have s59 := (hb 24 59 rfl).trans (hF.1 24 _ rfl (hmet.get rfl))
          have r59 := getD_r s59
          have s61 := (hb 26 61 rfl).trans (hF.1 26 _ rfl (hmet.get rfl))
          have r61 := getD_r s61
          clear hb ho hmet
          rw [if_pos (by rfl)]
          go_simp
          exact hK.out (.pointer (some ⟨b, o + m3, none⟩)) w' ⟨fbQ_next hF.1 27 (by intro q hq; cases hq; rfl), hF.2⟩
        · intro L U w' a hF hLi hmet hb ho K hK
          have U1 := hF.2.1
          have s62 := (hb 27 62 rfl).trans (hF.1 27 _ rfl (hmet.get rfl))
          have r62 := getD_r s62
          have e_ := (World.cell?_of_block (U1.block b (by omega))).trans c3
          clear hb ho hmet
          rw [if_pos (by rfl)]
          go_simp
          exact hK.out (.int .u8 d3) w' ⟨fbQ_next hF.1 28 (by intro q hq; cases hq; rfl), hF.2⟩
        · intro L U w' a hF hLi hmet hb ho K hK
          have U1 := hF.2.1
          have s63 := (hb 28 63 rfl).trans (hF.1 28 _ rfl (hmet.get rfl))
          have r63 := getD_r s63
          clear hb ho hmet
          rw [if_pos (by rfl)]
          go_simp
          rw [IntWalk.i64_in d3 (by omega)]
          exact hK.out (.int .i64 d3) w' ⟨fbQ_next hF.1 29 (by intro q hq; cases hq; rfl), hF.2⟩
        · intro L U w' a hF hLi hmet hb ho K hK
          have U1 := hF.2.1
          have s58 := (hb 23 58 rfl).trans (hF.1 23 _ rfl (hmet.get rfl))
          have r58 := getD_r s58
          have s64 := (hb 29 64 rfl).trans (hF.1 29 _ rfl (hmet.get rfl))
          have r64 := getD_r s64
          clear hb ho hmet
          rw [if_pos (by rfl)]
          go_simp
          rw [IntWalk.i64_in (((d0 * 256 + d1) * 256 + d2) * 256 + d3) (by omega)]
          exact hK.out (.int .i64 (((d0 * 256 + d1) * 256 + d2) * 256 + d3)) w' ⟨fbQ_next hF.1 30 (by intro q hq; cases hq; rfl), hF.2⟩
        · intro L U w' a hF hLi hmet hb ho K hK
          have U1 := hF.2.1
          have s65 := (hb 30 65 rfl).trans (hF.1 30 _ rfl (hmet.get rfl))
          have r65 := getD_r s65
          have n32 : L 32 = false := by cases h32 : L 32 with | false => rfl | true => exact absurd ((hF.2.2.2.2.1 h32).1.symm.trans hLi) (by decide)
          have hA1 := hF.2
          have hQ1 := hF.1
          clear hb ho hmet hF
          rw [if_pos (by rfl)]
          go_simp
          exact hK.out (.slice (some ⟨w'.heap.size, 0, none⟩) 1 1) _ ⟨fbQ_next hQ1 31 (by intro q hq; cases hq), U1.alloc (by have := (hA1.2.1 n32).size; omega) _, fun _ => (hA1.2.1 n32).alloc (hA1.2.1 n32).size _, fun _ _ => ⟨_, rfl, by have hh := heap_new w' (.cells #[.int .i64 (((d0 * 256 + d1) * 256 + d2) * 256 + d3)] 3); simp only [World.cell?, hh]; simp⟩, fun h => absurd (n32.symm.trans h) (by decide), fun h => absurd (n32.symm.trans (hA1.2.2.2.2.1 h)) (by decide), hA1.2.2.2.2.2.1, fun h => absurd (n32.symm.trans h) (by decide)⟩
        · intro L U w' a hF hLi hmet hb ho K hK
          have U1 := hF.2.1
          have s36 := (hb 1 36 rfl).trans (hF.1 1 _ rfl (hmet.get rfl))
          have r36 := getD_r s36
          obtain ⟨h, eh, ch⟩ := hF.2.2.2.1 (hmet.get rfl) hLi
          have s66 := (hb 31 66 rfl).trans eh
          have l31 : L 31 = true := hmet.get rfl
          have l1 : L 1 = true := hmet.get rfl
          have hB1 := hF.2.2.1 hLi
          have ho1 := own_below hown hB1
          have hA1 := hF.2
          have hQ1 := hF.1
          clear hb ho hmet hF
          rw [if_pos (by rfl)]
          refine wp_append_lies w' (.tmp 36) (.tmp 66) 22 rfl (w.heap.size + 2) 3 i0 (.int .i64 0) 1 8 Tryz.underlying22 hi hz0 hz1 hz2 rfl (by decide) v t _ s36 ho1 ⟨h, 0, none⟩ 1 1 [.int .i64 (((d0 * 256 + d1) * 256 + d2) * 256 + d3)] s66 rfl ?_ (by simp [Value.oneCell']) (by decide) (by unfold maxLen; omega) (by omega) (Nat.le_trans hsz hB1.size) _ rfl ?_
          · intro j u hj
            match j, hj with
            | 0, hj => cases hj; exact ch
          · intro g' cap' w2 hown' hgrow hat hlt2
            have hbel : Below (w.heap.size + 2) wr w2 := (hB1.mono hsz).grown hgrow (Nat.le_trans hsz hB1.size) (by
              intro i hi
              rcases ho1.2 with ⟨rfl, _⟩ | ⟨g, cap, cur, rfl, hge, _⟩
              · simp [Value.ownBlock] at hi
              · simp [Value.ownBlock] at hi; omega)
            exact hK.out _ w2 ⟨fbQ_next hQ1 32 (by intro q hq; cases hq), hbel.mono (by omega), fun h => (by cases h), fun _ h => (by cases h), fun _ => ⟨l31, l1⟩, fun h => rfl, hA1.2.2.2.2.2.1, fun _ => ⟨hown', fun _ => (hbel.block (w.heap.size + 1) (by omega)).trans hB, fun h => absurd (hLi.symm.trans (hA1.2.2.2.2.1 h)) (by decide)⟩⟩
        · intro L U w' a hF hLi hmet hb ho K hK
          have U1 := hF.2.1
          have s4 : a.tmps.getD 4 undef = .pointer (some ⟨w.heap.size + 1, 0, none⟩) := (ho 4 rfl).trans rfl
          have r4 := getD_r s4
          clear hb ho hmet
          rw [if_pos (by rfl)]
          go_simp
          exact hK.out (.pointer (some ⟨w.heap.size + 1, 1, none⟩)) w' ⟨fbQ_next hF.1 33 (by intro q hq; cases hq), hF.2.1, hF.2.2.1, hF.2.2.2.1, hF.2.2.2.2.1, hF.2.2.2.2.2.1, fun _ => rfl, hF.2.2.2.2.2.2.2⟩
        · intro L U w' a hF hLi hmet hb ho K hK
          have U1 := hF.2.1
          have s68 := (hb 33 68 rfl).trans (hF.2.2.2.2.2.2.1 (hmet.get rfl))
          have r68 := getD_r s68
          have l32 : L 32 = true := hmet.get rfl
          obtain ⟨q1, q2, q3⟩ := hF.2.2.2.2.2.2.2 l32
          obtain ⟨g2, cap2, hv2, _, _⟩ := q1.form (by omega)
          have s67 := (hb 32 67 rfl).trans hv2
          have r67 := getD_r s67
          have Hv2 := Lib.hid hv2
          have hBx := q2 hLi
          obtain ⟨k1, k2, k3, k4, k5⟩ := box2 hBx
          have hA1 := hF.2
          have hQ1 := hF.1
          clear hb ho hmet hF hv2 q2 q3
          rw [if_pos (by rfl)]
          go_simp
          exact hK.out undef _ ⟨fbQ_next hQ1 34 (by intro q hq; cases hq), (U1.setCell (Nat.le_refl _) _), fun h => absurd (h.symm.trans l32) (by decide), fun _ h => absurd (h.symm.trans l32) (by decide), hA1.2.2.2.1, fun _ => l32, hA1.2.2.2.2.2.1, fun _ => ⟨ownsRow_setCell_below q1 (Nat.lt_succ_self (w.heap.size + 1)) _, fun h => (by cases h), fun _ => (show _ = some (Obj.cells #[.bool sg, U 32] 24 (0, 0)) from by rw [Hv2.out]; exact box_put hBx _)⟩⟩
      case fin =>
        intro L U wx hF hall
        have l32 := hall 32 (by decide); have l34 := hall 34 (by decide)
        obtain ⟨q1, _, q3⟩ := hF.2.2.2.2.2.2.2 l32
        have hBx := q3 l34
        have U1 := hF.2.1
        obtain ⟨u, hu⟩ : ∃ u, U 32 = u := ⟨_, rfl⟩
        rw [hu] at q1 hBx
        clear hF hall hu q3 l32 l34
        simp only [fillA, Act.put, List.setIfInBounds_toArray, List.set_cons_zero, List.set_cons_succ]
        go_wp2
        go_roundw
        case rel =>
          refine ⟨t + 1, _, u, hlt, rfl, by have := Hiv.out; omega, ?_, hBx, (U1.block _ (by omega)).trans hR, hA.keep (U1.block b (by omega)), hbb.trans (U1.mono (by omega)), Nat.le_trans hsz U1.size⟩
          rw [tparts_step, List.map_append, HQ.out]; exact q1
        case measure => simp [intOf]; omega
    · obtain rfl : t = n := by omega
      obtain rfl : iv = -3 := by omega
      obtain ⟨av, cv, rfl, hsl⟩ := Sl.of_owns hown
      rw [tparts_all] at hsl
      replace hB : BoxI wr (w.heap.size + 1) sg av t cv := hB
      have bx0 := hB.cells.1; have bx1 := hB.cells.2; have hq1 := hB.lt; have hq2 := hR.lt
      clear hiv hown hA
      go_wp2_with fail
      refine (Hck.out _ _ _ _ hsl).mono ?_
      rintro e w4 ⟨rfl, b4⟩
      have hB4 := hB.below b4; have hR4 := hR.below b4; have hs4 := hsl.below b4; have hbb4 := hbb.trans (b4.mono hbb.size)
      clear hB hR hsl hbb b4 bx0 bx1 hq1 hq2
      have bx0 := hB4.cells.1; have bx1 := hB4.cells.2; have hq1 := hB4.lt; have hq2 := hR4.lt
      have r0 := hR4.cells.1; have r1 := hR4.cells.2; have f1 := hR4.froz.1; have f2 := hR4.froz.2
      cases ok
      · go_wp2
        refine bodyPost_ret (v := .tuple #[.agg #[.bool false, .slice none 0 0], .int .i64 12]) (by simp [results, Tryz.results35, go_sem, r0, r1]) rfl ?_
        exact ⟨rfl, (hbb4.setCell (Nat.le_refl _) _).setCell (Nat.le_refl _) _⟩
      · go_wp2
        refine bodyPost_ret (v := .tuple #[.agg #[.bool sg, .slice av t cv], .int .i64 0]) (by simp [results, Tryz.results35, go_sem, r0, r1]) rfl ?_
        exact ⟨_, _, _, by rw [Hsg.out], hs4.store2 r0 r1 _ _, (hbb4.setCell (Nat.le_refl _) _).setCell (Nat.le_refl _) _⟩
end Go.Proofs.YtfjnplhhgdfepaaGreatDoor

/- The reference's sum of two numbers' parts. -/
namespace Go.Proofs.YtfjnplhhgdfepaaGreatDoor
open Go.RowKit

def RAdd (xs ys : List Int) (k : Nat) (c : Int) (zs : List Int) : Prop :=
  zs.length = k ∧ Dig zs ∧ 0 ≤ c ∧ c ≤ 1 ∧ val zs + 1000000000 ^ k * c = val (xs.take k) + val (ys.take k)
theorem RAdd.start (xs ys : List Int) : RAdd xs ys 0 0 [] := ⟨rfl, (fun _ h => by cases h), by omega, by omega, by simp [val]⟩
theorem RAdd.step {xs ys : List Int} {k : Nat} {c : Int} {zs : List Int} (h : RAdd xs ys k c zs) (hx : Dig xs) (hy : Dig ys) (p : Int) (hp : p = c + xs.getD k 0 + ys.getD k 0) :
    RAdd xs ys (k + 1) (p / 1000000000) (zs ++ [p % 1000000000]) := by
  obtain ⟨h1, h2, h4, h5, h6⟩ := h
  have hxk := hx.getD k
  have hyk := hy.getD k
  refine ⟨by simp [h1], ?_, by omega, by omega, ?_⟩
  · intro y hy'
    rcases List.mem_append.1 hy' with h | h
    · exact h2 y h
    · rw [List.mem_singleton.1 h]; omega
  · rw [val_append, h1, val_take_step, val_take_step, Int.pow_succ]
    have e : p % 1000000000 + 1000000000 * (p / 1000000000) = p := by omega
    simp only [val]
    grind
theorem RAdd.finish {xs ys : List Int} {k : Nat} {c : Int} {zs : List Int} (h : RAdd xs ys k c zs) (hx : xs.length ≤ k) (hy : ys.length ≤ k) :
    Dig (zs ++ [c]) ∧ val (zs ++ [c]) = val xs + val ys := by
  obtain ⟨h1, h2, h4, h5, h6⟩ := h
  refine ⟨?_, ?_⟩
  · intro y hy'
    rcases List.mem_append.1 hy' with h | h
    · exact h2 y h
    · rw [List.mem_singleton.1 h]; omega
  · rw [List.take_of_length_le hx, List.take_of_length_le hy] at h6
    rw [val_append, h1]
    simp only [val]
    grind
set_option maxRecDepth 100000 in
set_option maxHeartbeats 4000000 in
theorem refSum_lt (ax : Option Addr) (la ca : Nat) (xs : List Int) (ay : Option Addr) (lb cb : Nat) (ys : List Int) (w : World) (hx : Sl w ax la ca xs) (hy : Sl w ay lb cb ys) (dx : Dig xs) (dy : Dig ys) (hm : la ≤ 100000) (hn : lb ≤ 100000) (hab : (la : Int) < (lb : Int)) :
    Calls Tryz.prog 90 #[.slice ax la ca, .slice ay lb cb] w (RetS (parts (val xs + val ys).toNat) w) := by
  have hlx := Lib.hid hx.length
  have hly := Lib.hid hy.length
  obtain ⟨i0, hi, hz0, hz1, hz2⟩ := info_parts Tryz.info3
  go_enter Tryz.func90, Tryz.ntmps90
  go_wp2
  go_loopw [5, 6, 7] (fun v c i wr => ∃ (k : Nat) (cv : Int) (zs : List Int), k ≤ lb ∧ i = .int .i64 k ∧ c = .int .i64 cv ∧ RAdd xs ys k cv zs ∧ wr.ownsRow w.heap.size 3 1 v zs.length (zs.map (Value.int .i64)) ∧ Below w.heap.size w wr) (fun _ _ i _ => lb - (intOf i).toNat)
  case atStart => exact ⟨0, 0, [], Nat.zero_le _, rfl, rfl, RAdd.start xs ys, ⟨rfl, .inl ⟨rfl, rfl⟩⟩, Below.refl _ _⟩
  case round =>
    obtain ⟨k, cv, zs, hk, rfl, rfl, hinv, hown, hbel⟩ := hrel
    have hsx := hx.below hbel
    have hsy := hy.below hbel
    have hc0 := hinv.2.2.1
    have hc1 := hinv.2.2.2.1
    have hzk : zs.length ≤ 100000 := by have := hinv.1; omega
    have hbz := hbel.size
    have HI := Lib.hid hinv
    clear hinv
    by_cases hlt : k < lb
    · obtain ⟨by', oy, rfl, hcy⟩ := hsy.at (by omega)
      have hcyk := hcy k (by omega)
      have hyd := dy.getD k
      generalize hyk : ys.getD k 0 = y at hcyk hyd
      have Hyk := Lib.hid hyk
      clear hcy hyk
      by_cases hks : k < la
      · obtain ⟨bx, ox, rfl, hcx⟩ := hsx.at (by omega)
        have hcxk := hcx k (by omega)
        have hxd := dx.getD k
        generalize hxk : xs.getD k 0 = x at hcxk hxd
        have Hxk := Lib.hid hxk
        clear hcx hxk
        go_wp2_with (at_builtin; refine wpList_append_own _ rfl _ _ 22 rfl w.heap.size 3 i0 (.int .i64 0) 1 8 Tryz.underlying22 hi hz0 hz1 hz2 rfl (by decide) _ _ _ rfl (hown.alloc _) ⟨wr.heap.size, 0, none⟩ 1 1 [.int .i64 ((cv + x + y) % 1000000000)] rfl ?qab1 ?qab2 ?qab3 ?qab4 ?qab5 ?qab6 ?_)
        case qab1 => rfl
        case qab2 => exact cell_one_new _ _ _
        case qab3 => exact ints_oneCell .i64 [(cv + x + y) % 1000000000]
        case qab4 => unfold maxLen; omega
        case qab5 => omega
        case qab6 => simp; omega
        intro v2 w1 hown2 hgrow _
        go_wp2
        go_roundw
        case rel =>
          refine ⟨k + 1, _, zs ++ [(cv + x + y) % 1000000000], hlt, by go_num, rfl, HI.out.step dx dy (cv + x + y) (by rw [Hxk.out, Hyk.out]), ?_, (hbel.alloc (by omega) _).grown hgrow (by simp; omega) ?_⟩
          · rw [List.length_append, List.map_append]; exact hown2
          · intro k' hk'
            rcases hown.2 with ⟨rfl, _⟩ | ⟨g, cap, cur, rfl, hge, _⟩
            · simp [Value.ownBlock] at hk'
            · simp [Value.ownBlock] at hk'; omega
        case measure => simp [intOf]; omega
      · have Hxk := Lib.hid (show xs.getD k 0 = 0 from getD_of_ge xs k (by rw [hlx.out]; omega))
        go_wp2_with (at_builtin; refine wpList_append_own _ rfl _ _ 22 rfl w.heap.size 3 i0 (.int .i64 0) 1 8 Tryz.underlying22 hi hz0 hz1 hz2 rfl (by decide) _ _ _ rfl (hown.alloc _) ⟨wr.heap.size, 0, none⟩ 1 1 [.int .i64 ((cv + y) % 1000000000)] rfl ?qnb1 ?qnb2 ?qnb3 ?qnb4 ?qnb5 ?qnb6 ?_)
        case qnb1 => rfl
        case qnb2 => exact cell_one_new _ _ _
        case qnb3 => exact ints_oneCell .i64 [(cv + y) % 1000000000]
        case qnb4 => unfold maxLen; omega
        case qnb5 => omega
        case qnb6 => simp; omega
        intro v2 w1 hown2 hgrow _
        go_wp2
        go_roundw
        case rel =>
          refine ⟨k + 1, _, zs ++ [(cv + y) % 1000000000], hlt, by go_num, rfl, HI.out.step dx dy (cv + y) (by rw [Hxk.out, Hyk.out]; omega), ?_, (hbel.alloc (by omega) _).grown hgrow (by simp; omega) ?_⟩
          · rw [List.length_append, List.map_append]; exact hown2
          · intro k' hk'
            rcases hown.2 with ⟨rfl, _⟩ | ⟨g, cap, cur, rfl, hge, _⟩
            · simp [Value.ownBlock] at hk'
            · simp [Value.ownBlock] at hk'; omega
        case measure => simp [intOf]; omega
    · obtain rfl : k = lb := by omega
      go_wp2_with (at_builtin; refine wpList_append_own _ rfl _ _ 22 rfl w.heap.size 3 i0 (.int .i64 0) 1 8 Tryz.underlying22 hi hz0 hz1 hz2 rfl (by decide) _ _ _ rfl (hown.alloc _) ⟨wr.heap.size, 0, none⟩ 1 1 [.int .i64 (cv)] rfl ?qz1 ?qz2 ?qz3 ?qz4 ?qz5 ?qz6 ?_)
      case qz1 => rfl
      case qz2 => exact cell_one_new _ _ _
      case qz3 => exact ints_oneCell .i64 [cv]
      case qz4 => unfold maxLen; omega
      case qz5 => omega
      case qz6 => simp; omega
      intro v2 w1 hown2 hgrow _
      have hfin := HI.out.finish (by rw [hlx.out]; omega) (by rw [hly.out]; omega)
      have hbel2 : Below w.heap.size w w1 := (hbel.alloc (by omega) _).grown hgrow (by simp; omega) (by
        intro k' hk'
        rcases hown.2 with ⟨rfl, _⟩ | ⟨g, cap, cur, rfl, hge, _⟩
        · simp [Value.ownBlock] at hk'
        · simp [Value.ownBlock] at hk'; omega)
      rw [show (List.map (Value.int .i64) zs ++ [.int .i64 cv]) = (zs ++ [cv]).map (Value.int .i64) by simp] at hown2
      obtain ⟨a2, c2, hv, hsl⟩ := Sl.of_owns (n := zs.length + 1) hown2
      subst hv
      have HF := Lib.hid hfin
      clear hfin hown2 hgrow hown
      go_wp2_with fail
      refine (shorn_any _ _ _ _ _ hsl (by omega)).mono ?_
      rintro e w2 ⟨a3, l3, c3, rfl, hs3, hb3⟩
      go_wp2
      go_ret
      refine ⟨a3, l3, c3, rfl, ?_, hbel2.trans (hb3.mono hbel2.size)⟩
      rw [trim_eq HF.out.1, HF.out.2] at hs3
      exact hs3
set_option maxRecDepth 100000 in
set_option maxHeartbeats 4000000 in
theorem refSum_ge (ax : Option Addr) (la ca : Nat) (xs : List Int) (ay : Option Addr) (lb cb : Nat) (ys : List Int) (w : World) (hx : Sl w ax la ca xs) (hy : Sl w ay lb cb ys) (dx : Dig xs) (dy : Dig ys) (hm : la ≤ 100000) (hn : lb ≤ 100000) (hab : ¬ ((la : Int) < (lb : Int))) :
    Calls Tryz.prog 90 #[.slice ax la ca, .slice ay lb cb] w (RetS (parts (val xs + val ys).toNat) w) := by
  have hlx := Lib.hid hx.length
  have hly := Lib.hid hy.length
  obtain ⟨i0, hi, hz0, hz1, hz2⟩ := info_parts Tryz.info3
  go_enter Tryz.func90, Tryz.ntmps90
  go_wp2
  go_loopw [5, 6, 7] (fun v c i wr => ∃ (k : Nat) (cv : Int) (zs : List Int), k ≤ la ∧ i = .int .i64 k ∧ c = .int .i64 cv ∧ RAdd xs ys k cv zs ∧ wr.ownsRow w.heap.size 3 1 v zs.length (zs.map (Value.int .i64)) ∧ Below w.heap.size w wr) (fun _ _ i _ => la - (intOf i).toNat)
  case atStart => exact ⟨0, 0, [], Nat.zero_le _, rfl, rfl, RAdd.start xs ys, ⟨rfl, .inl ⟨rfl, rfl⟩⟩, Below.refl _ _⟩
  case round =>
    obtain ⟨k, cv, zs, hk, rfl, rfl, hinv, hown, hbel⟩ := hrel
    have hsx := hx.below hbel
    have hsy := hy.below hbel
    have hc0 := hinv.2.2.1
    have hc1 := hinv.2.2.2.1
    have hzk : zs.length ≤ 100000 := by have := hinv.1; omega
    have hbz := hbel.size
    have HI := Lib.hid hinv
    clear hinv
    by_cases hlt : k < la
    · obtain ⟨bx, ox, rfl, hcx⟩ := hsx.at (by omega)
      have hcxk := hcx k (by omega)
      have hxd := dx.getD k
      generalize hxk : xs.getD k 0 = x at hcxk hxd
      have Hxk := Lib.hid hxk
      clear hcx hxk
      by_cases hks : k < lb
      · obtain ⟨by', oy, rfl, hcy⟩ := hsy.at (by omega)
        have hcyk := hcy k (by omega)
        have hyd := dy.getD k
        generalize hyk : ys.getD k 0 = y at hcyk hyd
        have Hyk := Lib.hid hyk
        clear hcy hyk
        go_wp2_with (at_builtin; refine wpList_append_own _ rfl _ _ 22 rfl w.heap.size 3 i0 (.int .i64 0) 1 8 Tryz.underlying22 hi hz0 hz1 hz2 rfl (by decide) _ _ _ rfl (hown.alloc _) ⟨wr.heap.size, 0, none⟩ 1 1 [.int .i64 ((cv + x + y) % 1000000000)] rfl ?qab1 ?qab2 ?qab3 ?qab4 ?qab5 ?qab6 ?_)
        case qab1 => rfl
        case qab2 => exact cell_one_new _ _ _
        case qab3 => exact ints_oneCell .i64 [(cv + x + y) % 1000000000]
        case qab4 => unfold maxLen; omega
        case qab5 => omega
        case qab6 => simp; omega
        intro v2 w1 hown2 hgrow _
        go_wp2
        go_roundw
        case rel =>
          refine ⟨k + 1, _, zs ++ [(cv + x + y) % 1000000000], hlt, by go_num, rfl, HI.out.step dx dy (cv + x + y) (by rw [Hxk.out, Hyk.out]), ?_, (hbel.alloc (by omega) _).grown hgrow (by simp; omega) ?_⟩
          · rw [List.length_append, List.map_append]; exact hown2
          · intro k' hk'
            rcases hown.2 with ⟨rfl, _⟩ | ⟨g, cap, cur, rfl, hge, _⟩
            · simp [Value.ownBlock] at hk'
            · simp [Value.ownBlock] at hk'; omega
        case measure => simp [intOf]; omega
      · have Hyk := Lib.hid (show ys.getD k 0 = 0 from getD_of_ge ys k (by rw [hly.out]; omega))
        go_wp2_with (at_builtin; refine wpList_append_own _ rfl _ _ 22 rfl w.heap.size 3 i0 (.int .i64 0) 1 8 Tryz.underlying22 hi hz0 hz1 hz2 rfl (by decide) _ _ _ rfl (hown.alloc _) ⟨wr.heap.size, 0, none⟩ 1 1 [.int .i64 ((cv + x) % 1000000000)] rfl ?qan1 ?qan2 ?qan3 ?qan4 ?qan5 ?qan6 ?_)
        case qan1 => rfl
        case qan2 => exact cell_one_new _ _ _
        case qan3 => exact ints_oneCell .i64 [(cv + x) % 1000000000]
        case qan4 => unfold maxLen; omega
        case qan5 => omega
        case qan6 => simp; omega
        intro v2 w1 hown2 hgrow _
        go_wp2
        go_roundw
        case rel =>
          refine ⟨k + 1, _, zs ++ [(cv + x) % 1000000000], hlt, by go_num, rfl, HI.out.step dx dy (cv + x) (by rw [Hxk.out, Hyk.out]; omega), ?_, (hbel.alloc (by omega) _).grown hgrow (by simp; omega) ?_⟩
          · rw [List.length_append, List.map_append]; exact hown2
          · intro k' hk'
            rcases hown.2 with ⟨rfl, _⟩ | ⟨g, cap, cur, rfl, hge, _⟩
            · simp [Value.ownBlock] at hk'
            · simp [Value.ownBlock] at hk'; omega
        case measure => simp [intOf]; omega
    · obtain rfl : k = la := by omega
      go_wp2_with (at_builtin; refine wpList_append_own _ rfl _ _ 22 rfl w.heap.size 3 i0 (.int .i64 0) 1 8 Tryz.underlying22 hi hz0 hz1 hz2 rfl (by decide) _ _ _ rfl (hown.alloc _) ⟨wr.heap.size, 0, none⟩ 1 1 [.int .i64 (cv)] rfl ?qz1 ?qz2 ?qz3 ?qz4 ?qz5 ?qz6 ?_)
      case qz1 => rfl
      case qz2 => exact cell_one_new _ _ _
      case qz3 => exact ints_oneCell .i64 [cv]
      case qz4 => unfold maxLen; omega
      case qz5 => omega
      case qz6 => simp; omega
      intro v2 w1 hown2 hgrow _
      have hfin := HI.out.finish (by rw [hlx.out]; omega) (by rw [hly.out]; omega)
      have hbel2 : Below w.heap.size w w1 := (hbel.alloc (by omega) _).grown hgrow (by simp; omega) (by
        intro k' hk'
        rcases hown.2 with ⟨rfl, _⟩ | ⟨g, cap, cur, rfl, hge, _⟩
        · simp [Value.ownBlock] at hk'
        · simp [Value.ownBlock] at hk'; omega)
      rw [show (List.map (Value.int .i64) zs ++ [.int .i64 cv]) = (zs ++ [cv]).map (Value.int .i64) by simp] at hown2
      obtain ⟨a2, c2, hv, hsl⟩ := Sl.of_owns (n := zs.length + 1) hown2
      subst hv
      have HF := Lib.hid hfin
      clear hfin hown2 hgrow hown
      go_wp2_with fail
      refine (shorn_any _ _ _ _ _ hsl (by omega)).mono ?_
      rintro e w2 ⟨a3, l3, c3, rfl, hs3, hb3⟩
      go_wp2
      go_ret
      refine ⟨a3, l3, c3, rfl, ?_, hbel2.trans (hb3.mono hbel2.size)⟩
      rw [trim_eq HF.out.1, HF.out.2] at hs3
      exact hs3
theorem refSum_any (ax : Option Addr) (la ca : Nat) (xs : List Int) (ay : Option Addr) (lb cb : Nat) (ys : List Int) (w : World) (hx : Sl w ax la ca xs) (hy : Sl w ay lb cb ys) (dx : Dig xs) (dy : Dig ys) (hm : la ≤ 100000) (hn : lb ≤ 100000) :
    Calls Tryz.prog 90 #[.slice ax la ca, .slice ay lb cb] w (RetS (parts (val xs + val ys).toNat) w) := by
  by_cases h : (la : Int) < (lb : Int)
  · exact refSum_lt ax la ca xs ay lb cb ys w hx hy dx dy hm hn h
  · exact refSum_ge ax la ca xs ay lb cb ys w hx hy dx dy hm hn h
end Go.Proofs.YtfjnplhhgdfepaaGreatDoor

/- As region_kept (KeepAny), where it is known what the region's slots held. -/
namespace Go.Proofs.YtfjnplhhgdfepaaGreatDoor
open Go Go.RowKit

section
variable {P : Program} {ops : Array Oper} {Q : Exit → Act → World → Prop}

/-- As region_kept, where it is known what the slots held: F (which operations have come up, what each has yielded, the world) is kept by each of them, whatever the frame, if it holds what they have yielded. -/
theorem region_kept_at {id : Nat} {a : Act} {w : World} (n : Nat) (ds : List (Option Tmp)) (vs : (Nat → Value) → List Value) (F : (Nat → Bool) → (Nat → Value) → World → Prop) (hn : ops.size = n) (hds : ops.toList.map (·.dst) = ds) (hvs : ∀ U, vs U = (List.range n).map U) (hm : P.follows .mixedOrders = true)
    (hb : BackB ops = true) (hap : ApartD ds = true) (hsz : SizedD a.tmps.size ds = true)
    (start : F (fun _ => false) (fun j => (heldIn a ds).getD j undef) w.drew)
    (step : EachO (fun i o => ∀ (L : Nat → Bool) (U : Nat → Value) (w : World) (b : Act), F L U w → L i = false → Met L o.after.toList →
      (∀ (j : Nat) (t : Tmp), ds[j]? = some (some t) → b.tmps.getD t undef = U j) → (∀ t : Tmp, ds.contains (some t) = false → b.tmps.getD t undef = a.tmps.getD t undef) →
      ∀ K : Act → World → Prop, Shut (∀ v w', F (more L i) (upd U i v) w' → K (b.put o.dst v) w') →
        if Region.wanted o (yielded ops b.tmps) = true then Oper.wp P o b w K Q else K (b.put o.dst undef) w) 0 ops.toList)
    (fin : ∀ (L : Nat → Bool) (U : Nat → Value) (w : World), F L U w → (∀ i, i < n → L i = true) → Q .normal (fillA a ds (vs U)) w) :
    (Code.region id ops true).wp P Q a w := by
  subst hn; subst hds
  refine wp_region_any hm ?_
  refine keep_any (I := fun l b w => ∃ U : Nat → Value, b = fillA a (ops.toList.map (·.dst)) ((List.range ops.size).map U) ∧ F (fun i => l.getD i false) U w) hb ?_ ?_ _ _ _ _ (by simp) ?_ ?_
  · rintro i l b w hz ⟨U, rfl, hF⟩ hi
    obtain ⟨h1, o, ho, hmet⟩ := mem_ready.1 hi
    have h2 : i < l.size := by
      rcases Nat.lt_or_ge i l.size with h' | h'
      · exact h'
      · simp [Array.getElem?_eq_none h'] at h1
    have h3 : l.getD i false = false := by
      simp only [Array.getD, h2, dif_pos] at h1 ⊢; exact h1
    have hst := step.get (i := i) (o := o) (by simpa using ho)
    rw [Nat.zero_add] at hst
    refine wpOp_step ho fun K' hK => hst _ U w _ hF h3 (Met.of fun e he hbd => hmet e (by simpa using he) hbd) (fun j t hj => ?_) (fun t ht => fillA_other _ _ a t ht) K' ?_
    · have hlt : t < a.tmps.size := by
        have := List.all_eq_true.1 hsz (some t) (List.mem_of_getElem? hj)
        simpa using this
      have hj' : j < ops.size := by
        have h := (List.getElem?_eq_some_iff.1 hj).1
        simpa using h
      exact fillA_get _ _ a j t (U j) hap hj (by simp [hj']) hlt
    intro v w' hF'
    refine hK _ _ ⟨upd U i v, ?_, ?_⟩
    · rw [← map_upd]
      exact fillA_set _ _ a i o.dst v hap (by simp [ho]) (by simp; omega)
    · have hL : (fun j => (l.setIfInBounds i true).getD j false) = more (fun j => l.getD j false) i := by
        funext j
        unfold more
        by_cases hj : j = i
        · subst hj; simp [h2]
        · rw [_root_.Go.getD_set_ne false (Ne.symm hj), if_neg hj]
      rw [hL]; exact hF'
  · rintro l b w hz ⟨U, rfl, hF⟩ hall
    have := fin _ U w hF hall
    rwa [hvs] at this
  · simp
  · refine ⟨fun j => (heldIn a (ops.toList.map (·.dst))).getD j undef, ?_, ?_⟩
    · have e : (List.range ops.size).map (fun j => (heldIn a (ops.toList.map (·.dst))).getD j undef) = heldIn a (ops.toList.map (·.dst)) := by
        apply List.ext_getElem (by simp [heldIn])
        intro j h1 h2
        simp [h2]
      rw [e]; exact (fillA_held _ _).symm
    · have : (fun i => (Array.replicate ops.size false).getD i false) = fun _ => false := by
        funext i
        rcases Nat.lt_or_ge i ops.size with h | h
        · simp [h]
        · simp [h]
      rw [this]; exact start
end
end Go.Proofs.YtfjnplhhgdfepaaGreatDoor

/- The reference's Read. -/
namespace Go.Proofs.YtfjnplhhgdfepaaGreatDoor
open Go.RowKit

theorem neg_head (s : ByteArray) (h : 0 < s.size) : neg? s = decide ((s[0].toNat : Int) = 45) := by
  have e : (s.extract 0 1).toList = [s[0]] := by
    rw [Go.Lib.toList_data]
    apply List.ext_getElem
    · simp; omega
    · intro i k1 k2
      simp at k2; subst k2
      simp [ByteArray.getElem_eq_getElem_data]
  unfold neg?
  rw [e, decide_eq_true (show 1 ≤ s.size by omega), Bool.true_and, Bool.eq_iff_iff]
  simp only [beq_iff_eq, decide_eq_true_eq, List.cons.injEq, and_true, ← UInt8.toNat_inj]
  exact ⟨fun h => by rw [h]; rfl, fun h => by have : s[0].toNat = 45 := by omega
                                              rw [this]; rfl⟩
theorem isDigit_any (c : UInt8) (w : World) : Calls Tryz.prog 89 #[.int .u8 c.toNat] w fun e w' => e = .returned (.bool (dig c)) ∧ w' = w := by
  have hd : dig c = (decide (48 ≤ c.toNat) && decide (c.toNat ≤ 57)) := rfl
  by_cases h0 : 48 ≤ c.toNat
  · by_cases h1 : c.toNat ≤ 57
    · rw [hd, decide_eq_true h0, decide_eq_true h1]
      go_enter Tryz.func89, Tryz.ntmps89
      go_wp2
      go_ret
      exact ⟨by have h3 : decide ((c.toNat : Int) ≤ 57) = true := by simp; omega
                simp [h3], rfl⟩
    · rw [hd, decide_eq_true h0, decide_eq_false h1]
      go_enter Tryz.func89, Tryz.ntmps89
      go_wp2
      go_ret
      exact ⟨by have h3 : decide ((c.toNat : Int) ≤ 57) = false := by simp; omega
                simp [h3], rfl⟩
  · rw [hd, decide_eq_false h0, Bool.false_and]
    go_enter Tryz.func89, Tryz.ntmps89
    go_wp2
    go_ret
    exact ⟨rfl, rfl⟩
/-- The first n bytes are digits; what Read says then. -/
theorem all_extract {m : ByteArray} : bys (m.extract 0 361) = (bys m).take 361 := by
  unfold bys; simp
theorem not_all {l : List UInt8} {n : Nat} (h : n < l.length) (hd : dig l[n] = false) : l.all dig = false := by
  rw [Bool.eq_false_iff]
  intro ha
  have := List.all_eq_true.1 ha _ (List.getElem_mem h)
  rw [hd] at this; cases this
theorem read_long {s : ByteArray} (h : 360 < (mag s).size) (hd : ((bys (mag s)).take 361).all dig = true) : readErr s = if (bys (mag s)).getD 0 0 == 48 then 12 else 2 := by
  unfold readErr
  rw [if_pos h, all_extract, hd]
  cases (bys (mag s)).getD 0 0 == 48 <;> rfl
theorem read_stop {s : ByteArray} {n : Nat} (hn : n ≤ 360) (h : n < (mag s).size) (hd : dig (mag s)[n] = false) : readErr s = 12 := by
  have hl : n < (bys (mag s)).length := by rw [bys_length]; exact h
  unfold readErr
  by_cases h1 : 360 < (mag s).size
  · rw [if_pos h1, all_extract, show ((bys (mag s)).take 361).all dig = false from not_all (n := n) (by rw [List.length_take]; omega) (by rw [List.getElem_take]; exact hd)]
    rfl
  · rw [if_neg h1, show (bys (mag s)).all dig = false from not_all hl hd]
    simp
theorem read_none {s : ByteArray} (h : (mag s).size = 0) : readErr s = 12 := by
  unfold readErr
  rw [if_neg (by omega), h]; rfl
theorem read_zero {s : ByteArray} (h : (mag s).size ≤ 360) (h0 : 0 < (mag s).size) (hd : (bys (mag s)).all dig = true) (hz : ((bys (mag s)).getD 0 0 == 48) = true) (hs : s.toList ≠ [48]) : readErr s = 12 := by
  unfold readErr
  have h3 : (mag s).size ≠ 0 := by omega
  rw [if_neg (by omega), hd, hz]
  simp [h3, hs]
theorem read_good {s : ByteArray} (h : (mag s).size ≤ 360) (h0 : 0 < (mag s).size) (hd : (bys (mag s)).all dig = true) (hz : ((bys (mag s)).getD 0 0 == 48) = false ∨ s.toList = [48]) : readErr s = 0 := by
  unfold readErr
  have h3 : (mag s).size ≠ 0 := by omega
  rw [if_neg (by omega), hd]
  rcases hz with hz | hz
  · rw [hz]; simp [h3]
  · rw [hz]; simp [h3]
theorem read_facts {s m : ByteArray} (h : mag s = m) :
    (360 < m.size → ((bys m).take 361).all dig = true → readErr s = if (bys m).getD 0 0 == 48 then 12 else 2) ∧
    (∀ n, n ≤ 360 → ∀ h : n < m.size, dig m[n] = false → readErr s = 12) ∧ (m.size = 0 → readErr s = 12) ∧
    (m.size ≤ 360 → 0 < m.size → (bys m).all dig = true → ((bys m).getD 0 0 == 48) = true → s.toList ≠ [48] → readErr s = 12) ∧
    (m.size ≤ 360 → 0 < m.size → (bys m).all dig = true → ((bys m).getD 0 0 == 48) = false ∨ s.toList = [48] → readErr s = 0) := by
  subst h
  exact ⟨read_long, fun _ h1 h2 h3 => read_stop h1 h2 h3, read_none, read_zero, read_good⟩
theorem refused {s : ByteArray} {er : Int} (he : readErr s = er) (h0 : er ≠ 0) {w w' : World} (hb : Below w.heap.size w w') : RetE (readVal s) (readErr s) w (.returned (.tuple #[.agg #[.bool false, .slice none 0 0], .int .i64 er])) w' := by
  have hv : readVal s = 0 := by unfold readVal; rw [if_neg (by rw [he]; exact h0)]
  rw [hv, he]; exact RetE.zero _ _ _ hb
theorem lead_pos {l : List UInt8} (h : l ≠ []) (hd : l.all dig = true) (hz : (l.getD 0 0 == 48) = false) : 0 < dval l := by
  rcases Nat.eq_zero_or_pos (dval l) with h0 | h0
  · have h1 := dec_unique l h hd (.inl (fun e => by
      cases l with
      | nil => exact h rfl
      | cons c r => simp at e hz; exact hz e))
    rw [h0, dec_one 0 (by omega)] at h1
    rw [← h1] at hz
    simp at hz
  · exact h0
theorem pow_nine (m : Nat) : (1000000000 : Nat) ^ m = 10 ^ (9 * m) := by rw [Nat.pow_mul]
theorem nine_le {k m : Nat} (h : k + 1 ≤ 9 * m) : 10 ^ k * 10 ≤ 1000000000 ^ m := by
  rw [pow_nine m, ← Nat.pow_succ]
  exact Nat.pow_le_pow_right (by omega) h
theorem ten_le {k : Nat} (h : k < 360) : 10 ^ k * 10 ≤ 1000000000 ^ 40 := nine_le (by omega)
theorem Sl.digits_le {w : World} {ao : Option Addr} {lo co n : Nat} (h : Sl w ao lo co (parts n)) (hn : n < 1000000000 ^ 40) : lo ≤ 100000 := by
  have h1 : (parts n).length ≤ 40 := (parts_len n 40).2 hn
  rw [h.length] at h1; omega
/-- u is a slice that reads as xs. -/
def HasS (w : World) (u : Value) (xs : List Int) : Prop := ∃ ap lp cp, u = .slice ap lp cp ∧ Sl w ap lp cp xs
theorem Mono.slice {xs : List Int} : Mono (fun w u => HasS w u xs) := fun _ _ _ ⟨a, l, c, h1, h2⟩ b => ⟨a, l, c, h1, h2.below b⟩
theorem trim_one (c : Nat) (h : c < 1000000000) : trim [(c : Int)] = parts c := by
  rcases Nat.eq_zero_or_pos c with h0 | h0
  · subst h0; rw [parts_zero]; rfl
  · rw [parts_pos c h0, Nat.mod_eq_of_lt h, Nat.div_eq_of_lt h, parts_zero]
    have := trim_snoc [] (c : Int) (by omega)
    simpa using this

theorem zero_text {m : ByteArray} (h : m.size = 1) (hz : (m[0].toNat : Int) = 48) : m = ⟨#[48]⟩ := by
  apply ByteArray.ext
  apply Array.ext
  · simpa using h
  · intro i h1 h2
    simp at h2; subst h2
    show m[0] = 48
    exact UInt8.toNat_inj.1 (by have : m[0].toNat = 48 := by omega
                                rw [this]; rfl)
/-- What the operations of a round of Read yield. -/
def readQ (D x k c : Nat) (m : ByteArray) (ad : Option Addr) (ld cd : Nat) : List (World → Value → Prop) :=
  [fun _ u => u = .slice ad ld cd, fun w u => HasS w u [10], fun w u => HasS w u (parts (D * 10)), fun _ u => u = .string m, fun _ u => u = .int .i64 k, fun _ u => u = .int .u8 c,
   fun _ u => u = .int .u8 x, fun _ u => u = .int .i64 x, fun w u => HasS w u [(x : Int)], fun w u => HasS w u (parts x), fun w u => HasS w u (parts (D * 10 + x)), fun w u => HasS w u (parts (D * 10 + x))]
theorem readQ_mono (D x k c : Nat) (m : ByteArray) (ad : Option Addr) (ld cd : Nat) : AllQ (readQ D x k c m ad ld cd) :=
  ⟨Mono.is, Mono.slice, Mono.slice, Mono.is, Mono.is, Mono.is, Mono.is, Mono.is, Mono.slice, Mono.slice, Mono.slice, Mono.slice, trivial⟩
theorem dig_ten : Dig [10] := by intro y hy; rw [List.mem_singleton.1 hy]; omega
theorem one_has (w : World) (m : Int) : HasS (w.alloc (.cells #[.int .i64 m] 3)) (.slice (some ⟨w.heap.size, 0, none⟩) 1 1) [m] := ⟨_, _, _, rfl, one_new w m⟩

set_option maxRecDepth 100000 in
set_option maxHeartbeats 4000000 in
theorem refRead_pos (s : ByteArray) (w : World) (hs : s.size ≤ 4611686018427387904) (h0 : 0 < s.size) (hn : neg? s = false) :
    Calls Tryz.prog 30 #[.string s] w (RetE (readVal s) (readErr s) w) := by
  have hmg : mag s = s := by unfold mag; rw [hn]; rfl
  have h45 : ((s[0].toNat : Int) == 45) = false := by have := neg_head s h0; rw [hn] at this; simpa using this.symm
  obtain ⟨hlong, hstop, hnone, hzero, hgood⟩ := read_facts hmg
  have Hnone := Lib.hid hnone; have Hsz := Lib.hid (show s.size ≤ s.size from Nat.le_refl _)
  have Hlong := Lib.hid hlong; have Hstop := Lib.hid hstop; have Hzero := Lib.hid hzero; have Hgood := Lib.hid hgood; have Hn := Lib.hid hn; have Hmg := Lib.hid hmg
  clear hlong hstop hzero hgood hnone hn hmg
  go_enter Tryz.func30, Tryz.ntmps30
  go_wp2_with fail
  go_loop [5] (fun i => ∃ n : Nat, n ≤ s.size ∧ n ≤ 361 ∧ i = .int .i64 n ∧ ((bys s).take n).all dig = true) (fun i => s.size - (intOf i).toNat)
  case atStart => exact ⟨0, Nat.zero_le _, by omega, rfl, rfl⟩
  case round =>
    obtain ⟨n, hn, h361, rfl, hall⟩ := hrel
    have Hall := Lib.hid hall
    clear hall
    by_cases hlt : n < s.size
    · by_cases h360 : n ≤ 360
      · cases hd : dig s[n]
        · have Hd := Lib.hid hd
          clear hd
          rcases Nat.eq_zero_or_pos n with h0 | h0
          · subst h0
            go_wp2_with fail
            refine (isDigit_any s[0] _).mono ?_
            rintro e w1 ⟨rfl, rfl⟩
            rw [Hd.out]
            go_wp2
            refine bodyPost_ret (v := .tuple #[.agg #[.bool false, .slice none 0 0], .int .i64 12]) (by simp [results, Tryz.results30, go_sem]) rfl ?_
            exact refused (Hstop.out 0 (by omega) hlt Hd.out) (by decide) ((Below.refl w.heap.size w).alloc (Nat.le_refl _) _)
          · go_wp2_with fail
            refine (isDigit_any s[n] _).mono ?_
            rintro e w1 ⟨rfl, rfl⟩
            rw [Hd.out]
            have h3 : ¬ n = 0 := by omega
            go_wp2
            refine bodyPost_ret (v := .tuple #[.agg #[.bool false, .slice none 0 0], .int .i64 12]) (by simp [results, Tryz.results30, go_sem]) rfl ?_
            exact refused (Hstop.out n h360 hlt Hd.out) (by decide) ((Below.refl w.heap.size w).alloc (Nat.le_refl _) _)
        · have Hd := Lib.hid hd
          clear hd
          have ht := Lib.hid (bys_take s n hlt)
          go_wp2_with fail
          refine (isDigit_any s[n] _).mono ?_
          rintro e w1 ⟨rfl, rfl⟩
          rw [Hd.out]
          go_wp2
          go_round
          case rel => exact ⟨n + 1, hlt, by omega, by go_num, by rw [ht.out, List.all_append, Hall.out]; simp [Hd.out]⟩
          case measure => simp [intOf]; omega
      · obtain rfl : n = 361 := by omega
        have hbh := bys_head s (by omega)
        by_cases hz : (s[0].toNat : Int) = 48
        · have he : readErr s = 12 := by rw [Hlong.out (by omega) Hall.out, hbh, beq48, decide_eq_true hz]; rfl
          have He := Lib.hid he
          clear he hbh
          go_wp2
          refine bodyPost_ret (v := .tuple #[.agg #[.bool false, .slice none 0 0], .int .i64 12]) (by simp [results, Tryz.results30, go_sem]) rfl ?_
          exact refused He.out (by decide) ((Below.refl w.heap.size w).alloc (Nat.le_refl _) _)
        · have he : readErr s = 2 := by rw [Hlong.out (by omega) Hall.out, hbh, beq48, decide_eq_false hz]; rfl
          have He := Lib.hid he
          clear he hbh
          go_wp2
          refine bodyPost_ret (v := .tuple #[.agg #[.bool false, .slice none 0 0], .int .i64 2]) (by simp [results, Tryz.results30, go_sem]) rfl ?_
          exact refused He.out (by decide) ((Below.refl w.heap.size w).alloc (Nat.le_refl _) _)
    · obtain rfl : n = s.size := by omega
      by_cases hM : 360 < s.size
      · have hM1 : s.size = 361 := by omega
        have hal : ((bys s).take 361).all dig = true := by have := Hall.out; rwa [hM1] at this
        have hbh := bys_head s (by omega)
        have hq0 : ¬ s.size = 0 := by omega
        by_cases hz : (s[0].toNat : Int) = 48
        · have he : readErr s = 12 := by rw [Hlong.out hM hal, hbh, beq48, decide_eq_true hz]; rfl
          have He := Lib.hid he
          clear he hbh hal
          go_wp2
          refine bodyPost_ret (v := .tuple #[.agg #[.bool false, .slice none 0 0], .int .i64 12]) (by simp [results, Tryz.results30, go_sem]) rfl ?_
          exact refused He.out (by decide) ((Below.refl w.heap.size w).alloc (Nat.le_refl _) _)
        · have he : readErr s = 2 := by rw [Hlong.out hM hal, hbh, beq48, decide_eq_false hz]; rfl
          have He := Lib.hid he
          clear he hbh hal
          go_wp2
          refine bodyPost_ret (v := .tuple #[.agg #[.bool false, .slice none 0 0], .int .i64 2]) (by simp [results, Tryz.results30, go_sem]) rfl ?_
          exact refused He.out (by decide) ((Below.refl w.heap.size w).alloc (Nat.le_refl _) _)
      · have hall2 : (bys s).all dig = true := by have := Hall.out; rwa [List.take_of_length_le (by rw [bys_length]; exact Nat.le_refl _)] at this
        have Hall2 := Lib.hid hall2
        clear hall2
        have hbh := Lib.hid (bys_head s (by omega))
        have hq0 : ¬ s.size = 0 := by omega
        by_cases hz : (s[0].toNat : Int) = 48
        · by_cases h1 : 1 < s.size
          · have he : readErr s = 12 := Hzero.out (by omega) (by omega) Hall2.out (by rw [hbh.out, beq48, decide_eq_true hz]) (by intro e; have := congrArg List.length e; rw [Go.Lib.toList_data] at this; simp at this; have h3 := Hsz.out; omega)
            have He := Lib.hid he
            clear he
            go_wp2
            refine bodyPost_ret (v := .tuple #[.agg #[.bool false, .slice none 0 0], .int .i64 12]) (by simp [results, Tryz.results30, go_sem]) rfl ?_
            exact refused He.out (by decide) ((Below.refl w.heap.size w).alloc (Nat.le_refl _) _)
          · have hm0 : s = ⟨#[48]⟩ := zero_text (by omega) hz
            have He := Lib.hid (Hgood.out (by omega) (by omega) Hall2.out (.inr (by rw [hm0, Go.Lib.toList_data])))
            have Hval : Hid (readVal s = num false ((dval (bys s) : Nat) : Int)) := Lib.hid (by unfold readVal; rw [if_pos He.out, Hn.out, Hmg.out])
            clear hm0
            go_wp2_with fail
            go_loopw [6, 7] (fun d i wr => ∃ (k : Nat) (ad : Option Addr) (ld cd : Nat), k ≤ s.size ∧ i = .int .i64 k ∧ d = .slice ad ld cd ∧ Sl wr ad ld cd (parts (dval ((bys s).take k))) ∧ BoxI wr w.heap.size false none 0 0 ∧ Below w.heap.size w wr) (fun _ i _ => s.size - (intOf i).toNat)
            case atStart => exact ⟨0, none, 0, 0, Nat.zero_le _, rfl, rfl, by show Sl _ none 0 0 (parts (dval [])); rw [show dval [] = 0 from rfl, parts_zero]; exact Sl.nil _, BoxI.new w w.heap.size rfl false none 0 0, ((Below.refl w.heap.size w).alloc (Nat.le_refl _) _)⟩
            case round =>
              obtain ⟨k, ad, ld, cd, hk, rfl, rfl, sd, hR, hbb⟩ := hrel
              by_cases hlt2 : k < s.size
              · have hkI : (k : Int) < (s.size : Int) := by omega
                have hdl := dval_lt ((bys s).take k) (List.all_eq_true.2 fun c hc => List.all_eq_true.1 Hall2.out c (List.mem_of_mem_take hc))
                rw [List.length_take, bys_length, Nat.min_eq_left hk] at hdl
                have hdm := ten_le (show k < 360 by omega)
                obtain ⟨g0, g1⟩ := dig_byte Hall2.out k hlt2
                have hst : dval ((bys s).take (k + 1)) = dval ((bys s).take k) * 10 + (s[k].toNat - 48) := by rw [bys_take _ _ hlt2, dval_snoc]
                generalize dval ((bys s).take k) = D at *
                have hD10 : D * 10 < 1000000000 ^ 40 := by omega
                have hld := sd.digits_le (show D < 1000000000 ^ 40 by omega)
                have HD10 := Lib.hid hD10
                clear hD10 hdl hdm
                obtain ⟨c, hc⟩ : ∃ c, s[k].toNat = c := ⟨_, rfl⟩
                obtain ⟨x, hx⟩ : ∃ x : Nat, c - 48 = x := ⟨_, rfl⟩
                rw [hc, hx] at hst
                have Hst := Lib.hid hst
                have HM := readQ_mono D x k c s ad ld cd
                have hx9 : x ≤ 9 := by omega
                have hcx : (c : Int) - 48 = (x : Int) := by omega
                have hu8 : IntKind.u8.wrap (x : Int) = (x : Int) := by simp [IntKind.wrap, IntKind.signed, IntKind.bits]; omega
                clear hst
                go_upto_region 15 with (fail)
                refine region_kept_at 12 [some 73, some 74, some 75, some 76, some 77, some 78, some 79, some 80, some 81, some 82, some 83, some 6] (fun U => [U 0, U 1, U 2, U 3, U 4, U 5, U 6, U 7, U 8, U 9, U 10, U 11]) (fun L U w' => Upto wr (readQ D x k c s ad ld cd) L U w' ∧ (L 11 = false → U 11 = .slice ad ld cd) ∧ (L 11 = true → L 0 = true)) rfl rfl (fun _ => rfl) rfl (by kernel_rfl) (by kernel_rfl) (by kernel_rfl) ⟨Upto.start _ _ _, fun _ => rfl, fun h => by cases h⟩ ?step ?fin
                case step =>
                  refine ⟨?_, ?_, ?_, ?_, ?_, ?_, ?_, ?_, ?_, ?_, ?_, ?_, trivial⟩
                  · intro L U w' a hG hLi hmet hb ho K hK
                    obtain ⟨hF, h6, h7⟩ := hG
                    have U1 := hF.1
                    have n11 : L 11 = false := by cases h : L 11 with | false => rfl | true => exact absurd ((h7 h).symm.trans hLi) (by decide)
                    have s6 : a.tmps.getD 6 undef = .slice ad ld cd := (hb 11 6 rfl).trans (h6 n11)
                    have r6 := getD_r s6
                    clear hb ho hmet
                    rw [if_pos (by rfl)]
                    go_simp
                    exact hK.out (.slice ad ld cd) w' ⟨hF.same HM 0 rfl rfl, h6, fun _ => rfl⟩
                  · intro L U w' a hG hLi hmet hb ho K hK
                    obtain ⟨hF, h6, h7⟩ := hG
                    have U1 := hF.1
                    clear hb ho hmet
                    rw [if_pos (by rfl)]
                    go_simp
                    exact hK.out (.slice (some ⟨w'.heap.size, 0, none⟩) 1 1) _ ⟨hF.next HM 1 rfl ((Below.refl w'.heap.size w').alloc (Nat.le_refl _) _) (one_has w' 10), h6, h7⟩
                  · intro L U w' a hG hLi hmet hb ho K hK
                    obtain ⟨hF, h6, h7⟩ := hG
                    have U1 := hF.1
                    have s73 := (hb 0 73 rfl).trans (hF.at 0 rfl (hmet.get rfl))
                    have r73 := getD_r s73
                    obtain ⟨pa1, pl1, pc1, pe1, ps1⟩ := hF.at 1 rfl (hmet.get rfl)
                    have s74 := (hb 1 74 rfl).trans pe1
                    have r74 := getD_r s74
                    clear hb ho hmet
                    rw [if_pos (by rfl)]
                    go_simp
                    go_at_call 91
                    (with_reducible refine (refTimes_any ad ld cd (parts D) pa1 pl1 pc1 [10] _ (sd.below U1) ps1 (parts_dig _) dig_ten hld (by have := ps1.length; simp at this; omega)).mono ?_)
                    rintro e_ wq ⟨ra, rl, rc, rfl, rs, bq⟩
                    rw [val_parts, show ((D : Int) * val [10]).toNat = D * 10 by simp [val]; omega] at rs
                    exact hK.out (.slice ra rl rc) wq ⟨hF.next HM 2 rfl bq ⟨_, _, _, rfl, rs⟩, h6, h7⟩
                  · intro L U w' a hG hLi hmet hb ho K hK
                    obtain ⟨hF, h6, h7⟩ := hG
                    have U1 := hF.1
                    have s0 : a.tmps.getD 0 undef = .string s := (ho 0 rfl).trans rfl
                    have r0 := getD_r s0
                    clear hb ho hmet
                    rw [if_pos (by rfl)]
                    go_simp
                    exact hK.out (.string s) w' ⟨hF.same HM 3 rfl rfl, h6, h7⟩
                  · intro L U w' a hG hLi hmet hb ho K hK
                    obtain ⟨hF, h6, h7⟩ := hG
                    have U1 := hF.1
                    have s7 : a.tmps.getD 7 undef = .int .i64 k := (ho 7 rfl).trans rfl
                    have r7 := getD_r s7
                    clear hb ho hmet
                    rw [if_pos (by rfl)]
                    go_simp
                    exact hK.out (.int .i64 k) w' ⟨hF.same HM 4 rfl rfl, h6, h7⟩
                  · intro L U w' a hG hLi hmet hb ho K hK
                    obtain ⟨hF, h6, h7⟩ := hG
                    have U1 := hF.1
                    have s76 := (hb 3 76 rfl).trans (hF.at 3 rfl (hmet.get rfl))
                    have r76 := getD_r s76
                    have s77 := (hb 4 77 rfl).trans (hF.at 4 rfl (hmet.get rfl))
                    have r77 := getD_r s77
                    clear hb ho hmet
                    rw [if_pos (by rfl)]
                    go_simp
                    try rw [hc]
                    exact hK.out (.int .u8 c) w' ⟨hF.same HM 5 rfl rfl, h6, h7⟩
                  · intro L U w' a hG hLi hmet hb ho K hK
                    obtain ⟨hF, h6, h7⟩ := hG
                    have U1 := hF.1
                    have s78 := (hb 5 78 rfl).trans (hF.at 5 rfl (hmet.get rfl))
                    have r78 := getD_r s78
                    clear hb ho hmet
                    rw [if_pos (by rfl)]
                    go_simp
                    try rw [hcx]
                    exact hK.out (.int .u8 x) w' ⟨hF.same HM 6 rfl rfl, h6, h7⟩
                  · intro L U w' a hG hLi hmet hb ho K hK
                    obtain ⟨hF, h6, h7⟩ := hG
                    have U1 := hF.1
                    have s79 := (hb 6 79 rfl).trans (hF.at 6 rfl (hmet.get rfl))
                    have r79 := getD_r s79
                    clear hb ho hmet
                    rw [if_pos (by rfl)]
                    go_simp
                    try rw [IntWalk.i64_in (x : Int) (by omega)]
                    exact hK.out (.int .i64 x) w' ⟨hF.same HM 7 rfl rfl, h6, h7⟩
                  · intro L U w' a hG hLi hmet hb ho K hK
                    obtain ⟨hF, h6, h7⟩ := hG
                    have U1 := hF.1
                    have s80 := (hb 7 80 rfl).trans (hF.at 7 rfl (hmet.get rfl))
                    have r80 := getD_r s80
                    clear hb ho hmet
                    rw [if_pos (by rfl)]
                    go_simp
                    exact hK.out (.slice (some ⟨w'.heap.size, 0, none⟩) 1 1) _ ⟨hF.next HM 8 rfl ((Below.refl w'.heap.size w').alloc (Nat.le_refl _) _) (one_has w' x), h6, h7⟩
                  · intro L U w' a hG hLi hmet hb ho K hK
                    obtain ⟨hF, h6, h7⟩ := hG
                    have U1 := hF.1
                    obtain ⟨pa8, pl8, pc8, pe8, ps8⟩ := hF.at 8 rfl (hmet.get rfl)
                    have s81 := (hb 8 81 rfl).trans pe8
                    have r81 := getD_r s81
                    clear hb ho hmet
                    rw [if_pos (by rfl)]
                    go_simp
                    go_at_call 92
                    (with_reducible refine (shorn_any _ _ _ _ _ ps8 (by have := ps8.length; simp at this; omega)).mono ?_)
                    rintro e_ wq ⟨ra, rl, rc, rfl, rs, bq⟩
                    rw [trim_one x (by omega)] at rs
                    exact hK.out (.slice ra rl rc) wq ⟨hF.next HM 9 rfl bq ⟨_, _, _, rfl, rs⟩, h6, h7⟩
                  · intro L U w' a hG hLi hmet hb ho K hK
                    obtain ⟨hF, h6, h7⟩ := hG
                    have U1 := hF.1
                    obtain ⟨pa2, pl2, pc2, pe2, ps2⟩ := hF.at 2 rfl (hmet.get rfl)
                    have s75 := (hb 2 75 rfl).trans pe2
                    have r75 := getD_r s75
                    obtain ⟨pa9, pl9, pc9, pe9, ps9⟩ := hF.at 9 rfl (hmet.get rfl)
                    have s82 := (hb 9 82 rfl).trans pe9
                    have r82 := getD_r s82
                    clear hb ho hmet
                    rw [if_pos (by rfl)]
                    go_simp
                    go_at_call 90
                    (with_reducible refine (refSum_any _ _ _ _ _ _ _ _ _ ps2 ps9 (parts_dig _) (parts_dig _) (ps2.digits_le HD10.out) (ps9.digits_le (Nat.lt_of_le_of_lt hx9 (by decide +kernel)))).mono ?_)
                    rintro e_ wq ⟨ra, rl, rc, rfl, rs, bq⟩
                    rw [val_parts, val_parts, show (((D * 10 : Nat) : Int) + (x : Int)).toNat = D * 10 + x by omega] at rs
                    exact hK.out (.slice ra rl rc) wq ⟨hF.next HM 10 rfl bq ⟨_, _, _, rfl, rs⟩, h6, h7⟩
                  · intro L U w' a hG hLi hmet hb ho K hK
                    obtain ⟨hF, h6, h7⟩ := hG
                    have U1 := hF.1
                    have l0 : L 0 = true := hmet.get rfl
                    obtain ⟨pa10, pl10, pc10, pe10, ps10⟩ := hF.at 10 rfl (hmet.get rfl)
                    have s83 := (hb 10 83 rfl).trans pe10
                    have r83 := getD_r s83
                    clear hb ho hmet
                    rw [if_pos (by rfl)]
                    go_simp
                    exact hK.out (.slice pa10 pl10 pc10) w' ⟨hF.same HM 11 rfl ⟨_, _, _, rfl, ps10⟩, fun h => (by cases h), fun _ => l0⟩
                case fin =>
                  intro L U wx hG hall
                  obtain ⟨hF, _⟩ := hG
                  obtain ⟨a2, l2, c2, e2, s2⟩ := hF.at 11 rfl (hall 11 (by decide))
                  have U1 := hF.1
                  clear hF hall HM
                  simp only [fillA, Act.put, List.setIfInBounds_toArray, List.set_cons_zero, List.set_cons_succ]
                  rw [e2]
                  go_wp2
                  go_roundw
                  case rel => exact ⟨k + 1, a2, l2, c2, hlt2, by go_num, rfl, by rw [Hst.out]; exact s2, hR.below U1, hbb.trans (U1.mono hbb.size)⟩
                  case measure => simp [intOf]; omega
              · obtain rfl : k = s.size := by omega
                rw [List.take_of_length_le (by rw [bys_length]; exact Nat.le_refl _)] at sd
                have r0 := hR.cells.1; have r1 := hR.cells.2; have f1 := hR.froz.1; have f2 := hR.froz.2; have zr := hR.lt
                go_wp2
                refine bodyPost_ret (v := .tuple #[.agg #[.bool false, .slice ad ld cd], .int .i64 0]) (by simp [results, Tryz.results30, go_sem, r0, r1]) rfl ?_
                rw [He.out, Hval.out]
                have hnn : decide (num false ((dval (bys s) : Nat) : Int) < 0) = false := by rw [num_neg _ (by omega)]; rfl
                exact ⟨ad, ld, cd, by rw [hnn], by rw [num_natAbs _ (by omega), Int.toNat_natCast]; exact sd.store2 r0 r1 _ _, (hbb.setCell (Nat.le_refl _) _).setCell (Nat.le_refl _) _⟩
        · have hzb : ((s[0].toNat : Int) == 48) = false := by simpa using hz
          rcases Nat.lt_or_ge 1 s.size with h1 | h1
          · skip
            have He := Lib.hid (Hgood.out (by omega) (by omega) Hall2.out (.inl (by rw [hbh.out, beq48, decide_eq_false hz])))
            have Hval : Hid (readVal s = num false ((dval (bys s) : Nat) : Int)) := Lib.hid (by unfold readVal; rw [if_pos He.out, Hn.out, Hmg.out])
            go_wp2_with fail
            go_loopw [6, 7] (fun d i wr => ∃ (k : Nat) (ad : Option Addr) (ld cd : Nat), k ≤ s.size ∧ i = .int .i64 k ∧ d = .slice ad ld cd ∧ Sl wr ad ld cd (parts (dval ((bys s).take k))) ∧ BoxI wr w.heap.size false none 0 0 ∧ Below w.heap.size w wr) (fun _ i _ => s.size - (intOf i).toNat)
            case atStart => exact ⟨0, none, 0, 0, Nat.zero_le _, rfl, rfl, by show Sl _ none 0 0 (parts (dval [])); rw [show dval [] = 0 from rfl, parts_zero]; exact Sl.nil _, BoxI.new w w.heap.size rfl false none 0 0, ((Below.refl w.heap.size w).alloc (Nat.le_refl _) _)⟩
            case round =>
              obtain ⟨k, ad, ld, cd, hk, rfl, rfl, sd, hR, hbb⟩ := hrel
              by_cases hlt2 : k < s.size
              · have hkI : (k : Int) < (s.size : Int) := by omega
                have hdl := dval_lt ((bys s).take k) (List.all_eq_true.2 fun c hc => List.all_eq_true.1 Hall2.out c (List.mem_of_mem_take hc))
                rw [List.length_take, bys_length, Nat.min_eq_left hk] at hdl
                have hdm := ten_le (show k < 360 by omega)
                obtain ⟨g0, g1⟩ := dig_byte Hall2.out k hlt2
                have hst : dval ((bys s).take (k + 1)) = dval ((bys s).take k) * 10 + (s[k].toNat - 48) := by rw [bys_take _ _ hlt2, dval_snoc]
                generalize dval ((bys s).take k) = D at *
                have hD10 : D * 10 < 1000000000 ^ 40 := by omega
                have hld := sd.digits_le (show D < 1000000000 ^ 40 by omega)
                have HD10 := Lib.hid hD10
                clear hD10 hdl hdm
                obtain ⟨c, hc⟩ : ∃ c, s[k].toNat = c := ⟨_, rfl⟩
                obtain ⟨x, hx⟩ : ∃ x : Nat, c - 48 = x := ⟨_, rfl⟩
                rw [hc, hx] at hst
                have Hst := Lib.hid hst
                have HM := readQ_mono D x k c s ad ld cd
                have hx9 : x ≤ 9 := by omega
                have hcx : (c : Int) - 48 = (x : Int) := by omega
                have hu8 : IntKind.u8.wrap (x : Int) = (x : Int) := by simp [IntKind.wrap, IntKind.signed, IntKind.bits]; omega
                clear hst
                go_upto_region 15 with (fail)
                refine region_kept_at 12 [some 73, some 74, some 75, some 76, some 77, some 78, some 79, some 80, some 81, some 82, some 83, some 6] (fun U => [U 0, U 1, U 2, U 3, U 4, U 5, U 6, U 7, U 8, U 9, U 10, U 11]) (fun L U w' => Upto wr (readQ D x k c s ad ld cd) L U w' ∧ (L 11 = false → U 11 = .slice ad ld cd) ∧ (L 11 = true → L 0 = true)) rfl rfl (fun _ => rfl) rfl (by kernel_rfl) (by kernel_rfl) (by kernel_rfl) ⟨Upto.start _ _ _, fun _ => rfl, fun h => by cases h⟩ ?step ?fin
                case step =>
                  refine ⟨?_, ?_, ?_, ?_, ?_, ?_, ?_, ?_, ?_, ?_, ?_, ?_, trivial⟩
                  · intro L U w' a hG hLi hmet hb ho K hK
                    obtain ⟨hF, h6, h7⟩ := hG
                    have U1 := hF.1
                    have n11 : L 11 = false := by cases h : L 11 with | false => rfl | true => exact absurd ((h7 h).symm.trans hLi) (by decide)
                    have s6 : a.tmps.getD 6 undef = .slice ad ld cd := (hb 11 6 rfl).trans (h6 n11)
                    have r6 := getD_r s6
                    clear hb ho hmet
                    rw [if_pos (by rfl)]
                    go_simp
                    exact hK.out (.slice ad ld cd) w' ⟨hF.same HM 0 rfl rfl, h6, fun _ => rfl⟩
                  · intro L U w' a hG hLi hmet hb ho K hK
                    obtain ⟨hF, h6, h7⟩ := hG
                    have U1 := hF.1
                    clear hb ho hmet
                    rw [if_pos (by rfl)]
                    go_simp
                    exact hK.out (.slice (some ⟨w'.heap.size, 0, none⟩) 1 1) _ ⟨hF.next HM 1 rfl ((Below.refl w'.heap.size w').alloc (Nat.le_refl _) _) (one_has w' 10), h6, h7⟩
                  · intro L U w' a hG hLi hmet hb ho K hK
                    obtain ⟨hF, h6, h7⟩ := hG
                    have U1 := hF.1
                    have s73 := (hb 0 73 rfl).trans (hF.at 0 rfl (hmet.get rfl))
                    have r73 := getD_r s73
                    obtain ⟨pa1, pl1, pc1, pe1, ps1⟩ := hF.at 1 rfl (hmet.get rfl)
                    have s74 := (hb 1 74 rfl).trans pe1
                    have r74 := getD_r s74
                    clear hb ho hmet
                    rw [if_pos (by rfl)]
                    go_simp
                    go_at_call 91
                    (with_reducible refine (refTimes_any ad ld cd (parts D) pa1 pl1 pc1 [10] _ (sd.below U1) ps1 (parts_dig _) dig_ten hld (by have := ps1.length; simp at this; omega)).mono ?_)
                    rintro e_ wq ⟨ra, rl, rc, rfl, rs, bq⟩
                    rw [val_parts, show ((D : Int) * val [10]).toNat = D * 10 by simp [val]; omega] at rs
                    exact hK.out (.slice ra rl rc) wq ⟨hF.next HM 2 rfl bq ⟨_, _, _, rfl, rs⟩, h6, h7⟩
                  · intro L U w' a hG hLi hmet hb ho K hK
                    obtain ⟨hF, h6, h7⟩ := hG
                    have U1 := hF.1
                    have s0 : a.tmps.getD 0 undef = .string s := (ho 0 rfl).trans rfl
                    have r0 := getD_r s0
                    clear hb ho hmet
                    rw [if_pos (by rfl)]
                    go_simp
                    exact hK.out (.string s) w' ⟨hF.same HM 3 rfl rfl, h6, h7⟩
                  · intro L U w' a hG hLi hmet hb ho K hK
                    obtain ⟨hF, h6, h7⟩ := hG
                    have U1 := hF.1
                    have s7 : a.tmps.getD 7 undef = .int .i64 k := (ho 7 rfl).trans rfl
                    have r7 := getD_r s7
                    clear hb ho hmet
                    rw [if_pos (by rfl)]
                    go_simp
                    exact hK.out (.int .i64 k) w' ⟨hF.same HM 4 rfl rfl, h6, h7⟩
                  · intro L U w' a hG hLi hmet hb ho K hK
                    obtain ⟨hF, h6, h7⟩ := hG
                    have U1 := hF.1
                    have s76 := (hb 3 76 rfl).trans (hF.at 3 rfl (hmet.get rfl))
                    have r76 := getD_r s76
                    have s77 := (hb 4 77 rfl).trans (hF.at 4 rfl (hmet.get rfl))
                    have r77 := getD_r s77
                    clear hb ho hmet
                    rw [if_pos (by rfl)]
                    go_simp
                    try rw [hc]
                    exact hK.out (.int .u8 c) w' ⟨hF.same HM 5 rfl rfl, h6, h7⟩
                  · intro L U w' a hG hLi hmet hb ho K hK
                    obtain ⟨hF, h6, h7⟩ := hG
                    have U1 := hF.1
                    have s78 := (hb 5 78 rfl).trans (hF.at 5 rfl (hmet.get rfl))
                    have r78 := getD_r s78
                    clear hb ho hmet
                    rw [if_pos (by rfl)]
                    go_simp
                    try rw [hcx]
                    exact hK.out (.int .u8 x) w' ⟨hF.same HM 6 rfl rfl, h6, h7⟩
                  · intro L U w' a hG hLi hmet hb ho K hK
                    obtain ⟨hF, h6, h7⟩ := hG
                    have U1 := hF.1
                    have s79 := (hb 6 79 rfl).trans (hF.at 6 rfl (hmet.get rfl))
                    have r79 := getD_r s79
                    clear hb ho hmet
                    rw [if_pos (by rfl)]
                    go_simp
                    try rw [IntWalk.i64_in (x : Int) (by omega)]
                    exact hK.out (.int .i64 x) w' ⟨hF.same HM 7 rfl rfl, h6, h7⟩
                  · intro L U w' a hG hLi hmet hb ho K hK
                    obtain ⟨hF, h6, h7⟩ := hG
                    have U1 := hF.1
                    have s80 := (hb 7 80 rfl).trans (hF.at 7 rfl (hmet.get rfl))
                    have r80 := getD_r s80
                    clear hb ho hmet
                    rw [if_pos (by rfl)]
                    go_simp
                    exact hK.out (.slice (some ⟨w'.heap.size, 0, none⟩) 1 1) _ ⟨hF.next HM 8 rfl ((Below.refl w'.heap.size w').alloc (Nat.le_refl _) _) (one_has w' x), h6, h7⟩
                  · intro L U w' a hG hLi hmet hb ho K hK
                    obtain ⟨hF, h6, h7⟩ := hG
                    have U1 := hF.1
                    obtain ⟨pa8, pl8, pc8, pe8, ps8⟩ := hF.at 8 rfl (hmet.get rfl)
                    have s81 := (hb 8 81 rfl).trans pe8
                    have r81 := getD_r s81
                    clear hb ho hmet
                    rw [if_pos (by rfl)]
                    go_simp
                    go_at_call 92
                    (with_reducible refine (shorn_any _ _ _ _ _ ps8 (by have := ps8.length; simp at this; omega)).mono ?_)
                    rintro e_ wq ⟨ra, rl, rc, rfl, rs, bq⟩
                    rw [trim_one x (by omega)] at rs
                    exact hK.out (.slice ra rl rc) wq ⟨hF.next HM 9 rfl bq ⟨_, _, _, rfl, rs⟩, h6, h7⟩
                  · intro L U w' a hG hLi hmet hb ho K hK
                    obtain ⟨hF, h6, h7⟩ := hG
                    have U1 := hF.1
                    obtain ⟨pa2, pl2, pc2, pe2, ps2⟩ := hF.at 2 rfl (hmet.get rfl)
                    have s75 := (hb 2 75 rfl).trans pe2
                    have r75 := getD_r s75
                    obtain ⟨pa9, pl9, pc9, pe9, ps9⟩ := hF.at 9 rfl (hmet.get rfl)
                    have s82 := (hb 9 82 rfl).trans pe9
                    have r82 := getD_r s82
                    clear hb ho hmet
                    rw [if_pos (by rfl)]
                    go_simp
                    go_at_call 90
                    (with_reducible refine (refSum_any _ _ _ _ _ _ _ _ _ ps2 ps9 (parts_dig _) (parts_dig _) (ps2.digits_le HD10.out) (ps9.digits_le (Nat.lt_of_le_of_lt hx9 (by decide +kernel)))).mono ?_)
                    rintro e_ wq ⟨ra, rl, rc, rfl, rs, bq⟩
                    rw [val_parts, val_parts, show (((D * 10 : Nat) : Int) + (x : Int)).toNat = D * 10 + x by omega] at rs
                    exact hK.out (.slice ra rl rc) wq ⟨hF.next HM 10 rfl bq ⟨_, _, _, rfl, rs⟩, h6, h7⟩
                  · intro L U w' a hG hLi hmet hb ho K hK
                    obtain ⟨hF, h6, h7⟩ := hG
                    have U1 := hF.1
                    have l0 : L 0 = true := hmet.get rfl
                    obtain ⟨pa10, pl10, pc10, pe10, ps10⟩ := hF.at 10 rfl (hmet.get rfl)
                    have s83 := (hb 10 83 rfl).trans pe10
                    have r83 := getD_r s83
                    clear hb ho hmet
                    rw [if_pos (by rfl)]
                    go_simp
                    exact hK.out (.slice pa10 pl10 pc10) w' ⟨hF.same HM 11 rfl ⟨_, _, _, rfl, ps10⟩, fun h => (by cases h), fun _ => l0⟩
                case fin =>
                  intro L U wx hG hall
                  obtain ⟨hF, _⟩ := hG
                  obtain ⟨a2, l2, c2, e2, s2⟩ := hF.at 11 rfl (hall 11 (by decide))
                  have U1 := hF.1
                  clear hF hall HM
                  simp only [fillA, Act.put, List.setIfInBounds_toArray, List.set_cons_zero, List.set_cons_succ]
                  rw [e2]
                  go_wp2
                  go_roundw
                  case rel => exact ⟨k + 1, a2, l2, c2, hlt2, by go_num, rfl, by rw [Hst.out]; exact s2, hR.below U1, hbb.trans (U1.mono hbb.size)⟩
                  case measure => simp [intOf]; omega
              · obtain rfl : k = s.size := by omega
                rw [List.take_of_length_le (by rw [bys_length]; exact Nat.le_refl _)] at sd
                have r0 := hR.cells.1; have r1 := hR.cells.2; have f1 := hR.froz.1; have f2 := hR.froz.2; have zr := hR.lt
                go_wp2
                refine bodyPost_ret (v := .tuple #[.agg #[.bool false, .slice ad ld cd], .int .i64 0]) (by simp [results, Tryz.results30, go_sem, r0, r1]) rfl ?_
                rw [He.out, Hval.out]
                have hnn : decide (num false ((dval (bys s) : Nat) : Int) < 0) = false := by rw [num_neg _ (by omega)]; rfl
                exact ⟨ad, ld, cd, by rw [hnn], by rw [num_natAbs _ (by omega), Int.toNat_natCast]; exact sd.store2 r0 r1 _ _, (hbb.setCell (Nat.le_refl _) _).setCell (Nat.le_refl _) _⟩
          · skip
            have He := Lib.hid (Hgood.out (by omega) (by omega) Hall2.out (.inl (by rw [hbh.out, beq48, decide_eq_false hz])))
            have Hval : Hid (readVal s = num false ((dval (bys s) : Nat) : Int)) := Lib.hid (by unfold readVal; rw [if_pos He.out, Hn.out, Hmg.out])
            go_wp2_with fail
            go_loopw [6, 7] (fun d i wr => ∃ (k : Nat) (ad : Option Addr) (ld cd : Nat), k ≤ s.size ∧ i = .int .i64 k ∧ d = .slice ad ld cd ∧ Sl wr ad ld cd (parts (dval ((bys s).take k))) ∧ BoxI wr w.heap.size false none 0 0 ∧ Below w.heap.size w wr) (fun _ i _ => s.size - (intOf i).toNat)
            case atStart => exact ⟨0, none, 0, 0, Nat.zero_le _, rfl, rfl, by show Sl _ none 0 0 (parts (dval [])); rw [show dval [] = 0 from rfl, parts_zero]; exact Sl.nil _, BoxI.new w w.heap.size rfl false none 0 0, ((Below.refl w.heap.size w).alloc (Nat.le_refl _) _)⟩
            case round =>
              obtain ⟨k, ad, ld, cd, hk, rfl, rfl, sd, hR, hbb⟩ := hrel
              by_cases hlt2 : k < s.size
              · have hkI : (k : Int) < (s.size : Int) := by omega
                have hdl := dval_lt ((bys s).take k) (List.all_eq_true.2 fun c hc => List.all_eq_true.1 Hall2.out c (List.mem_of_mem_take hc))
                rw [List.length_take, bys_length, Nat.min_eq_left hk] at hdl
                have hdm := ten_le (show k < 360 by omega)
                obtain ⟨g0, g1⟩ := dig_byte Hall2.out k hlt2
                have hst : dval ((bys s).take (k + 1)) = dval ((bys s).take k) * 10 + (s[k].toNat - 48) := by rw [bys_take _ _ hlt2, dval_snoc]
                generalize dval ((bys s).take k) = D at *
                have hD10 : D * 10 < 1000000000 ^ 40 := by omega
                have hld := sd.digits_le (show D < 1000000000 ^ 40 by omega)
                have HD10 := Lib.hid hD10
                clear hD10 hdl hdm
                obtain ⟨c, hc⟩ : ∃ c, s[k].toNat = c := ⟨_, rfl⟩
                obtain ⟨x, hx⟩ : ∃ x : Nat, c - 48 = x := ⟨_, rfl⟩
                rw [hc, hx] at hst
                have Hst := Lib.hid hst
                have HM := readQ_mono D x k c s ad ld cd
                have hx9 : x ≤ 9 := by omega
                have hcx : (c : Int) - 48 = (x : Int) := by omega
                have hu8 : IntKind.u8.wrap (x : Int) = (x : Int) := by simp [IntKind.wrap, IntKind.signed, IntKind.bits]; omega
                clear hst
                go_upto_region 15 with (fail)
                refine region_kept_at 12 [some 73, some 74, some 75, some 76, some 77, some 78, some 79, some 80, some 81, some 82, some 83, some 6] (fun U => [U 0, U 1, U 2, U 3, U 4, U 5, U 6, U 7, U 8, U 9, U 10, U 11]) (fun L U w' => Upto wr (readQ D x k c s ad ld cd) L U w' ∧ (L 11 = false → U 11 = .slice ad ld cd) ∧ (L 11 = true → L 0 = true)) rfl rfl (fun _ => rfl) rfl (by kernel_rfl) (by kernel_rfl) (by kernel_rfl) ⟨Upto.start _ _ _, fun _ => rfl, fun h => by cases h⟩ ?step ?fin
                case step =>
                  refine ⟨?_, ?_, ?_, ?_, ?_, ?_, ?_, ?_, ?_, ?_, ?_, ?_, trivial⟩
                  · intro L U w' a hG hLi hmet hb ho K hK
                    obtain ⟨hF, h6, h7⟩ := hG
                    have U1 := hF.1
                    have n11 : L 11 = false := by cases h : L 11 with | false => rfl | true => exact absurd ((h7 h).symm.trans hLi) (by decide)
                    have s6 : a.tmps.getD 6 undef = .slice ad ld cd := (hb 11 6 rfl).trans (h6 n11)
                    have r6 := getD_r s6
                    clear hb ho hmet
                    rw [if_pos (by rfl)]
                    go_simp
                    exact hK.out (.slice ad ld cd) w' ⟨hF.same HM 0 rfl rfl, h6, fun _ => rfl⟩
                  · intro L U w' a hG hLi hmet hb ho K hK
                    obtain ⟨hF, h6, h7⟩ := hG
                    have U1 := hF.1
                    clear hb ho hmet
                    rw [if_pos (by rfl)]
                    go_simp
                    exact hK.out (.slice (some ⟨w'.heap.size, 0, none⟩) 1 1) _ ⟨hF.next HM 1 rfl ((Below.refl w'.heap.size w').alloc (Nat.le_refl _) _) (one_has w' 10), h6, h7⟩
                  · intro L U w' a hG hLi hmet hb ho K hK
                    obtain ⟨hF, h6, h7⟩ := hG
                    have U1 := hF.1
                    have s73 := (hb 0 73 rfl).trans (hF.at 0 rfl (hmet.get rfl))
                    have r73 := getD_r s73
                    obtain ⟨pa1, pl1, pc1, pe1, ps1⟩ := hF.at 1 rfl (hmet.get rfl)
                    have s74 := (hb 1 74 rfl).trans pe1
                    have r74 := getD_r s74
                    clear hb ho hmet
                    rw [if_pos (by rfl)]
                    go_simp
                    go_at_call 91
                    (with_reducible refine (refTimes_any ad ld cd (parts D) pa1 pl1 pc1 [10] _ (sd.below U1) ps1 (parts_dig _) dig_ten hld (by have := ps1.length; simp at this; omega)).mono ?_)
                    rintro e_ wq ⟨ra, rl, rc, rfl, rs, bq⟩
                    rw [val_parts, show ((D : Int) * val [10]).toNat = D * 10 by simp [val]; omega] at rs
                    exact hK.out (.slice ra rl rc) wq ⟨hF.next HM 2 rfl bq ⟨_, _, _, rfl, rs⟩, h6, h7⟩
                  · intro L U w' a hG hLi hmet hb ho K hK
                    obtain ⟨hF, h6, h7⟩ := hG
                    have U1 := hF.1
                    have s0 : a.tmps.getD 0 undef = .string s := (ho 0 rfl).trans rfl
                    have r0 := getD_r s0
                    clear hb ho hmet
                    rw [if_pos (by rfl)]
                    go_simp
                    exact hK.out (.string s) w' ⟨hF.same HM 3 rfl rfl, h6, h7⟩
                  · intro L U w' a hG hLi hmet hb ho K hK
                    obtain ⟨hF, h6, h7⟩ := hG
                    have U1 := hF.1
                    have s7 : a.tmps.getD 7 undef = .int .i64 k := (ho 7 rfl).trans rfl
                    have r7 := getD_r s7
                    clear hb ho hmet
                    rw [if_pos (by rfl)]
                    go_simp
                    exact hK.out (.int .i64 k) w' ⟨hF.same HM 4 rfl rfl, h6, h7⟩
                  · intro L U w' a hG hLi hmet hb ho K hK
                    obtain ⟨hF, h6, h7⟩ := hG
                    have U1 := hF.1
                    have s76 := (hb 3 76 rfl).trans (hF.at 3 rfl (hmet.get rfl))
                    have r76 := getD_r s76
                    have s77 := (hb 4 77 rfl).trans (hF.at 4 rfl (hmet.get rfl))
                    have r77 := getD_r s77
                    clear hb ho hmet
                    rw [if_pos (by rfl)]
                    go_simp
                    try rw [hc]
                    exact hK.out (.int .u8 c) w' ⟨hF.same HM 5 rfl rfl, h6, h7⟩
                  · intro L U w' a hG hLi hmet hb ho K hK
                    obtain ⟨hF, h6, h7⟩ := hG
                    have U1 := hF.1
                    have s78 := (hb 5 78 rfl).trans (hF.at 5 rfl (hmet.get rfl))
                    have r78 := getD_r s78
                    clear hb ho hmet
                    rw [if_pos (by rfl)]
                    go_simp
                    try rw [hcx]
                    exact hK.out (.int .u8 x) w' ⟨hF.same HM 6 rfl rfl, h6, h7⟩
                  · intro L U w' a hG hLi hmet hb ho K hK
                    obtain ⟨hF, h6, h7⟩ := hG
                    have U1 := hF.1
                    have s79 := (hb 6 79 rfl).trans (hF.at 6 rfl (hmet.get rfl))
                    have r79 := getD_r s79
                    clear hb ho hmet
                    rw [if_pos (by rfl)]
                    go_simp
                    try rw [IntWalk.i64_in (x : Int) (by omega)]
                    exact hK.out (.int .i64 x) w' ⟨hF.same HM 7 rfl rfl, h6, h7⟩
                  · intro L U w' a hG hLi hmet hb ho K hK
                    obtain ⟨hF, h6, h7⟩ := hG
                    have U1 := hF.1
                    have s80 := (hb 7 80 rfl).trans (hF.at 7 rfl (hmet.get rfl))
                    have r80 := getD_r s80
                    clear hb ho hmet
                    rw [if_pos (by rfl)]
                    go_simp
                    exact hK.out (.slice (some ⟨w'.heap.size, 0, none⟩) 1 1) _ ⟨hF.next HM 8 rfl ((Below.refl w'.heap.size w').alloc (Nat.le_refl _) _) (one_has w' x), h6, h7⟩
                  · intro L U w' a hG hLi hmet hb ho K hK
                    obtain ⟨hF, h6, h7⟩ := hG
                    have U1 := hF.1
                    obtain ⟨pa8, pl8, pc8, pe8, ps8⟩ := hF.at 8 rfl (hmet.get rfl)
                    have s81 := (hb 8 81 rfl).trans pe8
                    have r81 := getD_r s81
                    clear hb ho hmet
                    rw [if_pos (by rfl)]
                    go_simp
                    go_at_call 92
                    (with_reducible refine (shorn_any _ _ _ _ _ ps8 (by have := ps8.length; simp at this; omega)).mono ?_)
                    rintro e_ wq ⟨ra, rl, rc, rfl, rs, bq⟩
                    rw [trim_one x (by omega)] at rs
                    exact hK.out (.slice ra rl rc) wq ⟨hF.next HM 9 rfl bq ⟨_, _, _, rfl, rs⟩, h6, h7⟩
                  · intro L U w' a hG hLi hmet hb ho K hK
                    obtain ⟨hF, h6, h7⟩ := hG
                    have U1 := hF.1
                    obtain ⟨pa2, pl2, pc2, pe2, ps2⟩ := hF.at 2 rfl (hmet.get rfl)
                    have s75 := (hb 2 75 rfl).trans pe2
                    have r75 := getD_r s75
                    obtain ⟨pa9, pl9, pc9, pe9, ps9⟩ := hF.at 9 rfl (hmet.get rfl)
                    have s82 := (hb 9 82 rfl).trans pe9
                    have r82 := getD_r s82
                    clear hb ho hmet
                    rw [if_pos (by rfl)]
                    go_simp
                    go_at_call 90
                    (with_reducible refine (refSum_any _ _ _ _ _ _ _ _ _ ps2 ps9 (parts_dig _) (parts_dig _) (ps2.digits_le HD10.out) (ps9.digits_le (Nat.lt_of_le_of_lt hx9 (by decide +kernel)))).mono ?_)
                    rintro e_ wq ⟨ra, rl, rc, rfl, rs, bq⟩
                    rw [val_parts, val_parts, show (((D * 10 : Nat) : Int) + (x : Int)).toNat = D * 10 + x by omega] at rs
                    exact hK.out (.slice ra rl rc) wq ⟨hF.next HM 10 rfl bq ⟨_, _, _, rfl, rs⟩, h6, h7⟩
                  · intro L U w' a hG hLi hmet hb ho K hK
                    obtain ⟨hF, h6, h7⟩ := hG
                    have U1 := hF.1
                    have l0 : L 0 = true := hmet.get rfl
                    obtain ⟨pa10, pl10, pc10, pe10, ps10⟩ := hF.at 10 rfl (hmet.get rfl)
                    have s83 := (hb 10 83 rfl).trans pe10
                    have r83 := getD_r s83
                    clear hb ho hmet
                    rw [if_pos (by rfl)]
                    go_simp
                    exact hK.out (.slice pa10 pl10 pc10) w' ⟨hF.same HM 11 rfl ⟨_, _, _, rfl, ps10⟩, fun h => (by cases h), fun _ => l0⟩
                case fin =>
                  intro L U wx hG hall
                  obtain ⟨hF, _⟩ := hG
                  obtain ⟨a2, l2, c2, e2, s2⟩ := hF.at 11 rfl (hall 11 (by decide))
                  have U1 := hF.1
                  clear hF hall HM
                  simp only [fillA, Act.put, List.setIfInBounds_toArray, List.set_cons_zero, List.set_cons_succ]
                  rw [e2]
                  go_wp2
                  go_roundw
                  case rel => exact ⟨k + 1, a2, l2, c2, hlt2, by go_num, rfl, by rw [Hst.out]; exact s2, hR.below U1, hbb.trans (U1.mono hbb.size)⟩
                  case measure => simp [intOf]; omega
              · obtain rfl : k = s.size := by omega
                rw [List.take_of_length_le (by rw [bys_length]; exact Nat.le_refl _)] at sd
                have r0 := hR.cells.1; have r1 := hR.cells.2; have f1 := hR.froz.1; have f2 := hR.froz.2; have zr := hR.lt
                go_wp2
                refine bodyPost_ret (v := .tuple #[.agg #[.bool false, .slice ad ld cd], .int .i64 0]) (by simp [results, Tryz.results30, go_sem, r0, r1]) rfl ?_
                rw [He.out, Hval.out]
                have hnn : decide (num false ((dval (bys s) : Nat) : Int) < 0) = false := by rw [num_neg _ (by omega)]; rfl
                exact ⟨ad, ld, cd, by rw [hnn], by rw [num_natAbs _ (by omega), Int.toNat_natCast]; exact sd.store2 r0 r1 _ _, (hbb.setCell (Nat.le_refl _) _).setCell (Nat.le_refl _) _⟩

set_option maxRecDepth 100000 in
set_option maxHeartbeats 4000000 in
theorem refRead_neg (s : ByteArray) (w : World) (hs : s.size ≤ 4611686018427387904) (hn : neg? s = true) :
    Calls Tryz.prog 30 #[.string s] w (RetE (readVal s) (readErr s) w) := by
  have h0 : 0 < s.size := by unfold neg? at hn; simp at hn; omega
  have h45 : (s[0].toNat : Int) = 45 := by have := neg_head s h0; rw [hn] at this; simpa using this.symm
  have hmg0 : mag s = s.extract 1 s.size := by unfold mag; rw [hn]; rfl
  obtain ⟨m, hm⟩ : ∃ m, s.extract 1 s.size = m := ⟨_, rfl⟩
  have hmg : mag s = m := hmg0.trans hm
  have hms : m.size = s.size - 1 := by rw [← hm]; simp
  obtain ⟨hlong, hstop, hnone, hzero, hgood⟩ := read_facts hmg
  have Hnone := Lib.hid hnone; have Hsz := Lib.hid (show s.size = m.size + 1 by omega)
  have Hlong := Lib.hid hlong; have Hstop := Lib.hid hstop; have Hzero := Lib.hid hzero; have Hgood := Lib.hid hgood; have Hn := Lib.hid hn; have Hmg := Lib.hid hmg; have Hm := Lib.hid hm
  clear hlong hstop hzero hgood hnone hn hmg hmg0 hm hms
  go_enter Tryz.func30, Tryz.ntmps30
  go_wp2_with fail
  rw [Hm.out]
  go_loop [5] (fun i => ∃ n : Nat, n ≤ m.size ∧ n ≤ 361 ∧ i = .int .i64 n ∧ ((bys m).take n).all dig = true) (fun i => m.size - (intOf i).toNat)
  case atStart => exact ⟨0, Nat.zero_le _, by omega, rfl, rfl⟩
  case round =>
    obtain ⟨n, hn, h361, rfl, hall⟩ := hrel
    have Hall := Lib.hid hall
    clear hall
    by_cases hlt : n < m.size
    · by_cases h360 : n ≤ 360
      · cases hd : dig m[n]
        · have Hd := Lib.hid hd
          clear hd
          rcases Nat.eq_zero_or_pos n with h0 | h0
          · subst h0
            go_wp2_with fail
            refine (isDigit_any m[0] _).mono ?_
            rintro e w1 ⟨rfl, rfl⟩
            rw [Hd.out]
            go_wp2
            refine bodyPost_ret (v := .tuple #[.agg #[.bool false, .slice none 0 0], .int .i64 12]) (by simp [results, Tryz.results30, go_sem]) rfl ?_
            exact refused (Hstop.out 0 (by omega) hlt Hd.out) (by decide) ((Below.refl w.heap.size w).alloc (Nat.le_refl _) _)
          · go_wp2_with fail
            refine (isDigit_any m[n] _).mono ?_
            rintro e w1 ⟨rfl, rfl⟩
            rw [Hd.out]
            have h3 : ¬ n = 0 := by omega
            go_wp2
            refine bodyPost_ret (v := .tuple #[.agg #[.bool false, .slice none 0 0], .int .i64 12]) (by simp [results, Tryz.results30, go_sem]) rfl ?_
            exact refused (Hstop.out n h360 hlt Hd.out) (by decide) ((Below.refl w.heap.size w).alloc (Nat.le_refl _) _)
        · have Hd := Lib.hid hd
          clear hd
          have ht := Lib.hid (bys_take m n hlt)
          go_wp2_with fail
          refine (isDigit_any m[n] _).mono ?_
          rintro e w1 ⟨rfl, rfl⟩
          rw [Hd.out]
          go_wp2
          go_round
          case rel => exact ⟨n + 1, hlt, by omega, by go_num, by rw [ht.out, List.all_append, Hall.out]; simp [Hd.out]⟩
          case measure => simp [intOf]; omega
      · obtain rfl : n = 361 := by omega
        have hbh := bys_head m (by omega)
        by_cases hz : (m[0].toNat : Int) = 48
        · have he : readErr s = 12 := by rw [Hlong.out (by omega) Hall.out, hbh, beq48, decide_eq_true hz]; rfl
          have He := Lib.hid he
          clear he hbh
          go_wp2
          refine bodyPost_ret (v := .tuple #[.agg #[.bool false, .slice none 0 0], .int .i64 12]) (by simp [results, Tryz.results30, go_sem]) rfl ?_
          exact refused He.out (by decide) ((Below.refl w.heap.size w).alloc (Nat.le_refl _) _)
        · have he : readErr s = 2 := by rw [Hlong.out (by omega) Hall.out, hbh, beq48, decide_eq_false hz]; rfl
          have He := Lib.hid he
          clear he hbh
          go_wp2
          refine bodyPost_ret (v := .tuple #[.agg #[.bool false, .slice none 0 0], .int .i64 2]) (by simp [results, Tryz.results30, go_sem]) rfl ?_
          exact refused He.out (by decide) ((Below.refl w.heap.size w).alloc (Nat.le_refl _) _)
    · obtain rfl : n = m.size := by omega
      by_cases hM : 360 < m.size
      · have hM1 : m.size = 361 := by omega
        have hal : ((bys m).take 361).all dig = true := by have := Hall.out; rwa [hM1] at this
        have hbh := bys_head m (by omega)
        have hq0 : ¬ m.size = 0 := by omega
        by_cases hz : (m[0].toNat : Int) = 48
        · have he : readErr s = 12 := by rw [Hlong.out hM hal, hbh, beq48, decide_eq_true hz]; rfl
          have He := Lib.hid he
          clear he hbh hal
          go_wp2
          refine bodyPost_ret (v := .tuple #[.agg #[.bool false, .slice none 0 0], .int .i64 12]) (by simp [results, Tryz.results30, go_sem]) rfl ?_
          exact refused He.out (by decide) ((Below.refl w.heap.size w).alloc (Nat.le_refl _) _)
        · have he : readErr s = 2 := by rw [Hlong.out hM hal, hbh, beq48, decide_eq_false hz]; rfl
          have He := Lib.hid he
          clear he hbh hal
          go_wp2
          refine bodyPost_ret (v := .tuple #[.agg #[.bool false, .slice none 0 0], .int .i64 2]) (by simp [results, Tryz.results30, go_sem]) rfl ?_
          exact refused He.out (by decide) ((Below.refl w.heap.size w).alloc (Nat.le_refl _) _)
      · rcases Nat.eq_zero_or_pos m.size with h0_ | h0_
        · have He := Lib.hid (Hnone.out h0_)
          go_wp2
          refine bodyPost_ret (v := .tuple #[.agg #[.bool false, .slice none 0 0], .int .i64 12]) (by simp [results, Tryz.results30, go_sem]) rfl ?_
          exact refused He.out (by decide) ((Below.refl w.heap.size w).alloc (Nat.le_refl _) _)
        · have hall2 : (bys m).all dig = true := by have := Hall.out; rwa [List.take_of_length_le (by rw [bys_length]; exact Nat.le_refl _)] at this
          have Hall2 := Lib.hid hall2
          clear hall2
          have hbh := Lib.hid (bys_head m (by omega))
          have hq0 : ¬ m.size = 0 := by omega
          by_cases hz : (m[0].toNat : Int) = 48
          · by_cases h1 : 1 < m.size
            · have he : readErr s = 12 := Hzero.out (by omega) (by omega) Hall2.out (by rw [hbh.out, beq48, decide_eq_true hz]) (by intro e; have := congrArg List.length e; rw [Go.Lib.toList_data] at this; simp at this; have h3 := Hsz.out; omega)
              have He := Lib.hid he
              clear he
              go_wp2
              refine bodyPost_ret (v := .tuple #[.agg #[.bool false, .slice none 0 0], .int .i64 12]) (by simp [results, Tryz.results30, go_sem]) rfl ?_
              exact refused He.out (by decide) ((Below.refl w.heap.size w).alloc (Nat.le_refl _) _)
            · have he : readErr s = 12 := Hzero.out (by omega) (by omega) Hall2.out (by rw [hbh.out, beq48, decide_eq_true hz]) (by intro e; have := congrArg List.length e; rw [Go.Lib.toList_data] at this; simp at this; have h3 := Hsz.out; omega)
              have He := Lib.hid he
              have hm0 : m = ⟨#[48]⟩ := zero_text (by omega) hz
              clear he
              go_wp2
              refine bodyPost_ret (v := .tuple #[.agg #[.bool false, .slice none 0 0], .int .i64 12]) (by simp [results, Tryz.results30, go_sem]) rfl ?_
              exact refused He.out (by decide) ((Below.refl w.heap.size w).alloc (Nat.le_refl _) _)
          · have hzb : ((m[0].toNat : Int) == 48) = false := by simpa using hz
            rcases Nat.lt_or_ge 1 m.size with h1 | h1
            · skip
              have He := Lib.hid (Hgood.out (by omega) (by omega) Hall2.out (.inl (by rw [hbh.out, beq48, decide_eq_false hz])))
              have Hval : Hid (readVal s = num true ((dval (bys m) : Nat) : Int)) := Lib.hid (by unfold readVal; rw [if_pos He.out, Hn.out, Hmg.out])
              have Hpos := Lib.hid (lead_pos (l := bys m) (by intro e; have := congrArg List.length e; rw [bys_length, List.length_nil] at this; omega) Hall2.out (by rw [hbh.out, beq48, decide_eq_false hz]))
              have hm0 : (m.toList == [48]) = false := by rw [Go.Lib.toList_data, beq_eq_false_iff_ne]; intro e; apply hz; have h5 := hbh.out; unfold bys at h5; rw [e] at h5; have h6 : m[0] = 48 := h5.symm; rw [h6]; rfl
              go_wp2_with fail
              go_loopw [6, 7] (fun d i wr => ∃ (k : Nat) (ad : Option Addr) (ld cd : Nat), k ≤ m.size ∧ i = .int .i64 k ∧ d = .slice ad ld cd ∧ Sl wr ad ld cd (parts (dval ((bys m).take k))) ∧ BoxI wr w.heap.size false none 0 0 ∧ Below w.heap.size w wr) (fun _ i _ => m.size - (intOf i).toNat)
              case atStart => exact ⟨0, none, 0, 0, Nat.zero_le _, rfl, rfl, by show Sl _ none 0 0 (parts (dval [])); rw [show dval [] = 0 from rfl, parts_zero]; exact Sl.nil _, BoxI.new w w.heap.size rfl false none 0 0, ((Below.refl w.heap.size w).alloc (Nat.le_refl _) _)⟩
              case round =>
                obtain ⟨k, ad, ld, cd, hk, rfl, rfl, sd, hR, hbb⟩ := hrel
                by_cases hlt2 : k < m.size
                · have hkI : (k : Int) < (m.size : Int) := by omega
                  have hdl := dval_lt ((bys m).take k) (List.all_eq_true.2 fun c hc => List.all_eq_true.1 Hall2.out c (List.mem_of_mem_take hc))
                  rw [List.length_take, bys_length, Nat.min_eq_left hk] at hdl
                  have hdm := ten_le (show k < 360 by omega)
                  obtain ⟨g0, g1⟩ := dig_byte Hall2.out k hlt2
                  have hst : dval ((bys m).take (k + 1)) = dval ((bys m).take k) * 10 + (m[k].toNat - 48) := by rw [bys_take _ _ hlt2, dval_snoc]
                  generalize dval ((bys m).take k) = D at *
                  have hD10 : D * 10 < 1000000000 ^ 40 := by omega
                  have hld := sd.digits_le (show D < 1000000000 ^ 40 by omega)
                  have HD10 := Lib.hid hD10
                  clear hD10 hdl hdm
                  obtain ⟨c, hc⟩ : ∃ c, m[k].toNat = c := ⟨_, rfl⟩
                  obtain ⟨x, hx⟩ : ∃ x : Nat, c - 48 = x := ⟨_, rfl⟩
                  rw [hc, hx] at hst
                  have Hst := Lib.hid hst
                  have HM := readQ_mono D x k c m ad ld cd
                  have hx9 : x ≤ 9 := by omega
                  have hcx : (c : Int) - 48 = (x : Int) := by omega
                  have hu8 : IntKind.u8.wrap (x : Int) = (x : Int) := by simp [IntKind.wrap, IntKind.signed, IntKind.bits]; omega
                  clear hst
                  go_upto_region 15 with (fail)
                  refine region_kept_at 12 [some 73, some 74, some 75, some 76, some 77, some 78, some 79, some 80, some 81, some 82, some 83, some 6] (fun U => [U 0, U 1, U 2, U 3, U 4, U 5, U 6, U 7, U 8, U 9, U 10, U 11]) (fun L U w' => Upto wr (readQ D x k c m ad ld cd) L U w' ∧ (L 11 = false → U 11 = .slice ad ld cd) ∧ (L 11 = true → L 0 = true)) rfl rfl (fun _ => rfl) rfl (by kernel_rfl) (by kernel_rfl) (by kernel_rfl) ⟨Upto.start _ _ _, fun _ => rfl, fun h => by cases h⟩ ?step ?fin
                  case step =>
                    refine ⟨?_, ?_, ?_, ?_, ?_, ?_, ?_, ?_, ?_, ?_, ?_, ?_, trivial⟩
                    · intro L U w' a hG hLi hmet hb ho K hK
                      obtain ⟨hF, h6, h7⟩ := hG
                      have U1 := hF.1
                      have n11 : L 11 = false := by cases h : L 11 with | false => rfl | true => exact absurd ((h7 h).symm.trans hLi) (by decide)
                      have s6 : a.tmps.getD 6 undef = .slice ad ld cd := (hb 11 6 rfl).trans (h6 n11)
                      have r6 := getD_r s6
                      clear hb ho hmet
                      rw [if_pos (by rfl)]
                      go_simp
                      exact hK.out (.slice ad ld cd) w' ⟨hF.same HM 0 rfl rfl, h6, fun _ => rfl⟩
                    · intro L U w' a hG hLi hmet hb ho K hK
                      obtain ⟨hF, h6, h7⟩ := hG
                      have U1 := hF.1
                      clear hb ho hmet
                      rw [if_pos (by rfl)]
                      go_simp
                      exact hK.out (.slice (some ⟨w'.heap.size, 0, none⟩) 1 1) _ ⟨hF.next HM 1 rfl ((Below.refl w'.heap.size w').alloc (Nat.le_refl _) _) (one_has w' 10), h6, h7⟩
                    · intro L U w' a hG hLi hmet hb ho K hK
                      obtain ⟨hF, h6, h7⟩ := hG
                      have U1 := hF.1
                      have s73 := (hb 0 73 rfl).trans (hF.at 0 rfl (hmet.get rfl))
                      have r73 := getD_r s73
                      obtain ⟨pa1, pl1, pc1, pe1, ps1⟩ := hF.at 1 rfl (hmet.get rfl)
                      have s74 := (hb 1 74 rfl).trans pe1
                      have r74 := getD_r s74
                      clear hb ho hmet
                      rw [if_pos (by rfl)]
                      go_simp
                      go_at_call 91
                      (with_reducible refine (refTimes_any ad ld cd (parts D) pa1 pl1 pc1 [10] _ (sd.below U1) ps1 (parts_dig _) dig_ten hld (by have := ps1.length; simp at this; omega)).mono ?_)
                      rintro e_ wq ⟨ra, rl, rc, rfl, rs, bq⟩
                      rw [val_parts, show ((D : Int) * val [10]).toNat = D * 10 by simp [val]; omega] at rs
                      exact hK.out (.slice ra rl rc) wq ⟨hF.next HM 2 rfl bq ⟨_, _, _, rfl, rs⟩, h6, h7⟩
                    · intro L U w' a hG hLi hmet hb ho K hK
                      obtain ⟨hF, h6, h7⟩ := hG
                      have U1 := hF.1
                      have s0 : a.tmps.getD 0 undef = .string m := (ho 0 rfl).trans rfl
                      have r0 := getD_r s0
                      clear hb ho hmet
                      rw [if_pos (by rfl)]
                      go_simp
                      exact hK.out (.string m) w' ⟨hF.same HM 3 rfl rfl, h6, h7⟩
                    · intro L U w' a hG hLi hmet hb ho K hK
                      obtain ⟨hF, h6, h7⟩ := hG
                      have U1 := hF.1
                      have s7 : a.tmps.getD 7 undef = .int .i64 k := (ho 7 rfl).trans rfl
                      have r7 := getD_r s7
                      clear hb ho hmet
                      rw [if_pos (by rfl)]
                      go_simp
                      exact hK.out (.int .i64 k) w' ⟨hF.same HM 4 rfl rfl, h6, h7⟩
                    · intro L U w' a hG hLi hmet hb ho K hK
                      obtain ⟨hF, h6, h7⟩ := hG
                      have U1 := hF.1
                      have s76 := (hb 3 76 rfl).trans (hF.at 3 rfl (hmet.get rfl))
                      have r76 := getD_r s76
                      have s77 := (hb 4 77 rfl).trans (hF.at 4 rfl (hmet.get rfl))
                      have r77 := getD_r s77
                      clear hb ho hmet
                      rw [if_pos (by rfl)]
                      go_simp
                      try rw [hc]
                      exact hK.out (.int .u8 c) w' ⟨hF.same HM 5 rfl rfl, h6, h7⟩
                    · intro L U w' a hG hLi hmet hb ho K hK
                      obtain ⟨hF, h6, h7⟩ := hG
                      have U1 := hF.1
                      have s78 := (hb 5 78 rfl).trans (hF.at 5 rfl (hmet.get rfl))
                      have r78 := getD_r s78
                      clear hb ho hmet
                      rw [if_pos (by rfl)]
                      go_simp
                      try rw [hcx]
                      exact hK.out (.int .u8 x) w' ⟨hF.same HM 6 rfl rfl, h6, h7⟩
                    · intro L U w' a hG hLi hmet hb ho K hK
                      obtain ⟨hF, h6, h7⟩ := hG
                      have U1 := hF.1
                      have s79 := (hb 6 79 rfl).trans (hF.at 6 rfl (hmet.get rfl))
                      have r79 := getD_r s79
                      clear hb ho hmet
                      rw [if_pos (by rfl)]
                      go_simp
                      try rw [IntWalk.i64_in (x : Int) (by omega)]
                      exact hK.out (.int .i64 x) w' ⟨hF.same HM 7 rfl rfl, h6, h7⟩
                    · intro L U w' a hG hLi hmet hb ho K hK
                      obtain ⟨hF, h6, h7⟩ := hG
                      have U1 := hF.1
                      have s80 := (hb 7 80 rfl).trans (hF.at 7 rfl (hmet.get rfl))
                      have r80 := getD_r s80
                      clear hb ho hmet
                      rw [if_pos (by rfl)]
                      go_simp
                      exact hK.out (.slice (some ⟨w'.heap.size, 0, none⟩) 1 1) _ ⟨hF.next HM 8 rfl ((Below.refl w'.heap.size w').alloc (Nat.le_refl _) _) (one_has w' x), h6, h7⟩
                    · intro L U w' a hG hLi hmet hb ho K hK
                      obtain ⟨hF, h6, h7⟩ := hG
                      have U1 := hF.1
                      obtain ⟨pa8, pl8, pc8, pe8, ps8⟩ := hF.at 8 rfl (hmet.get rfl)
                      have s81 := (hb 8 81 rfl).trans pe8
                      have r81 := getD_r s81
                      clear hb ho hmet
                      rw [if_pos (by rfl)]
                      go_simp
                      go_at_call 92
                      (with_reducible refine (shorn_any _ _ _ _ _ ps8 (by have := ps8.length; simp at this; omega)).mono ?_)
                      rintro e_ wq ⟨ra, rl, rc, rfl, rs, bq⟩
                      rw [trim_one x (by omega)] at rs
                      exact hK.out (.slice ra rl rc) wq ⟨hF.next HM 9 rfl bq ⟨_, _, _, rfl, rs⟩, h6, h7⟩
                    · intro L U w' a hG hLi hmet hb ho K hK
                      obtain ⟨hF, h6, h7⟩ := hG
                      have U1 := hF.1
                      obtain ⟨pa2, pl2, pc2, pe2, ps2⟩ := hF.at 2 rfl (hmet.get rfl)
                      have s75 := (hb 2 75 rfl).trans pe2
                      have r75 := getD_r s75
                      obtain ⟨pa9, pl9, pc9, pe9, ps9⟩ := hF.at 9 rfl (hmet.get rfl)
                      have s82 := (hb 9 82 rfl).trans pe9
                      have r82 := getD_r s82
                      clear hb ho hmet
                      rw [if_pos (by rfl)]
                      go_simp
                      go_at_call 90
                      (with_reducible refine (refSum_any _ _ _ _ _ _ _ _ _ ps2 ps9 (parts_dig _) (parts_dig _) (ps2.digits_le HD10.out) (ps9.digits_le (Nat.lt_of_le_of_lt hx9 (by decide +kernel)))).mono ?_)
                      rintro e_ wq ⟨ra, rl, rc, rfl, rs, bq⟩
                      rw [val_parts, val_parts, show (((D * 10 : Nat) : Int) + (x : Int)).toNat = D * 10 + x by omega] at rs
                      exact hK.out (.slice ra rl rc) wq ⟨hF.next HM 10 rfl bq ⟨_, _, _, rfl, rs⟩, h6, h7⟩
                    · intro L U w' a hG hLi hmet hb ho K hK
                      obtain ⟨hF, h6, h7⟩ := hG
                      have U1 := hF.1
                      have l0 : L 0 = true := hmet.get rfl
                      obtain ⟨pa10, pl10, pc10, pe10, ps10⟩ := hF.at 10 rfl (hmet.get rfl)
                      have s83 := (hb 10 83 rfl).trans pe10
                      have r83 := getD_r s83
                      clear hb ho hmet
                      rw [if_pos (by rfl)]
                      go_simp
                      exact hK.out (.slice pa10 pl10 pc10) w' ⟨hF.same HM 11 rfl ⟨_, _, _, rfl, ps10⟩, fun h => (by cases h), fun _ => l0⟩
                  case fin =>
                    intro L U wx hG hall
                    obtain ⟨hF, _⟩ := hG
                    obtain ⟨a2, l2, c2, e2, s2⟩ := hF.at 11 rfl (hall 11 (by decide))
                    have U1 := hF.1
                    clear hF hall HM
                    simp only [fillA, Act.put, List.setIfInBounds_toArray, List.set_cons_zero, List.set_cons_succ]
                    rw [e2]
                    go_wp2
                    go_roundw
                    case rel => exact ⟨k + 1, a2, l2, c2, hlt2, by go_num, rfl, by rw [Hst.out]; exact s2, hR.below U1, hbb.trans (U1.mono hbb.size)⟩
                    case measure => simp [intOf]; omega
                · obtain rfl : k = m.size := by omega
                  rw [List.take_of_length_le (by rw [bys_length]; exact Nat.le_refl _)] at sd
                  have r0 := hR.cells.1; have r1 := hR.cells.2; have f1 := hR.froz.1; have f2 := hR.froz.2; have zr := hR.lt
                  go_wp2
                  refine bodyPost_ret (v := .tuple #[.agg #[.bool true, .slice ad ld cd], .int .i64 0]) (by simp [results, Tryz.results30, go_sem, r0, r1]) rfl ?_
                  rw [He.out, Hval.out]
                  have hnn : decide (num true ((dval (bys m) : Nat) : Int) < 0) = true := by rw [num_neg _ (by omega)]; rw [decide_eq_true (by have := Hpos.out; omega)]; rfl
                  exact ⟨ad, ld, cd, by rw [hnn], by rw [num_natAbs _ (by omega), Int.toNat_natCast]; exact sd.store2 r0 r1 _ _, (hbb.setCell (Nat.le_refl _) _).setCell (Nat.le_refl _) _⟩
            · skip
              have He := Lib.hid (Hgood.out (by omega) (by omega) Hall2.out (.inl (by rw [hbh.out, beq48, decide_eq_false hz])))
              have Hval : Hid (readVal s = num true ((dval (bys m) : Nat) : Int)) := Lib.hid (by unfold readVal; rw [if_pos He.out, Hn.out, Hmg.out])
              have Hpos := Lib.hid (lead_pos (l := bys m) (by intro e; have := congrArg List.length e; rw [bys_length, List.length_nil] at this; omega) Hall2.out (by rw [hbh.out, beq48, decide_eq_false hz]))
              have hm0 : (m.toList == [48]) = false := by rw [Go.Lib.toList_data, beq_eq_false_iff_ne]; intro e; apply hz; have h5 := hbh.out; unfold bys at h5; rw [e] at h5; have h6 : m[0] = 48 := h5.symm; rw [h6]; rfl
              go_wp2_with fail
              go_loopw [6, 7] (fun d i wr => ∃ (k : Nat) (ad : Option Addr) (ld cd : Nat), k ≤ m.size ∧ i = .int .i64 k ∧ d = .slice ad ld cd ∧ Sl wr ad ld cd (parts (dval ((bys m).take k))) ∧ BoxI wr w.heap.size false none 0 0 ∧ Below w.heap.size w wr) (fun _ i _ => m.size - (intOf i).toNat)
              case atStart => exact ⟨0, none, 0, 0, Nat.zero_le _, rfl, rfl, by show Sl _ none 0 0 (parts (dval [])); rw [show dval [] = 0 from rfl, parts_zero]; exact Sl.nil _, BoxI.new w w.heap.size rfl false none 0 0, ((Below.refl w.heap.size w).alloc (Nat.le_refl _) _)⟩
              case round =>
                obtain ⟨k, ad, ld, cd, hk, rfl, rfl, sd, hR, hbb⟩ := hrel
                by_cases hlt2 : k < m.size
                · have hkI : (k : Int) < (m.size : Int) := by omega
                  have hdl := dval_lt ((bys m).take k) (List.all_eq_true.2 fun c hc => List.all_eq_true.1 Hall2.out c (List.mem_of_mem_take hc))
                  rw [List.length_take, bys_length, Nat.min_eq_left hk] at hdl
                  have hdm := ten_le (show k < 360 by omega)
                  obtain ⟨g0, g1⟩ := dig_byte Hall2.out k hlt2
                  have hst : dval ((bys m).take (k + 1)) = dval ((bys m).take k) * 10 + (m[k].toNat - 48) := by rw [bys_take _ _ hlt2, dval_snoc]
                  generalize dval ((bys m).take k) = D at *
                  have hD10 : D * 10 < 1000000000 ^ 40 := by omega
                  have hld := sd.digits_le (show D < 1000000000 ^ 40 by omega)
                  have HD10 := Lib.hid hD10
                  clear hD10 hdl hdm
                  obtain ⟨c, hc⟩ : ∃ c, m[k].toNat = c := ⟨_, rfl⟩
                  obtain ⟨x, hx⟩ : ∃ x : Nat, c - 48 = x := ⟨_, rfl⟩
                  rw [hc, hx] at hst
                  have Hst := Lib.hid hst
                  have HM := readQ_mono D x k c m ad ld cd
                  have hx9 : x ≤ 9 := by omega
                  have hcx : (c : Int) - 48 = (x : Int) := by omega
                  have hu8 : IntKind.u8.wrap (x : Int) = (x : Int) := by simp [IntKind.wrap, IntKind.signed, IntKind.bits]; omega
                  clear hst
                  go_upto_region 15 with (fail)
                  refine region_kept_at 12 [some 73, some 74, some 75, some 76, some 77, some 78, some 79, some 80, some 81, some 82, some 83, some 6] (fun U => [U 0, U 1, U 2, U 3, U 4, U 5, U 6, U 7, U 8, U 9, U 10, U 11]) (fun L U w' => Upto wr (readQ D x k c m ad ld cd) L U w' ∧ (L 11 = false → U 11 = .slice ad ld cd) ∧ (L 11 = true → L 0 = true)) rfl rfl (fun _ => rfl) rfl (by kernel_rfl) (by kernel_rfl) (by kernel_rfl) ⟨Upto.start _ _ _, fun _ => rfl, fun h => by cases h⟩ ?step ?fin
                  case step =>
                    refine ⟨?_, ?_, ?_, ?_, ?_, ?_, ?_, ?_, ?_, ?_, ?_, ?_, trivial⟩
                    · intro L U w' a hG hLi hmet hb ho K hK
                      obtain ⟨hF, h6, h7⟩ := hG
                      have U1 := hF.1
                      have n11 : L 11 = false := by cases h : L 11 with | false => rfl | true => exact absurd ((h7 h).symm.trans hLi) (by decide)
                      have s6 : a.tmps.getD 6 undef = .slice ad ld cd := (hb 11 6 rfl).trans (h6 n11)
                      have r6 := getD_r s6
                      clear hb ho hmet
                      rw [if_pos (by rfl)]
                      go_simp
                      exact hK.out (.slice ad ld cd) w' ⟨hF.same HM 0 rfl rfl, h6, fun _ => rfl⟩
                    · intro L U w' a hG hLi hmet hb ho K hK
                      obtain ⟨hF, h6, h7⟩ := hG
                      have U1 := hF.1
                      clear hb ho hmet
                      rw [if_pos (by rfl)]
                      go_simp
                      exact hK.out (.slice (some ⟨w'.heap.size, 0, none⟩) 1 1) _ ⟨hF.next HM 1 rfl ((Below.refl w'.heap.size w').alloc (Nat.le_refl _) _) (one_has w' 10), h6, h7⟩
                    · intro L U w' a hG hLi hmet hb ho K hK
                      obtain ⟨hF, h6, h7⟩ := hG
                      have U1 := hF.1
                      have s73 := (hb 0 73 rfl).trans (hF.at 0 rfl (hmet.get rfl))
                      have r73 := getD_r s73
                      obtain ⟨pa1, pl1, pc1, pe1, ps1⟩ := hF.at 1 rfl (hmet.get rfl)
                      have s74 := (hb 1 74 rfl).trans pe1
                      have r74 := getD_r s74
                      clear hb ho hmet
                      rw [if_pos (by rfl)]
                      go_simp
                      go_at_call 91
                      (with_reducible refine (refTimes_any ad ld cd (parts D) pa1 pl1 pc1 [10] _ (sd.below U1) ps1 (parts_dig _) dig_ten hld (by have := ps1.length; simp at this; omega)).mono ?_)
                      rintro e_ wq ⟨ra, rl, rc, rfl, rs, bq⟩
                      rw [val_parts, show ((D : Int) * val [10]).toNat = D * 10 by simp [val]; omega] at rs
                      exact hK.out (.slice ra rl rc) wq ⟨hF.next HM 2 rfl bq ⟨_, _, _, rfl, rs⟩, h6, h7⟩
                    · intro L U w' a hG hLi hmet hb ho K hK
                      obtain ⟨hF, h6, h7⟩ := hG
                      have U1 := hF.1
                      have s0 : a.tmps.getD 0 undef = .string m := (ho 0 rfl).trans rfl
                      have r0 := getD_r s0
                      clear hb ho hmet
                      rw [if_pos (by rfl)]
                      go_simp
                      exact hK.out (.string m) w' ⟨hF.same HM 3 rfl rfl, h6, h7⟩
                    · intro L U w' a hG hLi hmet hb ho K hK
                      obtain ⟨hF, h6, h7⟩ := hG
                      have U1 := hF.1
                      have s7 : a.tmps.getD 7 undef = .int .i64 k := (ho 7 rfl).trans rfl
                      have r7 := getD_r s7
                      clear hb ho hmet
                      rw [if_pos (by rfl)]
                      go_simp
                      exact hK.out (.int .i64 k) w' ⟨hF.same HM 4 rfl rfl, h6, h7⟩
                    · intro L U w' a hG hLi hmet hb ho K hK
                      obtain ⟨hF, h6, h7⟩ := hG
                      have U1 := hF.1
                      have s76 := (hb 3 76 rfl).trans (hF.at 3 rfl (hmet.get rfl))
                      have r76 := getD_r s76
                      have s77 := (hb 4 77 rfl).trans (hF.at 4 rfl (hmet.get rfl))
                      have r77 := getD_r s77
                      clear hb ho hmet
                      rw [if_pos (by rfl)]
                      go_simp
                      try rw [hc]
                      exact hK.out (.int .u8 c) w' ⟨hF.same HM 5 rfl rfl, h6, h7⟩
                    · intro L U w' a hG hLi hmet hb ho K hK
                      obtain ⟨hF, h6, h7⟩ := hG
                      have U1 := hF.1
                      have s78 := (hb 5 78 rfl).trans (hF.at 5 rfl (hmet.get rfl))
                      have r78 := getD_r s78
                      clear hb ho hmet
                      rw [if_pos (by rfl)]
                      go_simp
                      try rw [hcx]
                      exact hK.out (.int .u8 x) w' ⟨hF.same HM 6 rfl rfl, h6, h7⟩
                    · intro L U w' a hG hLi hmet hb ho K hK
                      obtain ⟨hF, h6, h7⟩ := hG
                      have U1 := hF.1
                      have s79 := (hb 6 79 rfl).trans (hF.at 6 rfl (hmet.get rfl))
                      have r79 := getD_r s79
                      clear hb ho hmet
                      rw [if_pos (by rfl)]
                      go_simp
                      try rw [IntWalk.i64_in (x : Int) (by omega)]
                      exact hK.out (.int .i64 x) w' ⟨hF.same HM 7 rfl rfl, h6, h7⟩
                    · intro L U w' a hG hLi hmet hb ho K hK
                      obtain ⟨hF, h6, h7⟩ := hG
                      have U1 := hF.1
                      have s80 := (hb 7 80 rfl).trans (hF.at 7 rfl (hmet.get rfl))
                      have r80 := getD_r s80
                      clear hb ho hmet
                      rw [if_pos (by rfl)]
                      go_simp
                      exact hK.out (.slice (some ⟨w'.heap.size, 0, none⟩) 1 1) _ ⟨hF.next HM 8 rfl ((Below.refl w'.heap.size w').alloc (Nat.le_refl _) _) (one_has w' x), h6, h7⟩
                    · intro L U w' a hG hLi hmet hb ho K hK
                      obtain ⟨hF, h6, h7⟩ := hG
                      have U1 := hF.1
                      obtain ⟨pa8, pl8, pc8, pe8, ps8⟩ := hF.at 8 rfl (hmet.get rfl)
                      have s81 := (hb 8 81 rfl).trans pe8
                      have r81 := getD_r s81
                      clear hb ho hmet
                      rw [if_pos (by rfl)]
                      go_simp
                      go_at_call 92
                      (with_reducible refine (shorn_any _ _ _ _ _ ps8 (by have := ps8.length; simp at this; omega)).mono ?_)
                      rintro e_ wq ⟨ra, rl, rc, rfl, rs, bq⟩
                      rw [trim_one x (by omega)] at rs
                      exact hK.out (.slice ra rl rc) wq ⟨hF.next HM 9 rfl bq ⟨_, _, _, rfl, rs⟩, h6, h7⟩
                    · intro L U w' a hG hLi hmet hb ho K hK
                      obtain ⟨hF, h6, h7⟩ := hG
                      have U1 := hF.1
                      obtain ⟨pa2, pl2, pc2, pe2, ps2⟩ := hF.at 2 rfl (hmet.get rfl)
                      have s75 := (hb 2 75 rfl).trans pe2
                      have r75 := getD_r s75
                      obtain ⟨pa9, pl9, pc9, pe9, ps9⟩ := hF.at 9 rfl (hmet.get rfl)
                      have s82 := (hb 9 82 rfl).trans pe9
                      have r82 := getD_r s82
                      clear hb ho hmet
                      rw [if_pos (by rfl)]
                      go_simp
                      go_at_call 90
                      (with_reducible refine (refSum_any _ _ _ _ _ _ _ _ _ ps2 ps9 (parts_dig _) (parts_dig _) (ps2.digits_le HD10.out) (ps9.digits_le (Nat.lt_of_le_of_lt hx9 (by decide +kernel)))).mono ?_)
                      rintro e_ wq ⟨ra, rl, rc, rfl, rs, bq⟩
                      rw [val_parts, val_parts, show (((D * 10 : Nat) : Int) + (x : Int)).toNat = D * 10 + x by omega] at rs
                      exact hK.out (.slice ra rl rc) wq ⟨hF.next HM 10 rfl bq ⟨_, _, _, rfl, rs⟩, h6, h7⟩
                    · intro L U w' a hG hLi hmet hb ho K hK
                      obtain ⟨hF, h6, h7⟩ := hG
                      have U1 := hF.1
                      have l0 : L 0 = true := hmet.get rfl
                      obtain ⟨pa10, pl10, pc10, pe10, ps10⟩ := hF.at 10 rfl (hmet.get rfl)
                      have s83 := (hb 10 83 rfl).trans pe10
                      have r83 := getD_r s83
                      clear hb ho hmet
                      rw [if_pos (by rfl)]
                      go_simp
                      exact hK.out (.slice pa10 pl10 pc10) w' ⟨hF.same HM 11 rfl ⟨_, _, _, rfl, ps10⟩, fun h => (by cases h), fun _ => l0⟩
                  case fin =>
                    intro L U wx hG hall
                    obtain ⟨hF, _⟩ := hG
                    obtain ⟨a2, l2, c2, e2, s2⟩ := hF.at 11 rfl (hall 11 (by decide))
                    have U1 := hF.1
                    clear hF hall HM
                    simp only [fillA, Act.put, List.setIfInBounds_toArray, List.set_cons_zero, List.set_cons_succ]
                    rw [e2]
                    go_wp2
                    go_roundw
                    case rel => exact ⟨k + 1, a2, l2, c2, hlt2, by go_num, rfl, by rw [Hst.out]; exact s2, hR.below U1, hbb.trans (U1.mono hbb.size)⟩
                    case measure => simp [intOf]; omega
                · obtain rfl : k = m.size := by omega
                  rw [List.take_of_length_le (by rw [bys_length]; exact Nat.le_refl _)] at sd
                  have r0 := hR.cells.1; have r1 := hR.cells.2; have f1 := hR.froz.1; have f2 := hR.froz.2; have zr := hR.lt
                  go_wp2
                  refine bodyPost_ret (v := .tuple #[.agg #[.bool true, .slice ad ld cd], .int .i64 0]) (by simp [results, Tryz.results30, go_sem, r0, r1]) rfl ?_
                  rw [He.out, Hval.out]
                  have hnn : decide (num true ((dval (bys m) : Nat) : Int) < 0) = true := by rw [num_neg _ (by omega)]; rw [decide_eq_true (by have := Hpos.out; omega)]; rfl
                  exact ⟨ad, ld, cd, by rw [hnn], by rw [num_natAbs _ (by omega), Int.toNat_natCast]; exact sd.store2 r0 r1 _ _, (hbb.setCell (Nat.le_refl _) _).setCell (Nat.le_refl _) _⟩

set_option maxRecDepth 100000 in
set_option maxHeartbeats 4000000 in
theorem refRead_nil (s : ByteArray) (w : World) (hs : s.size ≤ 4611686018427387904) (h0 : s.size = 0) :
    Calls Tryz.prog 30 #[.string s] w (RetE (readVal s) (readErr s) w) := by
  have hs0 : s = ⟨#[]⟩ := by
    apply ByteArray.ext
    exact Array.eq_empty_of_size_eq_zero h0
  subst hs0
  have He := Lib.hid (show readErr (⟨#[]⟩ : ByteArray) = 12 by decide +kernel)
  go_enter Tryz.func30, Tryz.ntmps30
  go_wp2_with fail
  go_loop [5] (fun i => i = .int .i64 0) (fun i => 0)
  case atStart => rfl
  case round =>
    subst hrel
    go_wp2
    refine bodyPost_ret (v := .tuple #[.agg #[.bool false, .slice none 0 0], .int .i64 12]) (by simp [results, Tryz.results30, go_sem]) rfl ?_
    exact refused He.out (by decide) ((Below.refl w.heap.size w).alloc (Nat.le_refl _) _)
theorem refRead_any (s : ByteArray) (w : World) (hs : s.size ≤ 4611686018427387904) :
    Calls Tryz.prog 30 #[.string s] w (RetE (readVal s) (readErr s) w) := by
  cases hn : neg? s
  · by_cases h0 : s.size = 0
    · exact refRead_nil s w hs h0
    · exact refRead_pos s w hs (by omega) hn
  · exact refRead_neg s w hs hn
end Go.Proofs.YtfjnplhhgdfepaaGreatDoor

/- The program's and the reference's forms of integers: one outcome for both, whatever the input. -/
namespace Go.Proofs.YtfjnplhhgdfepaaGreatDoor
open Go.RowKit

set_option maxRecDepth 100000 in
set_option maxHeartbeats 1000000 in
theorem refCheck_any (neg : Bool) (ao : Option Addr) (len cap : Nat) (xs : List Int) (w : World) (hs : Sl w ao len cap xs) :
    Calls Tryz.prog 21 #[.agg #[.bool neg, .slice ao len cap]] w (RetB (errOf (okInt neg xs)) w) := by
  have hI := fun w h => is_any neg ao len cap xs w h
  generalize okInt neg xs = ok at *
  have HI := Lib.hid hI
  clear hI
  have hb0 := (Below.refl w.heap.size w).alloc (Nat.le_refl _) (.cells #[.bool neg, .slice ao len cap] 24)
  cases ok
  · rw [show errOf false = 10 from rfl]
    go_enter Tryz.func21, Tryz.ntmps21
    go_wp2_with fail
    refine (HI.out _ (hs.alloc _)).mono ?_
    rintro e w1 ⟨rfl, b1⟩
    go_wp2
    go_ret
    exact ⟨rfl, hb0.trans (b1.mono hb0.size)⟩
  · rw [show errOf true = 0 from rfl]
    go_enter Tryz.func21, Tryz.ntmps21
    go_wp2_with fail
    refine (HI.out _ (hs.alloc _)).mono ?_
    rintro e w1 ⟨rfl, b1⟩
    go_wp2
    go_ret
    exact ⟨rfl, hb0.trans (b1.mono hb0.size)⟩
theorem both_ToInt (n1 : Bool) (ax : Option Addr) (la ca : Nat) (xs : List Int) : ∃ v er : Int,
    (∀ w, Sl w ax la ca xs → Calls Tryz.prog 18 #[.agg #[.bool n1, .slice ax la ca]] w (RetII v er w)) ∧ (∀ w, Sl w ax la ca xs → Calls Tryz.prog 19 #[.agg #[.bool n1, .slice ax la ca]] w (RetII v er w)) := by
  cases hok : okInt n1 xs
  · exact ⟨0, 10, fun w h => ToInt_bad n1 ax la ca xs w h hok, fun w h => refToInt_bad n1 ax la ca xs w h hok⟩
  · obtain ⟨z, hl, rfl, rfl⟩ := (okInt_iff _ _).1 hok
    by_cases hz : z < -9223372036854775808 ∨ 9223372036854775807 < z
    · exact ⟨0, 2, fun w h => ToInt_big z hl hz ax la ca w h, fun w h => refToInt_big z hl hz ax la ca w h⟩
    · exact ⟨z, 0, fun w h => ToInt_fits z hl (by omega) (by omega) ax la ca w h, fun w h => refToInt_fits z hl (by omega) (by omega) ax la ca w h⟩
theorem both_Text (n1 : Bool) (ax : Option Addr) (la ca : Nat) (xs : List Int) : ∃ (t : ByteArray) (er : Int),
    (∀ w, Tab w → Sl w ax la ca xs → Calls Tryz.prog 25 #[.agg #[.bool n1, .slice ax la ca]] w fun e w' => e = .returned (.tuple #[.string t, .int .i64 er]) ∧ Below w.heap.size w w') ∧
    (∀ w, Sl w ax la ca xs → Calls Tryz.prog 26 #[.agg #[.bool n1, .slice ax la ca]] w fun e w' => e = .returned (.tuple #[.string t, .int .i64 er]) ∧ Below w.heap.size w w') := by
  cases hok : okInt n1 xs
  · exact ⟨⟨#[]⟩, 10, fun w _ h => Text_bad n1 ax la ca xs w h hok, fun w h => refText_bad n1 ax la ca xs w h hok⟩
  · obtain ⟨z, hl, rfl, rfl⟩ := (okInt_iff _ _).1 hok
    refine ⟨⟨(txt z).toArray⟩, 0, fun w ht h => ?_, fun w h => refText_ok z hl ax la ca w h⟩
    by_cases h0 : z = 0
    · subst h0; exact Text_zero ax la ca w h
    · exact Text_ok z h0 hl ax la ca w h ht
theorem both_Bytes (n1 : Bool) (ax : Option Addr) (la ca : Nat) (xs : List Int) : ∃ (bs : List Int) (er : Int),
    (∀ w, Sl w ax la ca xs → Calls Tryz.prog 31 #[.agg #[.bool n1, .slice ax la ca]] w fun e w' => ∃ ao len cap, e = .returned (.tuple #[.slice ao len cap, .int .i64 er]) ∧ Sb w' ao len cap bs ∧ Below w.heap.size w w') ∧
    (∀ w, Sl w ax la ca xs → Calls Tryz.prog 32 #[.agg #[.bool n1, .slice ax la ca]] w fun e w' => ∃ ao len cap, e = .returned (.tuple #[.slice ao len cap, .int .i64 er]) ∧ Sb w' ao len cap bs ∧ Below w.heap.size w w') := by
  cases hok : okInt n1 xs
  · exact ⟨[], 10, fun w h => (Bytes_bad n1 ax la ca xs w h hok).mono fun _ _ ⟨h1, h2⟩ => ⟨_, _, _, h1, Sb.nil _, h2⟩, fun w h => (refBytes_bad n1 ax la ca xs w h hok).mono fun _ _ ⟨h1, h2⟩ => ⟨_, _, _, h1, Sb.nil _, h2⟩⟩
  · obtain ⟨z, hl, rfl, rfl⟩ := (okInt_iff _ _).1 hok
    exact ⟨bytesOf z, 0, fun w h => Bytes_ok z hl ax la ca w h, fun w h => refBytes_ok z hl ax la ca w h⟩
theorem both_Read (s : ByteArray) (hs : s.size ≤ 4611686018427387904) : ∃ z n zs er, Num z n zs ∧
    (∀ w, Calls Tryz.prog 29 #[.string s] w (RetPE n zs er w)) ∧ (∀ w, Calls Tryz.prog 30 #[.string s] w (RetPE n zs er w)) :=
  ⟨readVal s, _, _, readErr s, ⟨read_lim s, rfl, rfl⟩, fun w => Read_any s w (by omega), fun w => refRead_any s w hs⟩
theorem RetNo.pe {w : World} {e : Ending} {w' : World} (h : RetNo w e w') : RetPE false [] 12 w e w' := ⟨none, 0, 0, h.1, Sl.nil _, h.2⟩
theorem num_nil : Num 0 false [] := ⟨Lim.zero, by simp, by rw [show (0 : Int).natAbs = 0 from rfl, parts_zero]⟩
theorem both_FromBytes {len : Nat} {bs : List Int} (hl : bs.length = len) (hby : ∀ j, 0 ≤ bs.getD j 0 ∧ bs.getD j 0 ≤ 255) : ∃ z n zs er, Num z n zs ∧
    (∀ ao cap w, Sb w ao len cap bs → Calls Tryz.prog 34 #[.slice ao len cap] w (RetPE n zs er w)) ∧ (∀ ao cap w, Sb w ao len cap bs → Calls Tryz.prog 35 #[.slice ao len cap] w (RetPE n zs er w)) := by
  by_cases h0 : len = 0
  · subst h0
    exact ⟨0, _, _, 12, num_nil, fun ao cap w h => (fb_empty ao cap bs w h).mono fun _ _ h => h.pe, fun ao cap w h => (rfb_empty ao cap bs w h).mono fun _ _ h => h.pe⟩
  · obtain ⟨c, hc⟩ : ∃ c, bs.getD 0 0 = c := ⟨_, rfl⟩
    obtain ⟨hc0, hc1⟩ := hby 0
    rw [hc] at hc0 hc1
    by_cases hn : (len : Int) = 1 + 4 * (c % 128)
    · obtain ⟨n, hcn⟩ : ∃ n : Nat, c % 128 = n := ⟨(c % 128).toNat, by omega⟩
      cases hok : okInt (decide (128 ≤ c)) (qparts bs n n)
      · exact ⟨0, _, _, 12, num_nil, fun ao cap w h => (fb_parts ao len cap bs w h n (by omega) (by omega) c hc hc0 hcn hby false hok).mono fun _ _ h => RetNo.pe h, fun ao cap w h => (rfb_parts ao len cap bs w h n (by omega) (by omega) c hc hc0 hc1 hcn hby false hok).mono fun _ _ h => RetNo.pe h⟩
      · obtain ⟨z, hz, h1, h2⟩ := (okInt_iff _ _).1 hok
        exact ⟨z, _, _, 0, ⟨hz, h1, h2⟩, fun ao cap w h => (fb_parts ao len cap bs w h n (by omega) (by omega) c hc hc0 hcn hby true hok).mono fun _ _ h => h, fun ao cap w h => (rfb_parts ao len cap bs w h n (by omega) (by omega) c hc hc0 hc1 hcn hby true hok).mono fun _ _ h => h⟩
    · exact ⟨0, _, _, 12, num_nil, fun ao cap w h => (fb_odd ao len cap bs w h (by omega) c hc hc0 hn).mono fun _ _ h => h.pe, fun ao cap w h => (rfb_odd ao len cap bs w h (by omega) c hc hc0 hc1 hn).mono fun _ _ h => h.pe⟩
end Go.Proofs.YtfjnplhhgdfepaaGreatDoor

/- The walk of NumForms. -/
namespace Go.Proofs.YtfjnplhhgdfepaaGreatDoor
open Go.RowKit

theorem fewOne (n1 : Bool) (a1 : Option Addr) (l1 c1 : Nat) (w : World) (g : Nat) (hg : w.heap[g]? = some (.cells #[.bool n1, .slice a1 l1 c1] 24 (0, 0))) (r : Bool) (hr : (!decide (100 < l1)) = r) :
    Calls Tryz.prog 17 #[.slice (some ⟨g, 0, none⟩) 1 1] w (RetBool r w) := by
  have := few_any g [⟨n1, a1, l1, c1, []⟩] w hg (by simp)
  rw [show (List.any [(⟨n1, a1, l1, c1, []⟩ : Dat)] fun d => decide (100 < d.len)) = decide (100 < l1) by simp, hr] at this
  exact this
theorem both_FromInt (n : Int) (h0 : -9223372036854775808 ≤ n) (h1 : n ≤ 9223372036854775807) : ∃ nn xn, (∀ w, Calls Tryz.prog 23 #[.int .i64 n] w (RetP nn xn w)) ∧ (∀ w, Calls Tryz.prog 24 #[.int .i64 n] w (RetP nn xn w)) ∧
    (∀ ax la ca ay lb cb w, Sl w ax la ca xn → Sl w ay lb cb xn → Calls Tryz.prog 22 #[.agg #[.bool nn, .slice ax la ca], .agg #[.bool nn, .slice ay lb cb]] w (RetBool true w)) :=
  ⟨decide (n < 0), parts n.natAbs, fun w => from_any n w h0 h1, fun w => refFrom_any n w h0 h1, fun ax la ca ay lb cb w hx hy => by
    have h := same_any (decide (n < 0)) ax la ca (parts n.natAbs) (decide (n < 0)) ay lb cb (parts n.natAbs) w hx hy
    rwa [sameI_num, decide_eq_true rfl] at h⟩

set_option maxRecDepth 100000 in
set_option maxHeartbeats 16000000 in
theorem forms_longa (na : Bool) (aa : Option Addr) (la ca : Nat) (xa : List Int) (n : Int) (s : ByteArray) (ab : Option Addr) (lb cb : Nat) (bs : List Int) (w : World) (ht : Tab w) (sa : Sl w aa la ca xa) (sb : Sb w ab lb cb bs) (hr : (!decide (100 < la)) = false) : Calls Tryz.prog 3 #[.agg #[.bool na, .slice aa la ca], .int .i64 n, .string s, .slice ab lb cb] w (RetBool true w) := by
  have Hf := Lib.hid (fun w g hg => fewOne na aa la ca w g hg false hr)
  clear hr
  go_enter Tryz.func3, Tryz.ntmps3
  have U0 := Below.refl w.heap.size w
  go_wp2_with fail
  replace U0 := U0.alloc U0.size (.cells #[.bool na, .slice aa la ca] 24)
  replace ht := ht.alloc (.cells #[.bool na, .slice aa la ca] 24)
  replace sa := sa.alloc (.cells #[.bool na, .slice aa la ca] 24)
  replace sb := sb.alloc (.cells #[.bool na, .slice aa la ca] 24)
  have Ta := BoxI.new w (w.heap.size) (by first | rfl | simp) na aa la ca
  have cTa0 := Ta.cells.1
  have cTa1 := Ta.cells.2
  have zTa := Ta.lt
  (with_reducible refine (sane_any _ (by exact ht)).mono ?_)
  rintro e w1 ⟨rfl, b1⟩
  replace U0 := U0.trans (b1.mono U0.size)
  replace ht := ht.below b1
  replace sa := sa.below b1
  replace sb := sb.below b1
  replace Ta := Ta.below b1
  replace cTa0 := Ta.cells.1
  replace cTa1 := Ta.cells.2
  replace zTa := Ta.lt
  clear b1
  go_wp2_with fail
  replace U0 := U0.alloc U0.size (.cells #[.bool na, .slice aa la ca] 24)
  replace ht := ht.alloc (.cells #[.bool na, .slice aa la ca] 24)
  replace sa := sa.alloc (.cells #[.bool na, .slice aa la ca] 24)
  replace sb := sb.alloc (.cells #[.bool na, .slice aa la ca] 24)
  replace Ta := Ta.alloc (.cells #[.bool na, .slice aa la ca] 24)
  replace cTa0 := Ta.cells.1
  replace cTa1 := Ta.cells.2
  replace zTa := Ta.lt
  (with_reducible refine (Hf.out _ _ (heap_new _ _)).mono ?_)
  rintro e w2 ⟨rfl, b2⟩
  replace U0 := U0.trans (b2.mono U0.size)
  replace ht := ht.below b2
  replace sa := sa.below b2
  replace sb := sb.below b2
  replace Ta := Ta.below b2
  replace cTa0 := Ta.cells.1
  replace cTa1 := Ta.cells.2
  replace zTa := Ta.lt
  clear b2
  go_wp2
  go_ret
  exact ⟨rfl, U0⟩

set_option maxRecDepth 100000 in
set_option maxHeartbeats 16000000 in
theorem forms_longs (na : Bool) (aa : Option Addr) (la ca : Nat) (xa : List Int) (n : Int) (s : ByteArray) (ab : Option Addr) (lb cb : Nat) (bs : List Int) (w : World) (ht : Tab w) (sa : Sl w aa la ca xa) (sb : Sb w ab lb cb bs) (hr : (!decide (100 < la)) = true) (q1 : decide ((2000 : Int) < (s.size : Int)) = true) : Calls Tryz.prog 3 #[.agg #[.bool na, .slice aa la ca], .int .i64 n, .string s, .slice ab lb cb] w (RetBool true w) := by
  have Hf := Lib.hid (fun w g hg => fewOne na aa la ca w g hg true hr)
  clear hr
  go_enter Tryz.func3, Tryz.ntmps3
  have U0 := Below.refl w.heap.size w
  go_wp2_with fail
  replace U0 := U0.alloc U0.size (.cells #[.bool na, .slice aa la ca] 24)
  replace ht := ht.alloc (.cells #[.bool na, .slice aa la ca] 24)
  replace sa := sa.alloc (.cells #[.bool na, .slice aa la ca] 24)
  replace sb := sb.alloc (.cells #[.bool na, .slice aa la ca] 24)
  have Ta := BoxI.new w (w.heap.size) (by first | rfl | simp) na aa la ca
  have cTa0 := Ta.cells.1
  have cTa1 := Ta.cells.2
  have zTa := Ta.lt
  (with_reducible refine (sane_any _ (by exact ht)).mono ?_)
  rintro e w1 ⟨rfl, b1⟩
  replace U0 := U0.trans (b1.mono U0.size)
  replace ht := ht.below b1
  replace sa := sa.below b1
  replace sb := sb.below b1
  replace Ta := Ta.below b1
  replace cTa0 := Ta.cells.1
  replace cTa1 := Ta.cells.2
  replace zTa := Ta.lt
  clear b1
  go_wp2_with fail
  replace U0 := U0.alloc U0.size (.cells #[.bool na, .slice aa la ca] 24)
  replace ht := ht.alloc (.cells #[.bool na, .slice aa la ca] 24)
  replace sa := sa.alloc (.cells #[.bool na, .slice aa la ca] 24)
  replace sb := sb.alloc (.cells #[.bool na, .slice aa la ca] 24)
  replace Ta := Ta.alloc (.cells #[.bool na, .slice aa la ca] 24)
  replace cTa0 := Ta.cells.1
  replace cTa1 := Ta.cells.2
  replace zTa := Ta.lt
  (with_reducible refine (Hf.out _ _ (heap_new _ _)).mono ?_)
  rintro e w2 ⟨rfl, b2⟩
  replace U0 := U0.trans (b2.mono U0.size)
  replace ht := ht.below b2
  replace sa := sa.below b2
  replace sb := sb.below b2
  replace Ta := Ta.below b2
  replace cTa0 := Ta.cells.1
  replace cTa1 := Ta.cells.2
  replace zTa := Ta.lt
  clear b2
  go_wp2
  go_ret
  exact ⟨rfl, U0⟩

set_option maxRecDepth 100000 in
set_option maxHeartbeats 16000000 in
theorem forms_longb (na : Bool) (aa : Option Addr) (la ca : Nat) (xa : List Int) (n : Int) (s : ByteArray) (ab : Option Addr) (lb cb : Nat) (bs : List Int) (w : World) (ht : Tab w) (sa : Sl w aa la ca xa) (sb : Sb w ab lb cb bs) (hr : (!decide (100 < la)) = true) (q1 : decide ((2000 : Int) < (s.size : Int)) = false) (q2 : decide ((2000 : Int) < (lb : Int)) = true) : Calls Tryz.prog 3 #[.agg #[.bool na, .slice aa la ca], .int .i64 n, .string s, .slice ab lb cb] w (RetBool true w) := by
  have Hf := Lib.hid (fun w g hg => fewOne na aa la ca w g hg true hr)
  clear hr
  go_enter Tryz.func3, Tryz.ntmps3
  have U0 := Below.refl w.heap.size w
  go_wp2_with fail
  replace U0 := U0.alloc U0.size (.cells #[.bool na, .slice aa la ca] 24)
  replace ht := ht.alloc (.cells #[.bool na, .slice aa la ca] 24)
  replace sa := sa.alloc (.cells #[.bool na, .slice aa la ca] 24)
  replace sb := sb.alloc (.cells #[.bool na, .slice aa la ca] 24)
  have Ta := BoxI.new w (w.heap.size) (by first | rfl | simp) na aa la ca
  have cTa0 := Ta.cells.1
  have cTa1 := Ta.cells.2
  have zTa := Ta.lt
  (with_reducible refine (sane_any _ (by exact ht)).mono ?_)
  rintro e w1 ⟨rfl, b1⟩
  replace U0 := U0.trans (b1.mono U0.size)
  replace ht := ht.below b1
  replace sa := sa.below b1
  replace sb := sb.below b1
  replace Ta := Ta.below b1
  replace cTa0 := Ta.cells.1
  replace cTa1 := Ta.cells.2
  replace zTa := Ta.lt
  clear b1
  go_wp2_with fail
  replace U0 := U0.alloc U0.size (.cells #[.bool na, .slice aa la ca] 24)
  replace ht := ht.alloc (.cells #[.bool na, .slice aa la ca] 24)
  replace sa := sa.alloc (.cells #[.bool na, .slice aa la ca] 24)
  replace sb := sb.alloc (.cells #[.bool na, .slice aa la ca] 24)
  replace Ta := Ta.alloc (.cells #[.bool na, .slice aa la ca] 24)
  replace cTa0 := Ta.cells.1
  replace cTa1 := Ta.cells.2
  replace zTa := Ta.lt
  (with_reducible refine (Hf.out _ _ (heap_new _ _)).mono ?_)
  rintro e w2 ⟨rfl, b2⟩
  replace U0 := U0.trans (b2.mono U0.size)
  replace ht := ht.below b2
  replace sa := sa.below b2
  replace sb := sb.below b2
  replace Ta := Ta.below b2
  replace cTa0 := Ta.cells.1
  replace cTa1 := Ta.cells.2
  replace zTa := Ta.lt
  clear b2
  go_wp2
  go_ret
  exact ⟨rfl, U0⟩

/-- What the operations of the drawn statement yield. -/
def formsQ (na : Bool) (aa : Option Addr) (la ca : Nat) (n v1 e1 ck : Int) (nn : Bool) (xn : List Int) : List (World → Value → Prop) :=
  [fun _ u => u = .agg #[.bool na, .slice aa la ca],
   fun _ u => u = .int .i64 ck,
   fun _ u => u = .agg #[.bool na, .slice aa la ca],
   fun _ u => u = .int .i64 ck,
   fun _ u => u = .bool false,
   fun _ u => u = .bool false,
   fun _ u => u = .int .i64 n,
   fun w u => HasI w u (nn) (xn),
   fun _ u => u = .int .i64 n,
   fun w u => HasI w u (nn) (xn),
   fun _ u => u = .bool true,
   fun _ u => u = .bool false,
   fun _ u => u = .bool false,
   fun _ u => u = .bool false,
   fun _ u => u = .int .i64 v1,
   fun _ u => u = .int .i64 v1,
   fun _ u => u = .bool false,
   fun _ u => u = .bool false,
   fun _ u => u = .bool false,
   fun _ u => u = .int .i64 e1,
   fun _ u => u = .int .i64 e1,
   fun _ u => u = .bool false,
   fun _ u => u = .bool false]
theorem formsQ_mono (na : Bool) (aa : Option Addr) (la ca : Nat) (n v1 e1 ck : Int) (nn : Bool) (xn : List Int) : AllQ (formsQ na aa la ca n v1 e1 ck nn xn) :=
  ⟨Mono.is, Mono.is, Mono.is, Mono.is, Mono.is, Mono.is, Mono.is, Mono.int, Mono.is, Mono.int, Mono.is, Mono.is, Mono.is, Mono.is, Mono.is, Mono.is, Mono.is, Mono.is, Mono.is, Mono.is, Mono.is, Mono.is, Mono.is, trivial⟩
set_option maxRecDepth 100000 in
set_option maxHeartbeats 16000000 in
theorem forms_main (na : Bool) (aa : Option Addr) (la ca : Nat) (xa : List Int) (n : Int) (s : ByteArray) (ab : Option Addr) (lb cb : Nat) (bs : List Int) (w : World) (ht : Tab w) (sa : Sl w aa la ca xa) (sb : Sb w ab lb cb bs) (hby : ∀ j, 0 ≤ bs.getD j 0 ∧ bs.getD j 0 ≤ 255) (hn0 : -9223372036854775808 ≤ n) (hn1 : n ≤ 9223372036854775807) (hr : (!decide (100 < la)) = true) (q1 : decide ((2000 : Int) < (s.size : Int)) = false) (q2 : decide ((2000 : Int) < (lb : Int)) = false) : Calls Tryz.prog 3 #[.agg #[.bool na, .slice aa la ca], .int .i64 n, .string s, .slice ab lb cb] w (RetBool true w) := by
  have Hf := Lib.hid (fun w g hg => fewOne na aa la ca w g hg true hr)
  obtain ⟨v1, e1, i1, i2⟩ := both_ToInt na aa la ca xa
  obtain ⟨t, e2, t1, t2⟩ := both_Text na aa la ca xa
  obtain ⟨kb, e3, b1, b2⟩ := both_Bytes na aa la ca xa
  obtain ⟨zr, nr, xr, er, Nr, r1, r2⟩ := both_Read s (by have := of_decide_eq_false q1; omega)
  obtain ⟨zf, nf, xf, ef, Nf, f1, f2⟩ := both_FromBytes sb.length hby
  obtain ⟨nn, xn, n1, n2, n3⟩ := both_FromInt n hn0 hn1
  have k1 := fun w h => check_any na aa la ca xa w h
  have k2 := fun w h => refCheck_any na aa la ca xa w h
  generalize errOf (okInt na xa) = ck at *
  have I1 := Lib.hid i1; have I2 := Lib.hid i2; have T1 := Lib.hid t1; have T2 := Lib.hid t2; have B1 := Lib.hid b1; have B2 := Lib.hid b2; have R1 := Lib.hid r1; have R2 := Lib.hid r2; have F1 := Lib.hid f1; have F2 := Lib.hid f2; have N1 := Lib.hid n1; have N2 := Lib.hid n2; have N3 := Lib.hid n3; have K1 := Lib.hid k1; have K2 := Lib.hid k2
  have SR := Lib.hid (fun ax la ca ay lb cb w hx hy => pairSelfQ Nr er ax la ca ay lb cb w hx hy)
  have SF := Lib.hid (fun ax la ca ay lb cb w hx hy => pairSelfQ Nf ef ax la ca ay lb cb w hx hy)
  have Eq_ := Lib.hid (fun ax la ca ay lb cb w h1 h2 => equalB_any ax la ca kb ay lb cb kb w h1 h2)
  rw [decide_eq_true (rfl : kb = kb)] at Eq_
  have g1 : (v1 != v1) = false := by simp
  have g2 : (e1 != e1) = false := by simp
  have g3 : (ck != ck) = false := by simp
  have g4 : (e2 != e2) = false := by simp
  have g5 : (e3 == e3) = true := by simp
  have g6 : (t.toList != t.toList) = false := by simp
  clear hr i1 i2 t1 t2 b1 b2 r1 r2 f1 f2 n1 n2 n3 k1 k2 Nr Nf hby hn0 hn1
  go_enter Tryz.func3, Tryz.ntmps3
  have U0 := Below.refl w.heap.size w
  go_wp2_with fail
  replace U0 := U0.alloc U0.size (.cells #[.bool na, .slice aa la ca] 24)
  replace ht := ht.alloc (.cells #[.bool na, .slice aa la ca] 24)
  replace sa := sa.alloc (.cells #[.bool na, .slice aa la ca] 24)
  replace sb := sb.alloc (.cells #[.bool na, .slice aa la ca] 24)
  have Ta := BoxI.new w (w.heap.size) (by first | rfl | simp) na aa la ca
  have cTa0 := Ta.cells.1
  have cTa1 := Ta.cells.2
  have zTa := Ta.lt
  (with_reducible refine (sane_any _ (by exact ht)).mono ?_)
  rintro e w1 ⟨rfl, b1⟩
  replace U0 := U0.trans (b1.mono U0.size)
  replace ht := ht.below b1
  replace sa := sa.below b1
  replace sb := sb.below b1
  replace Ta := Ta.below b1
  replace cTa0 := Ta.cells.1
  replace cTa1 := Ta.cells.2
  replace zTa := Ta.lt
  clear b1
  go_wp2_with fail
  replace U0 := U0.alloc U0.size (.cells #[.bool na, .slice aa la ca] 24)
  replace ht := ht.alloc (.cells #[.bool na, .slice aa la ca] 24)
  replace sa := sa.alloc (.cells #[.bool na, .slice aa la ca] 24)
  replace sb := sb.alloc (.cells #[.bool na, .slice aa la ca] 24)
  replace Ta := Ta.alloc (.cells #[.bool na, .slice aa la ca] 24)
  replace cTa0 := Ta.cells.1
  replace cTa1 := Ta.cells.2
  replace zTa := Ta.lt
  (with_reducible refine (Hf.out _ _ (heap_new _ _)).mono ?_)
  rintro e w2 ⟨rfl, b2⟩
  replace U0 := U0.trans (b2.mono U0.size)
  replace ht := ht.below b2
  replace sa := sa.below b2
  replace sb := sb.below b2
  replace Ta := Ta.below b2
  replace cTa0 := Ta.cells.1
  replace cTa1 := Ta.cells.2
  replace zTa := Ta.lt
  clear b2
  go_wp2_with fail
  (with_reducible refine (I1.out _ (by exact sa)).mono ?_)
  rintro e w3 ⟨rfl, b3⟩
  replace U0 := U0.trans (b3.mono U0.size)
  replace ht := ht.below b3
  replace sa := sa.below b3
  replace sb := sb.below b3
  replace Ta := Ta.below b3
  replace cTa0 := Ta.cells.1
  replace cTa1 := Ta.cells.2
  replace zTa := Ta.lt
  clear b3
  go_wp2_with fail
  (with_reducible refine (I2.out _ (by exact sa)).mono ?_)
  rintro e w4 ⟨rfl, b4⟩
  replace U0 := U0.trans (b4.mono U0.size)
  replace ht := ht.below b4
  replace sa := sa.below b4
  replace sb := sb.below b4
  replace Ta := Ta.below b4
  replace cTa0 := Ta.cells.1
  replace cTa1 := Ta.cells.2
  replace zTa := Ta.lt
  clear b4
  go_upto_region 7 with (fail)
  have hM := formsQ_mono na aa la ca n v1 e1 ck nn xn
  refine region_kept 23 [some 43, some 44, some 45, some 46, some 47, some 48, some 49, some 50, some 51, some 52, some 53, some 54, some 55, some 56, some 57, some 58, some 59, some 60, some 61, some 62, some 63, some 64, some 65] (fun U => [U 0, U 1, U 2, U 3, U 4, U 5, U 6, U 7, U 8, U 9, U 10, U 11, U 12, U 13, U 14, U 15, U 16, U 17, U 18, U 19, U 20, U 21, U 22]) (Upto (w4) (formsQ na aa la ca n v1 e1 ck nn xn)) rfl rfl (fun _ => rfl) rfl (by kernel_rfl) (by kernel_rfl) (by kernel_rfl) (Upto.start _ _) ?step ?fin
  case step =>
    refine ⟨?_, ?_, ?_, ?_, ?_, ?_, ?_, ?_, ?_, ?_, ?_, ?_, ?_, ?_, ?_, ?_, ?_, ?_, ?_, ?_, ?_, ?_, ?_, trivial⟩
    · intro L U w' b hF hLi hmet hb ho K hK
      have U1 := hF.1
      have s4 : b.tmps.getD 4 undef = .pointer (some ⟨w.heap.size, 0, none⟩) := (ho 4 rfl).trans rfl
      have r4 := getD_r s4
      have t0_ := (Ta.below U1).cells.1
      have t1_ := (Ta.below U1).cells.2
      clear hb ho hmet
      rw [if_pos (by rfl)]
      go_simp
      exact hK.out (.agg #[.bool na, .slice aa la ca]) w' (hF.same hM 0 rfl rfl)
    · intro L U w' b hF hLi hmet hb ho K hK
      have U1 := hF.1
      have s43 := (hb 0 43 rfl).trans (hF.at 0 rfl (hmet.get rfl))
      have r43 := getD_r s43
      clear hb ho hmet
      rw [if_pos (by rfl)]
      go_simp
      go_at_call 20
      (with_reducible refine (K1.out _ (by exact (sa.below U1))).mono ?_)
      rintro e_ wq ⟨rfl, bq⟩
      exact hK.out (.int .i64 ck) wq (hF.next hM 1 rfl bq rfl)
    · intro L U w' b hF hLi hmet hb ho K hK
      have U1 := hF.1
      have s4 : b.tmps.getD 4 undef = .pointer (some ⟨w.heap.size, 0, none⟩) := (ho 4 rfl).trans rfl
      have r4 := getD_r s4
      have t0_ := (Ta.below U1).cells.1
      have t1_ := (Ta.below U1).cells.2
      clear hb ho hmet
      rw [if_pos (by rfl)]
      go_simp
      exact hK.out (.agg #[.bool na, .slice aa la ca]) w' (hF.same hM 2 rfl rfl)
    · intro L U w' b hF hLi hmet hb ho K hK
      have U1 := hF.1
      have s45 := (hb 2 45 rfl).trans (hF.at 2 rfl (hmet.get rfl))
      have r45 := getD_r s45
      clear hb ho hmet
      rw [if_pos (by rfl)]
      go_simp
      go_at_call 21
      (with_reducible refine (K2.out _ (by exact (sa.below U1))).mono ?_)
      rintro e_ wq ⟨rfl, bq⟩
      exact hK.out (.int .i64 ck) wq (hF.next hM 3 rfl bq rfl)
    · intro L U w' b hF hLi hmet hb ho K hK
      have U1 := hF.1
      have s44 := (hb 1 44 rfl).trans (hF.at 1 rfl (hmet.get rfl))
      have r44 := getD_r s44
      have s46 := (hb 3 46 rfl).trans (hF.at 3 rfl (hmet.get rfl))
      have r46 := getD_r s46
      clear hb ho hmet
      rw [if_pos (by rfl)]
      go_simp
      exact hK.out (.bool false) w' (hF.same hM 4 rfl rfl)
    · intro L U w' b hF hLi hmet hb ho K hK
      have U1 := hF.1
      have s47 := (hb 4 47 rfl).trans (hF.at 4 rfl (hmet.get rfl))
      have r47 := getD_r s47
      clear hb ho hmet
      rw [if_pos (by rfl)]
      go_simp
      exact hK.out (.bool false) w' (hF.same hM 5 rfl rfl)
    · intro L U w' b hF hLi hmet hb ho K hK
      have U1 := hF.1
      have s48 := (hb 5 48 rfl).trans (hF.at 5 rfl (hmet.get rfl))
      have r48 := getD_r s48
      have s1 : b.tmps.getD 1 undef = .int .i64 n := (ho 1 rfl).trans rfl
      have r1 := getD_r s1
      clear hb ho hmet
      rw [if_pos (wants rfl rfl s48)]
      go_simp
      exact hK.out (.int .i64 n) w' (hF.same hM 6 rfl rfl)
    · intro L U w' b hF hLi hmet hb ho K hK
      have U1 := hF.1
      have s48 := (hb 5 48 rfl).trans (hF.at 5 rfl (hmet.get rfl))
      have r48 := getD_r s48
      have s49 := (hb 6 49 rfl).trans (hF.at 6 rfl (hmet.get rfl))
      have r49 := getD_r s49
      clear hb ho hmet
      rw [if_pos (wants rfl rfl s48)]
      go_simp
      go_at_call 23
      (with_reducible refine (N1.out _).mono ?_)
      rintro e_ wq ⟨ra, rl, rc, rfl, rs, bq⟩
      exact hK.out (.agg #[.bool nn, .slice ra rl rc]) wq (hF.next hM 7 rfl bq ⟨ra, rl, rc, rfl, rs⟩)
    · intro L U w' b hF hLi hmet hb ho K hK
      have U1 := hF.1
      have s48 := (hb 5 48 rfl).trans (hF.at 5 rfl (hmet.get rfl))
      have r48 := getD_r s48
      have s1 : b.tmps.getD 1 undef = .int .i64 n := (ho 1 rfl).trans rfl
      have r1 := getD_r s1
      clear hb ho hmet
      rw [if_pos (wants rfl rfl s48)]
      go_simp
      exact hK.out (.int .i64 n) w' (hF.same hM 8 rfl rfl)
    · intro L U w' b hF hLi hmet hb ho K hK
      have U1 := hF.1
      have s48 := (hb 5 48 rfl).trans (hF.at 5 rfl (hmet.get rfl))
      have r48 := getD_r s48
      have s51 := (hb 8 51 rfl).trans (hF.at 8 rfl (hmet.get rfl))
      have r51 := getD_r s51
      clear hb ho hmet
      rw [if_pos (wants rfl rfl s48)]
      go_simp
      go_at_call 24
      (with_reducible refine (N2.out _).mono ?_)
      rintro e_ wq ⟨ra, rl, rc, rfl, rs, bq⟩
      exact hK.out (.agg #[.bool nn, .slice ra rl rc]) wq (hF.next hM 9 rfl bq ⟨ra, rl, rc, rfl, rs⟩)
    · intro L U w' b hF hLi hmet hb ho K hK
      have U1 := hF.1
      have s48 := (hb 5 48 rfl).trans (hF.at 5 rfl (hmet.get rfl))
      have r48 := getD_r s48
      obtain ⟨pa7, pl7, pc7, pe7, ps7⟩ := hF.at 7 rfl (hmet.get rfl)
      have s50 := (hb 7 50 rfl).trans pe7
      have r50 := getD_r s50
      obtain ⟨pa9, pl9, pc9, pe9, ps9⟩ := hF.at 9 rfl (hmet.get rfl)
      have s52 := (hb 9 52 rfl).trans pe9
      have r52 := getD_r s52
      clear hb ho hmet
      rw [if_pos (wants rfl rfl s48)]
      go_simp
      go_at_call 22
      (with_reducible refine (N3.out _ _ _ _ _ _ _ (by exact ps7) (by exact ps9)).mono ?_)
      rintro e_ wq ⟨rfl, bq⟩
      exact hK.out (.bool true) wq (hF.next hM 10 rfl bq rfl)
    · intro L U w' b hF hLi hmet hb ho K hK
      have U1 := hF.1
      have s48 := (hb 5 48 rfl).trans (hF.at 5 rfl (hmet.get rfl))
      have r48 := getD_r s48
      have s53 := (hb 10 53 rfl).trans (hF.at 10 rfl (hmet.get rfl))
      have r53 := getD_r s53
      clear hb ho hmet
      rw [if_pos (wants rfl rfl s48)]
      go_simp
      exact hK.out (.bool false) w' (hF.same hM 11 rfl rfl)
    · intro L U w' b hF hLi hmet hb ho K hK
      have U1 := hF.1
      have s48 := (hb 5 48 rfl).trans (hF.at 5 rfl (hmet.get rfl))
      have r48 := getD_r s48
      have s54 := (hb 11 54 rfl).trans (hF.at 11 rfl (hmet.get rfl))
      have r54 := getD_r s54
      clear hb ho hmet
      rw [if_pos (by rfl)]
      go_simp
      exact hK.out (.bool false) w' (hF.same hM 12 rfl rfl)
    · intro L U w' b hF hLi hmet hb ho K hK
      have U1 := hF.1
      have s55 := (hb 12 55 rfl).trans (hF.at 12 rfl (hmet.get rfl))
      have r55 := getD_r s55
      clear hb ho hmet
      rw [if_pos (by rfl)]
      go_simp
      exact hK.out (.bool false) w' (hF.same hM 13 rfl rfl)
    · intro L U w' b hF hLi hmet hb ho K hK
      have U1 := hF.1
      have s56 := (hb 13 56 rfl).trans (hF.at 13 rfl (hmet.get rfl))
      have r56 := getD_r s56
      have s9 : b.tmps.getD 9 undef = .int .i64 v1 := (ho 9 rfl).trans rfl
      have r9 := getD_r s9
      clear hb ho hmet
      rw [if_pos (wants rfl rfl s56)]
      go_simp
      exact hK.out (.int .i64 v1) w' (hF.same hM 14 rfl rfl)
    · intro L U w' b hF hLi hmet hb ho K hK
      have U1 := hF.1
      have s56 := (hb 13 56 rfl).trans (hF.at 13 rfl (hmet.get rfl))
      have r56 := getD_r s56
      have s11 : b.tmps.getD 11 undef = .int .i64 v1 := (ho 11 rfl).trans rfl
      have r11 := getD_r s11
      clear hb ho hmet
      rw [if_pos (wants rfl rfl s56)]
      go_simp
      exact hK.out (.int .i64 v1) w' (hF.same hM 15 rfl rfl)
    · intro L U w' b hF hLi hmet hb ho K hK
      have U1 := hF.1
      have s56 := (hb 13 56 rfl).trans (hF.at 13 rfl (hmet.get rfl))
      have r56 := getD_r s56
      have s57 := (hb 14 57 rfl).trans (hF.at 14 rfl (hmet.get rfl))
      have r57 := getD_r s57
      have s58 := (hb 15 58 rfl).trans (hF.at 15 rfl (hmet.get rfl))
      have r58 := getD_r s58
      clear hb ho hmet
      rw [if_pos (wants rfl rfl s56)]
      go_simp
      exact hK.out (.bool false) w' (hF.same hM 16 rfl rfl)
    · intro L U w' b hF hLi hmet hb ho K hK
      have U1 := hF.1
      have s56 := (hb 13 56 rfl).trans (hF.at 13 rfl (hmet.get rfl))
      have r56 := getD_r s56
      have s59 := (hb 16 59 rfl).trans (hF.at 16 rfl (hmet.get rfl))
      have r59 := getD_r s59
      clear hb ho hmet
      rw [if_pos (by rfl)]
      go_simp
      exact hK.out (.bool false) w' (hF.same hM 17 rfl rfl)
    · intro L U w' b hF hLi hmet hb ho K hK
      have U1 := hF.1
      have s60 := (hb 17 60 rfl).trans (hF.at 17 rfl (hmet.get rfl))
      have r60 := getD_r s60
      clear hb ho hmet
      rw [if_pos (by rfl)]
      go_simp
      exact hK.out (.bool false) w' (hF.same hM 18 rfl rfl)
    · intro L U w' b hF hLi hmet hb ho K hK
      have U1 := hF.1
      have s61 := (hb 18 61 rfl).trans (hF.at 18 rfl (hmet.get rfl))
      have r61 := getD_r s61
      have s10 : b.tmps.getD 10 undef = .int .i64 e1 := (ho 10 rfl).trans rfl
      have r10 := getD_r s10
      clear hb ho hmet
      rw [if_pos (wants rfl rfl s61)]
      go_simp
      exact hK.out (.int .i64 e1) w' (hF.same hM 19 rfl rfl)
    · intro L U w' b hF hLi hmet hb ho K hK
      have U1 := hF.1
      have s61 := (hb 18 61 rfl).trans (hF.at 18 rfl (hmet.get rfl))
      have r61 := getD_r s61
      have s12 : b.tmps.getD 12 undef = .int .i64 e1 := (ho 12 rfl).trans rfl
      have r12 := getD_r s12
      clear hb ho hmet
      rw [if_pos (wants rfl rfl s61)]
      go_simp
      exact hK.out (.int .i64 e1) w' (hF.same hM 20 rfl rfl)
    · intro L U w' b hF hLi hmet hb ho K hK
      have U1 := hF.1
      have s61 := (hb 18 61 rfl).trans (hF.at 18 rfl (hmet.get rfl))
      have r61 := getD_r s61
      have s62 := (hb 19 62 rfl).trans (hF.at 19 rfl (hmet.get rfl))
      have r62 := getD_r s62
      have s63 := (hb 20 63 rfl).trans (hF.at 20 rfl (hmet.get rfl))
      have r63 := getD_r s63
      clear hb ho hmet
      rw [if_pos (wants rfl rfl s61)]
      go_simp
      exact hK.out (.bool false) w' (hF.same hM 21 rfl rfl)
    · intro L U w' b hF hLi hmet hb ho K hK
      have U1 := hF.1
      have s61 := (hb 18 61 rfl).trans (hF.at 18 rfl (hmet.get rfl))
      have r61 := getD_r s61
      have s64 := (hb 21 64 rfl).trans (hF.at 21 rfl (hmet.get rfl))
      have r64 := getD_r s64
      clear hb ho hmet
      rw [if_pos (by rfl)]
      go_simp
      exact hK.out (.bool false) w' (hF.same hM 22 rfl rfl)
  case fin =>
    intro L U wx hF hall
    have U1 := hF.1
    have kl := hF.at 22 rfl (hall 22 (by decide))
    clear hF hall hM
    replace U0 := U0.trans (U1.mono U0.size)
    replace ht := ht.below U1
    replace sa := sa.below U1
    replace sb := sb.below U1
    replace Ta := Ta.below U1
    replace cTa0 := Ta.cells.1
    replace cTa1 := Ta.cells.2
    replace zTa := Ta.lt
    clear U1
    simp only [fillA, Act.put, List.setIfInBounds_toArray, List.set_cons_zero, List.set_cons_succ]
    rw [kl]
    go_wp2_with fail
    (with_reducible refine (T1.out _ (by exact ht) (by exact sa)).mono ?_)
    rintro e w1 ⟨rfl, b1⟩
    replace U0 := U0.trans (b1.mono U0.size)
    replace ht := ht.below b1
    replace sa := sa.below b1
    replace sb := sb.below b1
    replace Ta := Ta.below b1
    replace cTa0 := Ta.cells.1
    replace cTa1 := Ta.cells.2
    replace zTa := Ta.lt
    clear b1
    clear ht
    go_wp2_with fail
    (with_reducible refine (T2.out _ (by exact sa)).mono ?_)
    rintro e w2 ⟨rfl, b2⟩
    replace U0 := U0.trans (b2.mono U0.size)
    replace sa := sa.below b2
    replace sb := sb.below b2
    replace Ta := Ta.below b2
    replace cTa0 := Ta.cells.1
    replace cTa1 := Ta.cells.2
    replace zTa := Ta.lt
    clear b2
    go_wp2_with fail
    (with_reducible refine (R1.out _).mono ?_)
    rintro e w3 ⟨ar, lr, cr, rfl, sr, b3⟩
    replace U0 := U0.trans (b3.mono U0.size)
    replace sa := sa.below b3
    replace sb := sb.below b3
    replace Ta := Ta.below b3
    replace cTa0 := Ta.cells.1
    replace cTa1 := Ta.cells.2
    replace zTa := Ta.lt
    clear b3
    go_wp2_with fail
    (with_reducible refine (lawGotP (by exact sr)).mono ?_)
    rintro e w4 ⟨ap, lp, cp, rfl, sp, b4⟩
    replace U0 := U0.trans (b4.mono U0.size)
    replace sa := sa.below b4
    replace sb := sb.below b4
    replace Ta := Ta.below b4
    replace sr := sr.below b4
    replace cTa0 := Ta.cells.1
    replace cTa1 := Ta.cells.2
    replace zTa := Ta.lt
    clear b4
    clear sr
    go_wp2_with fail
    (with_reducible refine (R2.out _).mono ?_)
    rintro e w5 ⟨ar, lr, cr, rfl, sr, b5⟩
    replace U0 := U0.trans (b5.mono U0.size)
    replace sa := sa.below b5
    replace sb := sb.below b5
    replace Ta := Ta.below b5
    replace sp := sp.below b5
    replace cTa0 := Ta.cells.1
    replace cTa1 := Ta.cells.2
    replace zTa := Ta.lt
    clear b5
    go_wp2_with fail
    (with_reducible refine (lawGotP (by exact sr)).mono ?_)
    rintro e w6 ⟨aq, lq, cq, rfl, sq, b6⟩
    replace U0 := U0.trans (b6.mono U0.size)
    replace sa := sa.below b6
    replace sb := sb.below b6
    replace Ta := Ta.below b6
    replace sp := sp.below b6
    replace sr := sr.below b6
    replace cTa0 := Ta.cells.1
    replace cTa1 := Ta.cells.2
    replace zTa := Ta.lt
    clear b6
    go_wp2_with fail
    (with_reducible refine (SR.out _ _ _ _ _ _ _ (by exact sp) (by exact sq)).mono ?_)
    rintro e w7 ⟨rfl, b7⟩
    replace U0 := U0.trans (b7.mono U0.size)
    replace sa := sa.below b7
    replace sb := sb.below b7
    replace Ta := Ta.below b7
    replace sp := sp.below b7
    replace sr := sr.below b7
    replace sq := sq.below b7
    replace cTa0 := Ta.cells.1
    replace cTa1 := Ta.cells.2
    replace zTa := Ta.lt
    clear b7
    clear sr sp sq
    go_wp2_with fail
    (with_reducible refine (B1.out _ (by exact sa)).mono ?_)
    rintro e w8 ⟨ak, lk, ck_, rfl, sk, b8⟩
    replace U0 := U0.trans (b8.mono U0.size)
    replace sa := sa.below b8
    replace sb := sb.below b8
    replace Ta := Ta.below b8
    replace cTa0 := Ta.cells.1
    replace cTa1 := Ta.cells.2
    replace zTa := Ta.lt
    clear b8
    go_wp2_with fail
    (with_reducible refine (B2.out _ (by exact sa)).mono ?_)
    rintro e w9 ⟨al, ll, cl_, rfl, sl, b9⟩
    replace U0 := U0.trans (b9.mono U0.size)
    replace sa := sa.below b9
    replace sb := sb.below b9
    replace Ta := Ta.below b9
    replace sk := sk.below b9
    replace cTa0 := Ta.cells.1
    replace cTa1 := Ta.cells.2
    replace zTa := Ta.lt
    clear b9
    go_wp2_with fail
    (with_reducible refine (Eq_.out _ _ _ _ _ _ _ (by exact sk) (by exact sl)).mono ?_)
    rintro e w10 ⟨rfl, b10⟩
    replace U0 := U0.trans (b10.mono U0.size)
    replace sa := sa.below b10
    replace sb := sb.below b10
    replace Ta := Ta.below b10
    replace sk := sk.below b10
    replace sl := sl.below b10
    replace cTa0 := Ta.cells.1
    replace cTa1 := Ta.cells.2
    replace zTa := Ta.lt
    clear b10
    clear sk sl
    go_wp2_with fail
    (with_reducible refine (F1.out _ _ _ (by exact sb)).mono ?_)
    rintro e w11 ⟨ar, lr, cr, rfl, sr, b11⟩
    replace U0 := U0.trans (b11.mono U0.size)
    replace sa := sa.below b11
    replace sb := sb.below b11
    replace Ta := Ta.below b11
    replace cTa0 := Ta.cells.1
    replace cTa1 := Ta.cells.2
    replace zTa := Ta.lt
    clear b11
    go_wp2_with fail
    (with_reducible refine (lawGotP (by exact sr)).mono ?_)
    rintro e w12 ⟨ap, lp, cp, rfl, sp, b12⟩
    replace U0 := U0.trans (b12.mono U0.size)
    replace sa := sa.below b12
    replace sb := sb.below b12
    replace Ta := Ta.below b12
    replace sr := sr.below b12
    replace cTa0 := Ta.cells.1
    replace cTa1 := Ta.cells.2
    replace zTa := Ta.lt
    clear b12
    clear sr
    go_wp2_with fail
    (with_reducible refine (F2.out _ _ _ (by exact sb)).mono ?_)
    rintro e w13 ⟨ar, lr, cr, rfl, sr, b13⟩
    replace U0 := U0.trans (b13.mono U0.size)
    replace sa := sa.below b13
    replace sb := sb.below b13
    replace Ta := Ta.below b13
    replace sp := sp.below b13
    replace cTa0 := Ta.cells.1
    replace cTa1 := Ta.cells.2
    replace zTa := Ta.lt
    clear b13
    go_wp2_with fail
    (with_reducible refine (lawGotP (by exact sr)).mono ?_)
    rintro e w14 ⟨aq, lq, cq, rfl, sq, b14⟩
    replace U0 := U0.trans (b14.mono U0.size)
    replace sa := sa.below b14
    replace sb := sb.below b14
    replace Ta := Ta.below b14
    replace sp := sp.below b14
    replace sr := sr.below b14
    replace cTa0 := Ta.cells.1
    replace cTa1 := Ta.cells.2
    replace zTa := Ta.lt
    clear b14
    go_wp2_with fail
    (with_reducible refine (SF.out _ _ _ _ _ _ _ (by exact sp) (by exact sq)).mono ?_)
    rintro e w15 ⟨rfl, b15⟩
    replace U0 := U0.trans (b15.mono U0.size)
    replace sa := sa.below b15
    replace sb := sb.below b15
    replace Ta := Ta.below b15
    replace sp := sp.below b15
    replace sr := sr.below b15
    replace sq := sq.below b15
    replace cTa0 := Ta.cells.1
    replace cTa1 := Ta.cells.2
    replace zTa := Ta.lt
    clear b15
    go_wp2; go_ret; exact ⟨rfl, U0⟩

theorem numForms_any (na : Bool) (aa : Option Addr) (la ca : Nat) (xa : List Int) (n : Int) (s : ByteArray) (ab : Option Addr) (lb cb : Nat) (bs : List Int) (w : World) (ht : Tab w) (sa : Sl w aa la ca xa) (sb : Sb w ab lb cb bs) (hby : ∀ j, 0 ≤ bs.getD j 0 ∧ bs.getD j 0 ≤ 255) (hn0 : -9223372036854775808 ≤ n) (hn1 : n ≤ 9223372036854775807) : Calls Tryz.prog 3 #[.agg #[.bool na, .slice aa la ca], .int .i64 n, .string s, .slice ab lb cb] w (RetBool true w) := by
  cases hr : (!decide (100 < la))
  · exact forms_longa na aa la ca xa n s ab lb cb bs w ht sa sb hr
  · cases q1 : decide ((2000 : Int) < (s.size : Int))
    · cases q2 : decide ((2000 : Int) < (lb : Int))
      · exact forms_main na aa la ca xa n s ab lb cb bs w ht sa sb hby hn0 hn1 hr q1 q2
      · exact forms_longb na aa la ca xa n s ab lb cb bs w ht sa sb hr q1 q2
    · exact forms_longs na aa la ca xa n s ab lb cb bs w ht sa sb hr q1
theorem wf_int {z : Int} (h : (Lit.int .i64 z).wf = true) : -9223372036854775808 ≤ z ∧ z ≤ 9223372036854775807 := by
  simp only [Lit.wf, IntKind.min, IntKind.max, IntKind.signed, IntKind.bits, Bool.and_eq_true, decide_eq_true_eq, if_true] at h
  omega
theorem numForms_wf (na : Bool) (aa : Option Addr) (la ca : Nat) (xa : List Int) (n : Int) (s : ByteArray) (ab : Option Addr) (lb cb : Nat) (bs : List Int) (w : World) (ht : Tab w) (sa : Sl w aa la ca xa) (sb : Sb w ab lb cb bs) (hby : ∀ j, 0 ≤ bs.getD j 0 ∧ bs.getD j 0 ≤ 255) (hn : (Lit.int .i64 n).wf = true) : Calls Tryz.prog 3 #[.agg #[.bool na, .slice aa la ca], .int .i64 n, .string s, .slice ab lb cb] w (RetBool true w) :=
  numForms_any na aa la ca xa n s ab lb cb bs w ht sa sb hby (wf_int hn).1 (wf_int hn).2
end Go.Proofs.YtfjnplhhgdfepaaGreatDoor

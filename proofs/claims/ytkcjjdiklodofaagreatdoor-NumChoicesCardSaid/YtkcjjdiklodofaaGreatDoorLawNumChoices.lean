/- NumChoices: for every input the law answers true, and each argument reads afterwards as it read before. Condition: the table of the powers of ten lies as the program's text lays it (tied by the card). -/
import Derived.IntWalk
import Derived.Test.YtkcjjdiklodofaaGreatDoorK7
set_option linter.all false

/- The laws' helpers val, sum, times; pairs of a number and an error; how Choose ends, in one form. -/
namespace Go.Proofs.YtkcjjdiklodofaaGreatDoor
open Go.RowKit

/-- A number with this sign and these parts and an error, as the laws' pair. -/
def RetQ (n : Bool) (xs : List Int) (er : Int) (w : World) (e : Ending) (w' : World) : Prop :=
  ∃ ao len cap, e = .returned (.agg #[.bool n, .slice ao len cap, .int .i64 er]) ∧ Sl w' ao len cap xs ∧ Below w.heap.size w w'
/-- What fits is the number, what does not is 0 with the error of limits. -/
def fitR (z : Int) : Int × Int := if (parts z.natAbs).length ≤ 40 then (z, 0) else (0, 2)
theorem fitR_ok {z : Int} (h : Lim z) : fitR z = (z, 0) := if_pos h
theorem fitR_no {z : Int} (h : ¬ Lim z) : fitR z = (0, 2) := if_neg h
theorem Lim.zero : Lim 0 := by unfold Lim; rw [show (0 : Int).natAbs = 0 from rfl, parts_zero]; simp
theorem fitR_lim (z : Int) : Lim (fitR z).1 := by
  by_cases h : Lim z
  · rw [fitR_ok h]; exact h
  · rw [fitR_no h]; exact Lim.zero
theorem Out.fit {z : Int} {w : World} {e : Ending} {w' : World} (h : Out z w e w') : RetE (fitR z).1 (fitR z).2 w e w' := by
  by_cases hl : Lim z
  · rw [fitR_ok hl]; exact h.1 hl
  · rw [fitR_no hl]; exact h.2 hl
def sumR (p q : Int × Int) : Int × Int := if p.2 = 0 ∧ q.2 = 0 then fitR (p.1 + q.1) else (0, 2)
def timesR (p q : Int × Int) : Int × Int := if p.2 = 0 ∧ q.2 = 0 then fitR (p.1 * q.1) else (0, 2)
theorem sameI_num (x y : Int) : sameI (decide (x < 0)) (parts x.natAbs) (decide (y < 0)) (parts y.natAbs) = decide (x = y) := by
  unfold sameI
  rw [cmpI_num]
  exact decide_eq_decide.2 cmp3_zero
/-- A box of a pair. -/
def Box3 (w : World) (g : Nat) (n : Bool) (ao : Option Addr) (l c : Nat) (er : Int) : Prop := w.heap[g]? = some (.cells #[.bool n, .slice ao l c, .int .i64 er] 38 (0, 0))
theorem Box3.cells {w : World} {g : Nat} {n : Bool} {ao : Option Addr} {l c : Nat} {er : Int} (h : Box3 w g n ao l c er) :
    w.cell? ⟨g, 0, none⟩ = some (.bool n) ∧ w.cell? ⟨g, 1, none⟩ = some (.slice ao l c) ∧ w.cell? ⟨g, 2, none⟩ = some (.int .i64 er) := by
  unfold Box3 at h
  refine ⟨?_, ?_, ?_⟩ <;> simp [World.cell?, h]
theorem Box3.froz {w : World} {g : Nat} {n : Bool} {ao : Option Addr} {l c : Nat} {er : Int} (h : Box3 w g n ao l c er) :
    w.frozen? ⟨g, 0, none⟩ = false ∧ w.frozen? ⟨g, 1, none⟩ = false ∧ w.frozen? ⟨g, 2, none⟩ = false := by
  unfold Box3 at h
  refine ⟨?_, ?_, ?_⟩ <;> simp [World.frozen?, h]
theorem Box3.lt {w : World} {g : Nat} {n : Bool} {ao : Option Addr} {l c : Nat} {er : Int} (h : Box3 w g n ao l c er) : g < w.heap.size := (Array.getElem?_eq_some_iff.1 h).1
theorem Box3.below {w w' : World} {g : Nat} {n : Bool} {ao : Option Addr} {l c : Nat} {er : Int} (h : Box3 w g n ao l c er) (hb : Below w.heap.size w w') : Box3 w' g n ao l c er := (hb.block _ h.lt).trans h
theorem Box3.drew {w : World} {g : Nat} {n : Bool} {ao : Option Addr} {l c : Nat} {er : Int} (h : Box3 w g n ao l c er) : Box3 w.drew g n ao l c er := h
theorem Box3.new (w : World) (n : Bool) (ao : Option Addr) (l c : Nat) (er : Int) : Box3 (w.alloc (.cells #[.bool n, .slice ao l c, .int .i64 er] 38)) w.heap.size n ao l c er := heap_new w _
theorem Box3.set {w : World} {g : Nat} {n n' : Bool} {ao ao' : Option Addr} {l c l' c' : Nat} {er er' : Int} (h : Box3 w g n ao l c er) :
    Box3 (((w.setCell ⟨g, 0, none⟩ (.bool n')).setCell ⟨g, 1, none⟩ (.slice ao' l' c')).setCell ⟨g, 2, none⟩ (.int .i64 er')) g n' ao' l' c' er' := by
  unfold Box3 at *
  simp [World.setCell, Array.getElem?_modify, h]
set_option maxHeartbeats 1000000 in
theorem lawVal_any (n : Bool) (ao : Option Addr) (len cap : Nat) (w : World) :
    Calls Tryz.prog 65 #[.agg #[.bool n, .slice ao len cap]] w fun e w' => e = .returned (.agg #[.bool n, .slice ao len cap, .int .i64 0]) ∧ Below w.heap.size w w' := by
  have hb : ∀ o p : Obj, Below w.heap.size w ((w.alloc o).alloc p) := fun o p => below2 w o p
  go_enter Tryz.func65, Tryz.ntmps65
  go_wp2
  refine bodyPost_ret (v := .agg #[.bool n, .slice ao len cap, .int .i64 0]) (by simp [results, Tryz.results65, go_sem]) rfl ?_
  exact ⟨rfl, hb _ _⟩

/-- A store of a pair into its box, which held no error, changes no slice of parts. -/
theorem Sl.pair {w : World} {ao : Option Addr} {len cap : Nat} {xs : List Int} (hs : Sl w ao len cap xs) (hl : xs.getLast? ≠ some 0) {g : Nat} {n : Bool} {ap : Option Addr} {l c : Nat} (h : Box3 w g n ap l c 0) (n' : Bool) (ap' : Option Addr) (l' c' : Nat) (er' : Int) :
    Sl (((w.setCell ⟨g, 0, none⟩ (.bool n')).setCell ⟨g, 1, none⟩ (.slice ap' l' c')).setCell ⟨g, 2, none⟩ (.int .i64 er')) ao len cap xs := by
  obtain ⟨h1, h2, h3, h4 | ⟨b, p, h5, h6⟩⟩ := hs
  · exact ⟨h1, h2, h3, .inl h4⟩
  · by_cases hb : b = g
    · subst hb
      by_cases h0 : len = 0
      · exact ⟨h1, h2, h3, .inr ⟨b, p, h5, fun j hj => by omega⟩⟩
      · exfalso
        have k0 := h6 0 (by omega)
        unfold Box3 at h
        simp only [World.cell?, h] at k0
        rcases p with _ | _ | _ | p
        · simp at k0
        · simp at k0
        · by_cases h2 : len = 1
          · subst h2
            simp at k0
            obtain ⟨x, rfl⟩ := List.length_eq_one_iff.1 h1
            simp at k0 hl
            omega
          · have k1 := h6 1 (by omega)
            simp only [World.cell?, h] at k1
            simp at k1
        · simp at k0
    · refine ⟨h1, h2, h3, .inr ⟨b, p, h5, fun j hj => ?_⟩⟩
      rw [World.cell?_of_block (Below.heap_setCell _ _ _ _ hb), World.cell?_of_block (Below.heap_setCell _ _ _ _ hb), World.cell?_of_block (Below.heap_setCell _ _ _ _ hb)]
      exact h6 j hj

set_option maxHeartbeats 1000000 in
theorem lawSum_ok (n1 : Bool) (ax : Option Addr) (la ca : Nat) (xs : List Int) (n2 : Bool) (ay : Option Addr) (lb cb : Nat) (ys : List Int) (n3 : Bool) (zs : List Int) (e3 : Int) (hzl : zs.getLast? ≠ some 0) (w : World) (hx : Sl w ax la ca xs) (hy : Sl w ay lb cb ys)
    (hc : ∀ w, Sl w ax la ca xs → Sl w ay lb cb ys → Calls Tryz.prog 44 #[.agg #[.bool n1, .slice ax la ca], .agg #[.bool n2, .slice ay lb cb]] w (RetPE n3 zs e3 w)) :
    Calls Tryz.prog 67 #[.agg #[.bool n1, .slice ax la ca, .int .i64 0], .agg #[.bool n2, .slice ay lb cb, .int .i64 0]] w (RetQ n3 zs e3 w) := by
  have Hc := Lib.hid hc
  have Hzl := Lib.hid hzl
  clear hc hzl
  go_enter Tryz.func67, Tryz.ntmps67
  go_wp2_with fail
  (with_reducible refine (Hc.out _ (by exact ((hx.alloc _).alloc _).alloc _) (by exact ((hy.alloc _).alloc _).alloc _)).mono ?_)
  rintro e w1 ⟨a1, l1, c1, rfl, s1, b1⟩
  obtain ⟨_, _, hC, hz, hbb⟩ := kept3 _ _ _ _ b1
  clear b1
  go_wp2_with fail
  (with_reducible refine (got_any _ _ _ _ _ _).mono ?_)
  rintro e w2 ⟨rfl, b2⟩
  have hC2 : Box3 w2 (w.heap.size + 1 + 1) false none 0 0 0 := (b2.block _ (Array.getElem?_eq_some_iff.1 hC).1).trans hC
  obtain ⟨f0, f1, f2⟩ := hC2.cells
  obtain ⟨g0, g1, g2⟩ := hC2.froz
  have hsz := hC2.lt
  have s2 := s1.below b2
  have hb2 := hbb.trans (b2.mono hbb.size)
  have HC := Lib.hid hC2
  clear hC hC2 b2 hbb s1
  go_wp2
  refine bodyPost_ret (v := .agg #[.bool n3, .slice a1 l1 c1, .int .i64 e3]) (by simp [results, Tryz.results67, go_sem, f0, f1, f2]) rfl ?_
  refine ⟨a1, l1, c1, rfl, ?_, ((hb2.setCell (by simp; omega) _).setCell (by simp; omega) _).setCell (by simp; omega) _⟩
  exact s2.pair Hzl.out HC.out _ _ _ _ _

set_option maxHeartbeats 1000000 in
theorem lawSum_bad (n1 : Bool) (ax : Option Addr) (la ca : Nat) (e1 : Int) (n2 : Bool) (ay : Option Addr) (lb cb : Nat) (e2 : Int) (w : World) (h : ¬ (e1 = 0 ∧ e2 = 0)) :
    Calls Tryz.prog 67 #[.agg #[.bool n1, .slice ax la ca, .int .i64 e1], .agg #[.bool n2, .slice ay lb cb, .int .i64 e2]] w (RetQ false [] 2 w) := by
  have hb : ∀ o p q : Obj, Below w.heap.size w (((w.alloc o).alloc p).alloc q) := fun o p q => below3 w o p q
  by_cases h1 : e1 = 0
  · have h2 : e2 ≠ 0 := fun h' => h ⟨h1, h'⟩
    subst h1
    have hq : (e2 != 0) = true := by simpa using h2
    clear h h2
    go_enter Tryz.func67, Tryz.ntmps67
    go_wp2
    refine bodyPost_ret (v := .agg #[.bool false, .slice none 0 0, .int .i64 2]) (by simp [results, Tryz.results67, go_sem]) rfl ?_
    exact ⟨_, _, _, rfl, Sl.nil _, hb _ _ _⟩
  · have hq : (e1 != 0) = true := by simpa using h1
    clear h h1
    go_enter Tryz.func67, Tryz.ntmps67
    go_wp2
    refine bodyPost_ret (v := .agg #[.bool false, .slice none 0 0, .int .i64 2]) (by simp [results, Tryz.results67, go_sem]) rfl ?_
    exact ⟨_, _, _, rfl, Sl.nil _, hb _ _ _⟩

theorem lawSum_any {x y z e1 e2 e3 : Int} {n1 n2 n3 : Bool} {xs ys zs : List Int} (hx : Num x n1 xs) (hy : Num y n2 ys) (hz : Num z n3 zs) (he : sumR (x, e1) (y, e2) = (z, e3)) (ax : Option Addr) (la ca : Nat) (ay : Option Addr) (lb cb : Nat) (w : World) (sx : Sl w ax la ca xs) (sy : Sl w ay lb cb ys) :
    Calls Tryz.prog 67 #[.agg #[.bool n1, .slice ax la ca, .int .i64 e1], .agg #[.bool n2, .slice ay lb cb, .int .i64 e2]] w (RetQ n3 zs e3 w) := by
  obtain ⟨h1, rfl, rfl⟩ := hx
  obtain ⟨h2, rfl, rfl⟩ := hy
  obtain ⟨_, rfl, rfl⟩ := hz
  unfold sumR at he
  by_cases h : e1 = 0 ∧ e2 = 0
  · rw [if_pos h] at he
    obtain ⟨rfl, rfl⟩ := h
    refine lawSum_ok _ ax la ca _ _ ay lb cb _ _ _ _ (parts_last _) w sx sy fun w sx sy => ((Add_ok x y h1 h2 ax la ca ay lb cb w sx sy).mono fun _ _ h => ?_)
    have := h.fit
    rw [he] at this
    exact this
  · rw [if_neg h] at he
    cases he
    have := lawSum_bad (decide (x < 0)) ax la ca e1 (decide (y < 0)) ay lb cb e2 w h
    rw [show decide ((0 : Int) < 0) = false from rfl, show (0 : Int).natAbs = 0 from rfl, parts_zero]
    exact this

set_option maxHeartbeats 1000000 in
theorem lawTimes_ok (n1 : Bool) (ax : Option Addr) (la ca : Nat) (xs : List Int) (n2 : Bool) (ay : Option Addr) (lb cb : Nat) (ys : List Int) (n3 : Bool) (zs : List Int) (e3 : Int) (hzl : zs.getLast? ≠ some 0) (w : World) (hx : Sl w ax la ca xs) (hy : Sl w ay lb cb ys)
    (hc : ∀ w, Sl w ax la ca xs → Sl w ay lb cb ys → Calls Tryz.prog 48 #[.agg #[.bool n1, .slice ax la ca], .agg #[.bool n2, .slice ay lb cb]] w (RetPE n3 zs e3 w)) :
    Calls Tryz.prog 68 #[.agg #[.bool n1, .slice ax la ca, .int .i64 0], .agg #[.bool n2, .slice ay lb cb, .int .i64 0]] w (RetQ n3 zs e3 w) := by
  have Hc := Lib.hid hc
  have Hzl := Lib.hid hzl
  clear hc hzl
  go_enter Tryz.func68, Tryz.ntmps68
  go_wp2_with fail
  (with_reducible refine (Hc.out _ (by exact ((hx.alloc _).alloc _).alloc _) (by exact ((hy.alloc _).alloc _).alloc _)).mono ?_)
  rintro e w1 ⟨a1, l1, c1, rfl, s1, b1⟩
  obtain ⟨_, _, hC, hz, hbb⟩ := kept3 _ _ _ _ b1
  clear b1
  go_wp2_with fail
  (with_reducible refine (got_any _ _ _ _ _ _).mono ?_)
  rintro e w2 ⟨rfl, b2⟩
  have hC2 : Box3 w2 (w.heap.size + 1 + 1) false none 0 0 0 := (b2.block _ (Array.getElem?_eq_some_iff.1 hC).1).trans hC
  obtain ⟨f0, f1, f2⟩ := hC2.cells
  obtain ⟨g0, g1, g2⟩ := hC2.froz
  have hsz := hC2.lt
  have s2 := s1.below b2
  have hb2 := hbb.trans (b2.mono hbb.size)
  have HC := Lib.hid hC2
  clear hC hC2 b2 hbb s1
  go_wp2
  refine bodyPost_ret (v := .agg #[.bool n3, .slice a1 l1 c1, .int .i64 e3]) (by simp [results, Tryz.results68, go_sem, f0, f1, f2]) rfl ?_
  refine ⟨a1, l1, c1, rfl, ?_, ((hb2.setCell (by simp; omega) _).setCell (by simp; omega) _).setCell (by simp; omega) _⟩
  exact s2.pair Hzl.out HC.out _ _ _ _ _

set_option maxHeartbeats 1000000 in
theorem lawTimes_bad (n1 : Bool) (ax : Option Addr) (la ca : Nat) (e1 : Int) (n2 : Bool) (ay : Option Addr) (lb cb : Nat) (e2 : Int) (w : World) (h : ¬ (e1 = 0 ∧ e2 = 0)) :
    Calls Tryz.prog 68 #[.agg #[.bool n1, .slice ax la ca, .int .i64 e1], .agg #[.bool n2, .slice ay lb cb, .int .i64 e2]] w (RetQ false [] 2 w) := by
  have hb : ∀ o p q : Obj, Below w.heap.size w (((w.alloc o).alloc p).alloc q) := fun o p q => below3 w o p q
  by_cases h1 : e1 = 0
  · have h2 : e2 ≠ 0 := fun h' => h ⟨h1, h'⟩
    subst h1
    have hq : (e2 != 0) = true := by simpa using h2
    clear h h2
    go_enter Tryz.func68, Tryz.ntmps68
    go_wp2
    refine bodyPost_ret (v := .agg #[.bool false, .slice none 0 0, .int .i64 2]) (by simp [results, Tryz.results68, go_sem]) rfl ?_
    exact ⟨_, _, _, rfl, Sl.nil _, hb _ _ _⟩
  · have hq : (e1 != 0) = true := by simpa using h1
    clear h h1
    go_enter Tryz.func68, Tryz.ntmps68
    go_wp2
    refine bodyPost_ret (v := .agg #[.bool false, .slice none 0 0, .int .i64 2]) (by simp [results, Tryz.results68, go_sem]) rfl ?_
    exact ⟨_, _, _, rfl, Sl.nil _, hb _ _ _⟩

theorem lawTimes_any {x y z e1 e2 e3 : Int} {n1 n2 n3 : Bool} {xs ys zs : List Int} (hx : Num x n1 xs) (hy : Num y n2 ys) (hz : Num z n3 zs) (he : timesR (x, e1) (y, e2) = (z, e3)) (ax : Option Addr) (la ca : Nat) (ay : Option Addr) (lb cb : Nat) (w : World) (sx : Sl w ax la ca xs) (sy : Sl w ay lb cb ys) :
    Calls Tryz.prog 68 #[.agg #[.bool n1, .slice ax la ca, .int .i64 e1], .agg #[.bool n2, .slice ay lb cb, .int .i64 e2]] w (RetQ n3 zs e3 w) := by
  obtain ⟨h1, rfl, rfl⟩ := hx
  obtain ⟨h2, rfl, rfl⟩ := hy
  obtain ⟨_, rfl, rfl⟩ := hz
  unfold timesR at he
  by_cases h : e1 = 0 ∧ e2 = 0
  · rw [if_pos h] at he
    obtain ⟨rfl, rfl⟩ := h
    refine lawTimes_ok _ ax la ca _ _ ay lb cb _ _ _ _ (parts_last _) w sx sy fun w sx sy => ((Mul_ok x y h1 h2 ax la ca ay lb cb w sx sy).mono fun _ _ h => ?_)
    have := h.fit
    rw [he] at this
    exact this
  · rw [if_neg h] at he
    cases he
    have := lawTimes_bad (decide (x < 0)) ax la ca e1 (decide (y < 0)) ay lb cb e2 w h
    rw [show decide ((0 : Int) < 0) = false from rfl, show (0 : Int).natAbs = 0 from rfl, parts_zero]
    exact this

/-- How Choose ends. -/
def chR (n k : Int) : Int × Int := if n < 0 ∨ 4000 < n then (0, 1) else if k < 0 ∨ n < k then (0, 0) else fitR (ch n.toNat k.toNat)
theorem chooseR (n k : Int) (w : World) : Calls Tryz.prog 62 #[.int .i64 n, .int .i64 k] w (RetE (chR n k).1 (chR n k).2 w) := by
  refine (choose_any n k w).mono fun e w' h => ?_
  obtain ⟨h1, h2, h3⟩ := h
  unfold chR
  by_cases a : n < 0 ∨ 4000 < n
  · rw [if_pos a]; exact h1 a
  · rw [if_neg a]
    by_cases b : k < 0 ∨ n < k
    · rw [if_pos b]; exact h2 (by omega) (by omega) b
    · rw [if_neg b]
      exact Out.fit (h3 (by omega) (by omega) (by omega) (by omega))
theorem chQ {n k z er : Int} {m : Bool} {zs : List Int} (hz : Num z m zs) (he : chR n k = (z, er)) (w : World) : Calls Tryz.prog 62 #[.int .i64 n, .int .i64 k] w (RetPE m zs er w) := by
  obtain ⟨_, rfl, rfl⟩ := hz
  have := chooseR n k w
  rw [he] at this
  exact this
end Go.Proofs.YtkcjjdiklodofaaGreatDoor

/- The walk of NumChoices. -/
namespace Go.Proofs.YtkcjjdiklodofaaGreatDoor
open Go.RowKit

theorem lim_le {x y : Int} (h0 : 0 ≤ x) (h : x ≤ y) (hy : Lim y) : Lim x := by
  rw [lim_iff] at *
  exact Nat.lt_of_le_of_lt (by omega) hy
theorem chR_out {n k : Int} (h : n < 0 ∨ 4000 < n) : chR n k = (0, 1) := if_pos h
theorem chR_none {n k : Int} (h0 : 0 ≤ n) (h1 : n ≤ 4000) (h : k < 0 ∨ n < k) : chR n k = (0, 0) := by
  unfold chR; rw [if_neg (by omega), if_pos h]
theorem chR_in {n k : Int} (h1 : n ≤ 4000) (h2 : 0 ≤ k) (h3 : k ≤ n) : chR n k = fitR (ch n.toNat k.toNat) := by
  unfold chR; rw [if_neg (by omega), if_neg (by omega)]
theorem chR_symm {n k : Int} (h1 : n ≤ 4000) (h2 : 0 ≤ k) (h3 : k ≤ n) : chR n (n - k) = chR n k := by
  rw [chR_in h1 (by omega) (by omega), chR_in h1 h2 h3, show (n - k).toNat = n.toNat - k.toNat by omega, ch_symm _ _ (by omega)]
theorem chR_fits {n k z : Int} (h1 : n ≤ 4000) (h2 : 0 ≤ k) (h3 : k ≤ n) (h : chR n k = (z, 0)) : z = ch n.toNat k.toNat ∧ Lim z ∧ 0 < z := by
  rw [chR_in h1 h2 h3] at h
  by_cases hl : Lim (ch n.toNat k.toNat)
  · rw [fitR_ok hl] at h
    cases h
    exact ⟨rfl, hl, by have := ch_pos n.toNat k.toNat (by omega); omega⟩
  · rw [fitR_no hl] at h
    cases h
theorem chR_err {n k z er : Int} (h1 : n ≤ 4000) (h2 : 0 ≤ k) (h3 : k ≤ n) (h : chR n k = (z, er)) (hn : er ≠ 0) : er = 2 := by
  rw [chR_in h1 h2 h3] at h
  by_cases hl : Lim (ch n.toNat k.toNat)
  · rw [fitR_ok hl] at h
    cases h
    exact absurd rfl hn
  · rw [fitR_no hl] at h
    cases h
    rfl
theorem chR_sum {n k z : Int} (h0 : 0 < n) (h1 : n ≤ 4000) (h2 : 0 ≤ k) (h3 : k ≤ n) (h : chR n k = (z, 0)) : ∃ a b, chR (n - 1) (k - 1) = (a, 0) ∧ chR (n - 1) k = (b, 0) ∧ Lim a ∧ Lim b ∧ a + b = z := by
  obtain ⟨hz, hl, hp⟩ := chR_fits h1 h2 h3 h
  obtain ⟨N, rfl⟩ : ∃ N : Nat, n = N + 1 := ⟨(n - 1).toNat, by omega⟩
  rw [show ((N : Int) + 1 - 1) = N by omega]
  by_cases hk : k = 0
  · subst hk
    have e1 : chR N 0 = (1, 0) := by
      rw [chR_in (n := N) (k := 0) (by omega) (by omega) (by omega), show (0 : Int).toNat = 0 from rfl, ch_zero, fitR_ok (lim_le (by omega) (by omega) hl)]
      rfl
    rw [show (0 : Int).toNat = 0 from rfl, ch_zero] at hz
    exact ⟨0, 1, chR_none (by omega) (by omega) (by omega), e1, Lim.zero, lim_le (by omega) (by omega) hl, by omega⟩
  · obtain ⟨K, rfl⟩ : ∃ K : Nat, k = K + 1 := ⟨(k - 1).toNat, by omega⟩
    rw [show ((N : Int) + 1).toNat = N + 1 by omega, show ((K : Int) + 1).toNat = K + 1 by omega, ch_succ] at hz
    rw [show ((K : Int) + 1 - 1) = K by omega]
    have e1 : chR N K = (((ch N K : Nat) : Int), 0) := by
      rw [chR_in (n := N) (k := K) (by omega) (by omega) (by omega), show (N : Int).toNat = N by omega, show (K : Int).toNat = K by omega, fitR_ok (lim_le (by omega) (by omega) hl)]
    have e2 : chR N (K + 1) = (((ch N (K + 1) : Nat) : Int), 0) := by
      by_cases hg : N < K + 1
      · rw [chR_none (n := N) (k := (K : Int) + 1) (by omega) (by omega) (by omega), ch_gt _ _ hg]; rfl
      · rw [chR_in (n := N) (k := (K : Int) + 1) (by omega) (by omega) (by omega), show (N : Int).toNat = N by omega, show ((K : Int) + 1).toNat = K + 1 by omega, fitR_ok (lim_le (by omega) (by omega) hl)]
    exact ⟨_, _, e1, e2, lim_le (by omega) (by omega) hl, lim_le (by omega) (by omega) hl, by omega⟩
/-- The law's same at a pair and itself. -/
theorem pairSelf {z : Int} {n : Bool} {xs : List Int} (hz : Num z n xs) (er : Int) (ax : Option Addr) (la ca : Nat) (ay : Option Addr) (lb cb : Nat) (w : World) (hx : Sl w ax la ca xs) (hy : Sl w ay lb cb xs) :
    Calls Tryz.prog 27 #[.agg #[.bool n, .slice ax la ca, .int .i64 er], .agg #[.bool n, .slice ay lb cb, .int .i64 er]] w (RetBool true w) := by
  obtain ⟨_, rfl, rfl⟩ := hz
  have h := lawSame_any (decide (z < 0)) ax la ca (parts z.natAbs) er (decide (z < 0)) ay lb cb (parts z.natAbs) er w hx hy
  rwa [sameI_num, show (decide (er = er) && decide (z = z)) = true by simp] at h
theorem signP {z : Int} {n : Bool} {xs : List Int} (hz : Num z n xs) (ao : Option Addr) (len cap : Nat) (w : World) (hs : Sl w ao len cap xs) :
    Calls Tryz.prog 40 #[.agg #[.bool n, .slice ao len cap]] w (RetB (cmp3 z 0) w) := by
  obtain ⟨h, rfl, rfl⟩ := hz
  have := sign_any (decide (z < 0)) ao len cap w (by have := hs.len_le; omega)
  rwa [sign_num z len hs.length] at this
set_option maxRecDepth 100000 in
set_option maxHeartbeats 4000000 in
theorem choices_out (n k : Int) (w : World) (ht : Tab w) (h : n < 0 ∨ 4000 < n) : Calls Tryz.prog 15 #[.int .i64 n, .int .i64 k] w (RetBool true w) := by
  have Hc := Lib.hid (fun w => chQ (n := n) (k := k) (Num.of 0 (by decide)) (chR_out h) w)
  have Z0 : Num 0 false [] := ⟨Lim.zero, rfl, by rw [show (0 : Int).natAbs = 0 from rfl, parts_zero]⟩
  replace Hc := Lib.hid (fun w => chQ (n := n) (k := k) Z0 (chR_out h) w)
  clear Z0
  rcases h with h | h
  all_goals
    go_enter Tryz.func15, Tryz.ntmps15
    go_wp2_with fail
    (with_reducible refine (sane_any _ ht).mono ?_)
    rintro e w1 ⟨rfl, b1⟩
    clear ht
    go_wp2_with fail
    (with_reducible refine (Hc.out _).mono ?_)
    rintro e w2 ⟨a2, l2, c2, rfl, s2, b2⟩
    have B2 := b1.trans (b2.mono b1.size)
    clear b1 b2
    go_wp2_with fail
    (with_reducible refine (got_any _ _ _ _ _ _).mono ?_)
    rintro e w3 ⟨rfl, b3⟩
    have B3 := B2.trans (b3.mono B2.size)
    have s3 := s2.below b3
    clear B2 s2 b3
    go_wp2
    go_ret
    exact ⟨rfl, B3.trans (((Below.refl _ w3).alloc (Nat.le_refl _) _).mono B3.size)⟩
set_option maxRecDepth 100000 in
set_option maxHeartbeats 4000000 in
theorem choices_none (n k : Int) (w : World) (ht : Tab w) (h0 : 0 ≤ n) (h1 : n ≤ 4000) (h : k < 0 ∨ n < k) : Calls Tryz.prog 15 #[.int .i64 n, .int .i64 k] w (RetBool true w) := by
  have Z0 : Num 0 false [] := ⟨Lim.zero, rfl, by rw [show (0 : Int).natAbs = 0 from rfl, parts_zero]⟩
  have Hc := Lib.hid (fun w => chQ (n := n) (k := k) Z0 (chR_none h0 h1 h) w)
  have Of := Lib.hid (fun w => ofP Z0 (by omega) (by omega) w)
  have Sm := Lib.hid (fun ax la ca ay lb cb w hx hy => pairSelf Z0 0 ax la ca ay lb cb w hx hy)
  clear Z0
  rcases h with h | h
  all_goals
    go_enter Tryz.func15, Tryz.ntmps15
    go_wp2_with fail
    (with_reducible refine (sane_any _ ht).mono ?_)
    rintro e w1 ⟨rfl, b1⟩
    clear ht
    go_wp2_with fail
    (with_reducible refine (Hc.out _).mono ?_)
    rintro e w2 ⟨a2, l2, c2, rfl, s2, b2⟩
    have B2 := b1.trans (b2.mono b1.size)
    clear b1 b2
    go_wp2_with fail
    (with_reducible refine (got_any _ _ _ _ _ _).mono ?_)
    rintro e w3 ⟨rfl, b3⟩
    have B3 := B2.trans (b3.mono B2.size)
    have s3 := s2.below b3
    clear B2 s2 b3
    go_wp2
    have T0 := (Box3.new w3 false a2 l2 c2 0).drew
    have c0 := T0.cells
    have U0 := ((Below.refl _ w3).alloc (Nat.le_refl _) (.cells #[.bool false, .slice a2 l2 c2, .int .i64 0] 38)).drew
    replace U0 := B3.trans (U0.mono B3.size)
    have s4 := (s3.alloc (.cells #[.bool false, .slice a2 l2 c2, .int .i64 0] 38)).drew
    clear B3 s3
    go_region_held3 (fun w' => w'.cell? ⟨w3.heap.size, 0, none⟩ = some (.bool false) ∧ w'.cell? ⟨w3.heap.size, 1, none⟩ = some (.slice a2 l2 c2) ∧ w'.cell? ⟨w3.heap.size, 2, none⟩ = some (.int .i64 0)) (first | with_reducible exact c0 | exact c0) (first | (go_at_call 69; (with_reducible refine (Of.out _).mono ?_); rintro e wq ⟨qa, ql, qc, rfl, sq, bq⟩; replace T0 := T0.below bq; replace c0 := T0.cells; replace U0 := U0.trans (bq.mono U0.size); replace s4 := s4.below bq; clear bq) | (go_at_call 65; (with_reducible refine (lawVal_any _ _ _ _ _).mono ?_); rintro e wq ⟨rfl, bq⟩; replace T0 := T0.below bq; replace c0 := T0.cells; replace U0 := U0.trans (bq.mono U0.size); replace s4 := s4.below bq; replace sq := sq.below bq; clear bq) | (go_at_call 27; (with_reducible refine (Sm.out _ _ _ _ _ _ _ s4 sq).mono ?_); rintro e wq ⟨rfl, bq⟩; replace T0 := T0.below bq; replace c0 := T0.cells; replace U0 := U0.trans (bq.mono U0.size); replace s4 := s4.below bq; clear bq))
    all_goals go_wp2
    all_goals go_ret
    all_goals exact ⟨rfl, U0⟩
set_option maxRecDepth 100000 in
set_option maxHeartbeats 4000000 in
theorem choices_zero (w : World) (ht : Tab w) : Calls Tryz.prog 15 #[.int .i64 0, .int .i64 0] w (RetBool true w) := by
  have hz : chR 0 0 = (1, 0) := by
    rw [chR_in (by omega) (by omega) (by omega), show (0 : Int).toNat = 0 from rfl, ch_zero, fitR_ok ((lim_iff _).2 (by decide +kernel))]; rfl
  obtain ⟨m, zs, N⟩ := num_ex 1 (by decide +kernel)
  have Hc := Lib.hid (fun w => chQ (n := 0) (k := 0) N hz w)
  have Sm := Lib.hid (fun ax la ca ay lb cb w hx hy => pairSelf N 0 ax la ca ay lb cb w hx hy)
  have Of := Lib.hid (fun w => ofP N (by omega) (by omega) w)
  have Sg := Lib.hid (fun ao len cap w hs => signP N ao len cap w hs)
  rw [show cmp3 1 0 = 1 from rfl] at Sg
  clear N hz
  go_enter Tryz.func15, Tryz.ntmps15
  go_wp2_with fail
  (with_reducible refine (sane_any _ ht).mono ?_)
  rintro e w1 ⟨rfl, b1⟩
  clear ht
  go_wp2_with fail
  (with_reducible refine (Hc.out _).mono ?_)
  rintro e w2 ⟨a2, l2, c2, rfl, s2, b2⟩
  have B2 := b1.trans (b2.mono b1.size)
  clear b1 b2
  go_wp2_with fail
  (with_reducible refine (got_any _ _ _ _ _ _).mono ?_)
  rintro e w3 ⟨rfl, b3⟩
  have B3 := B2.trans (b3.mono B2.size)
  have s3 := s2.below b3
  clear B2 s2 b3
  go_wp2
  have T0 := (Box3.new w3 m a2 l2 c2 0).drew
  have c0 := T0.cells
  have U0 := ((Below.refl _ w3).alloc (Nat.le_refl _) (.cells #[.bool m, .slice a2 l2 c2, .int .i64 0] 38)).drew
  replace U0 := B3.trans (U0.mono B3.size)
  have s4 := (s3.alloc (.cells #[.bool m, .slice a2 l2 c2, .int .i64 0] 38)).drew
  clear B3 s3
  go_region_held3 (fun w' => w'.cell? ⟨w3.heap.size, 0, none⟩ = some (.bool m) ∧ w'.cell? ⟨w3.heap.size, 1, none⟩ = some (.slice a2 l2 c2) ∧ w'.cell? ⟨w3.heap.size, 2, none⟩ = some (.int .i64 0)) (first | with_reducible exact c0 | exact c0) (first | (go_at_call 62; (refine (Hc.out _).mono ?_); rintro e wq ⟨qa, ql, qc, rfl, sq, bq⟩; replace T0 := T0.below bq; replace c0 := T0.cells; replace U0 := U0.trans (bq.mono U0.size); replace s4 := s4.below bq; clear bq) | (go_at_call 28; (with_reducible refine (got_any _ _ _ _ _ _).mono ?_); rintro e wq ⟨rfl, bq⟩; replace T0 := T0.below bq; replace c0 := T0.cells; replace U0 := U0.trans (bq.mono U0.size); replace s4 := s4.below bq; replace sq := sq.below bq; clear bq) | (go_at_call 27; (with_reducible refine (Sm.out _ _ _ _ _ _ _ s4 sq).mono ?_); rintro e wq ⟨rfl, bq⟩; replace T0 := T0.below bq; replace c0 := T0.cells; replace U0 := U0.trans (bq.mono U0.size); replace s4 := s4.below bq; clear sq bq) | (go_at_call 40; (with_reducible refine (Sg.out _ _ _ _ s4).mono ?_); rintro e wq ⟨rfl, bq⟩; replace T0 := T0.below bq; replace c0 := T0.cells; replace U0 := U0.trans (bq.mono U0.size); replace s4 := s4.below bq; clear bq))
  all_goals go_wp2
  replace T0 := T0.drew; replace c0 := T0.cells; replace U0 := U0.drew; replace s4 := s4.drew
  go_region_held3 (fun w' => w'.cell? ⟨w3.heap.size, 0, none⟩ = some (.bool m) ∧ w'.cell? ⟨w3.heap.size, 1, none⟩ = some (.slice a2 l2 c2) ∧ w'.cell? ⟨w3.heap.size, 2, none⟩ = some (.int .i64 0)) (first | with_reducible exact c0 | exact c0) (first | (go_at_call 69; (with_reducible refine (Of.out _).mono ?_); rintro e wq ⟨qa, ql, qc, rfl, sq, bq⟩; replace T0 := T0.below bq; replace c0 := T0.cells; replace U0 := U0.trans (bq.mono U0.size); replace s4 := s4.below bq; clear bq) | (go_at_call 65; (with_reducible refine (lawVal_any _ _ _ _ _).mono ?_); rintro e wq ⟨rfl, bq⟩; replace T0 := T0.below bq; replace c0 := T0.cells; replace U0 := U0.trans (bq.mono U0.size); replace s4 := s4.below bq; replace sq := sq.below bq; clear bq) | (go_at_call 27; (with_reducible refine (Sm.out _ _ _ _ _ _ _ s4 sq).mono ?_); rintro e wq ⟨rfl, bq⟩; replace T0 := T0.below bq; replace c0 := T0.cells; replace U0 := U0.trans (bq.mono U0.size); replace s4 := s4.below bq; clear bq))
  all_goals go_wp2
  all_goals go_ret
  all_goals exact ⟨rfl, U0⟩
set_option maxRecDepth 100000 in
set_option maxHeartbeats 4000000 in
theorem choices_big (n k : Int) (w : World) (ht : Tab w) (h1 : n ≤ 4000) (h2 : 0 ≤ k) (h3 : k ≤ n) (h4 : 0 < n) (z : Int) (hz : chR n k = (z, 2)) (a ea b eb : Int) (ha : chR (n - 1) (k - 1) = (a, ea)) (hb : chR (n - 1) k = (b, eb)) (la : Lim a) (lb : Lim b) : Calls Tryz.prog 15 #[.int .i64 n, .int .i64 k] w (RetBool true w) := by
  have hl : Lim z := by have := fitR_lim (ch n.toNat k.toNat); rw [← chR_in h1 h2 h3, hz] at this; exact this
  obtain ⟨m, zs, N⟩ : ∃ m zs, Num z m zs := ⟨_, _, hl, rfl, rfl⟩
  have Hc := Lib.hid (fun w => chQ (n := n) (k := k) N hz w)
  have Hs := Lib.hid (fun w => chQ (n := n) (k := n - k) N ((chR_symm h1 h2 h3).trans hz) w)
  have Sm := Lib.hid (fun ax la ca ay lb cb w hx hy => pairSelf N 2 ax la ca ay lb cb w hx hy)
  obtain ⟨ma, xa, Na⟩ : ∃ m zs, Num a m zs := ⟨_, _, la, rfl, rfl⟩
  obtain ⟨mb, xb, Nb⟩ : ∃ m zs, Num b m zs := ⟨_, _, lb, rfl, rfl⟩
  have Ha := Lib.hid (fun w => chQ (n := n - 1) (k := k - 1) Na ha w)
  have Hb := Lib.hid (fun w => chQ (n := n - 1) (k := k) Nb hb w)
  clear N hl hz Na Nb ha hb la lb
  have hq : ((2 : Int) == 0) = false := rfl
  have hq2 : ((2 : Int) != 0) = true := rfl
  go_enter Tryz.func15, Tryz.ntmps15
  go_wp2_with fail
  (with_reducible refine (sane_any _ ht).mono ?_)
  rintro e w1 ⟨rfl, b1⟩
  clear ht
  go_wp2_with fail
  (with_reducible refine (Hc.out _).mono ?_)
  rintro e w2 ⟨a2, l2, c2, rfl, s2, b2⟩
  have B2 := b1.trans (b2.mono b1.size)
  clear b1 b2
  go_wp2_with fail
  (with_reducible refine (got_any _ _ _ _ _ _).mono ?_)
  rintro e w3 ⟨rfl, b3⟩
  have B3 := B2.trans (b3.mono B2.size)
  have s3 := s2.below b3
  clear B2 s2 b3
  go_wp2
  have T0 := (Box3.new w3 m a2 l2 c2 2).drew
  have c0 := T0.cells
  have U0 := ((Below.refl _ w3).alloc (Nat.le_refl _) (.cells #[.bool m, .slice a2 l2 c2, .int .i64 2] 38)).drew
  replace U0 := B3.trans (U0.mono B3.size)
  have s4 := (s3.alloc (.cells #[.bool m, .slice a2 l2 c2, .int .i64 2] 38)).drew
  clear B3 s3
  have hwr : IntKind.i64.wrap (n - k) = n - k := IntWalk.i64_in _ (by omega)
  first | (go_region_with (first | (go_at_call 62; (with_reducible refine (Hs.out _).mono ?_); rintro e wq ⟨qa, ql, qc, rfl, sq, bq⟩; replace T0 := T0.below bq; replace c0 := T0.cells; replace U0 := U0.trans (bq.mono U0.size); replace s4 := s4.below bq; clear bq) | (go_at_call 28; (with_reducible refine (got_any _ _ _ _ _ _).mono ?_); rintro e wq ⟨rfl, bq⟩; replace T0 := T0.below bq; replace c0 := T0.cells; replace U0 := U0.trans (bq.mono U0.size); replace s4 := s4.below bq; replace sq := sq.below bq; clear bq) | (go_at_call 27; (with_reducible refine (Sm.out _ _ _ _ _ _ _ s4 sq).mono ?_); rintro e wq ⟨rfl, bq⟩; replace T0 := T0.below bq; replace c0 := T0.cells; replace U0 := U0.trans (bq.mono U0.size); replace s4 := s4.below bq; clear sq bq))) | fail
  all_goals clear hwr
  all_goals
    have hn0 : ((n : Int) == 0) = false := by simp; omega
    have hw1 : IntKind.i64.wrap (n - 1) = n - 1 := IntWalk.i64_in _ (by omega)
    have hw2 : IntKind.i64.wrap (k - 1) = k - 1 := IntWalk.i64_in _ (by omega)
    go_wp2_with fail
    (with_reducible refine (Ha.out _).mono ?_)
    rintro e wq ⟨a5, l5, c5, rfl, s5, bq⟩
    replace T0 := T0.below bq; replace c0 := T0.cells; replace U0 := U0.trans (bq.mono U0.size); replace s4 := s4.below bq; clear bq
    go_wp2_with fail
    (with_reducible refine (got_any _ _ _ _ _ _).mono ?_)
    rintro e wq ⟨rfl, bq⟩
    replace T0 := T0.below bq; replace c0 := T0.cells; replace U0 := U0.trans (bq.mono U0.size); replace s4 := s4.below bq; replace s5 := s5.below bq; clear bq
    go_wp2_with fail
    (with_reducible refine (Hb.out _).mono ?_)
    rintro e wq ⟨a6, l6, c6, rfl, s6, bq⟩
    replace T0 := T0.below bq; replace c0 := T0.cells; replace U0 := U0.trans (bq.mono U0.size); replace s4 := s4.below bq; replace s5 := s5.below bq; clear bq
    go_wp2_with fail
    (with_reducible refine (got_any _ _ _ _ _ _).mono ?_)
    rintro e wy ⟨rfl, bq⟩
    replace T0 := T0.below bq; replace c0 := T0.cells; replace U0 := U0.trans (bq.mono U0.size); replace s4 := s4.below bq; replace s5 := s5.below bq; replace s6 := s6.below bq; clear bq
    clear hw1 hw2
    have b7 := below2 wy (.cells #[.bool ma, .slice a5 l5 c5, .int .i64 ea] 38) (.cells #[.bool mb, .slice a6 l6 c6, .int .i64 eb] 38)
    replace T0 := (T0.below (((Below.refl _ _).alloc (Nat.le_refl _) (.cells #[.bool ma, .slice a5 l5 c5, .int .i64 ea] 38)).alloc (by simp) (.cells #[.bool mb, .slice a6 l6 c6, .int .i64 eb] 38))).drew
    replace c0 := T0.cells
    replace U0 := (U0.trans (b7.mono U0.size)).drew
    clear b7
    go_wp2
    first | (go_region_with (fail)) | fail
    all_goals go_wp2
    all_goals go_ret
    all_goals exact ⟨rfl, U0⟩
set_option maxRecDepth 100000 in
set_option maxHeartbeats 4000000 in
theorem choices_fits (n k : Int) (w : World) (ht : Tab w) (h1 : n ≤ 4000) (h2 : 0 ≤ k) (h3 : k ≤ n) (h4 : 0 < n) (z : Int) (hz : chR n k = (z, 0)) (a b : Int) (ha : chR (n - 1) (k - 1) = (a, 0)) (hb : chR (n - 1) k = (b, 0)) (la : Lim a) (lb : Lim b) (hab : a + b = z) : Calls Tryz.prog 15 #[.int .i64 n, .int .i64 k] w (RetBool true w) := by
  have hl : Lim z := by have := fitR_lim (ch n.toNat k.toNat); rw [← chR_in h1 h2 h3, hz] at this; exact this
  obtain ⟨m, zs, N⟩ : ∃ m zs, Num z m zs := ⟨_, _, hl, rfl, rfl⟩
  have Hc := Lib.hid (fun w => chQ (n := n) (k := k) N hz w)
  have Hs := Lib.hid (fun w => chQ (n := n) (k := n - k) N ((chR_symm h1 h2 h3).trans hz) w)
  have Sm := Lib.hid (fun ax la ca ay lb cb w hx hy => pairSelf N 0 ax la ca ay lb cb w hx hy)
  obtain ⟨ma, xa, Na⟩ : ∃ m zs, Num a m zs := ⟨_, _, la, rfl, rfl⟩
  obtain ⟨mb, xb, Nb⟩ : ∃ m zs, Num b m zs := ⟨_, _, lb, rfl, rfl⟩
  have Ha := Lib.hid (fun w => chQ (n := n - 1) (k := k - 1) Na ha w)
  have Hb := Lib.hid (fun w => chQ (n := n - 1) (k := k) Nb hb w)
  have hsum : sumR (a, 0) (b, 0) = (z, 0) := by unfold sumR; rw [if_pos ⟨rfl, rfl⟩, hab, fitR_ok hl]
  have Su := Lib.hid (fun ax la ca ay lb cb w hx hy => lawSum_any Na Nb N hsum ax la ca ay lb cb w hx hy)
  have hp := (chR_fits h1 h2 h3 hz).2.2
  have Sg := Lib.hid (fun ao len cap w hs => signP N ao len cap w hs)
  rw [show cmp3 z 0 = 1 by unfold cmp3; rw [if_neg (by omega), if_neg (by omega)]] at Sg
  clear N hl hz Na Nb ha hb la lb hsum hab hp
  go_enter Tryz.func15, Tryz.ntmps15
  go_wp2_with fail
  (with_reducible refine (sane_any _ ht).mono ?_)
  rintro e w1 ⟨rfl, b1⟩
  clear ht
  go_wp2_with fail
  (with_reducible refine (Hc.out _).mono ?_)
  rintro e w2 ⟨a2, l2, c2, rfl, s2, b2⟩
  have B2 := b1.trans (b2.mono b1.size)
  clear b1 b2
  go_wp2_with fail
  (with_reducible refine (got_any _ _ _ _ _ _).mono ?_)
  rintro e w3 ⟨rfl, b3⟩
  have B3 := B2.trans (b3.mono B2.size)
  have s3 := s2.below b3
  clear B2 s2 b3
  go_wp2
  have T0 := (Box3.new w3 m a2 l2 c2 0).drew
  have c0 := T0.cells
  have U0 := ((Below.refl _ w3).alloc (Nat.le_refl _) (.cells #[.bool m, .slice a2 l2 c2, .int .i64 0] 38)).drew
  replace U0 := B3.trans (U0.mono B3.size)
  have s4 := (s3.alloc (.cells #[.bool m, .slice a2 l2 c2, .int .i64 0] 38)).drew
  clear B3 s3
  have hwr : IntKind.i64.wrap (n - k) = n - k := IntWalk.i64_in _ (by omega)
  go_region_held3 (fun w' => w'.cell? ⟨w3.heap.size, 0, none⟩ = some (.bool m) ∧ w'.cell? ⟨w3.heap.size, 1, none⟩ = some (.slice a2 l2 c2) ∧ w'.cell? ⟨w3.heap.size, 2, none⟩ = some (.int .i64 0)) (first | with_reducible exact c0 | exact c0) (first | (go_at_call 62; (with_reducible refine (Hs.out _).mono ?_); rintro e wq ⟨qa, ql, qc, rfl, sq, bq⟩; replace T0 := T0.below bq; replace c0 := T0.cells; replace U0 := U0.trans (bq.mono U0.size); replace s4 := s4.below bq; clear bq) | (go_at_call 28; (with_reducible refine (got_any _ _ _ _ _ _).mono ?_); rintro e wq ⟨rfl, bq⟩; replace T0 := T0.below bq; replace c0 := T0.cells; replace U0 := U0.trans (bq.mono U0.size); replace s4 := s4.below bq; replace sq := sq.below bq; clear bq) | (go_at_call 27; (with_reducible refine (Sm.out _ _ _ _ _ _ _ s4 sq).mono ?_); rintro e wq ⟨rfl, bq⟩; replace T0 := T0.below bq; replace c0 := T0.cells; replace U0 := U0.trans (bq.mono U0.size); replace s4 := s4.below bq; clear sq bq) | (go_at_call 40; (with_reducible refine (Sg.out _ _ _ _ s4).mono ?_); rintro e wq ⟨rfl, bq⟩; replace T0 := T0.below bq; replace c0 := T0.cells; replace U0 := U0.trans (bq.mono U0.size); replace s4 := s4.below bq; clear bq))
  clear hwr
  have hn0 : ((n : Int) == 0) = false := by simp; omega
  have hw1 : IntKind.i64.wrap (n - 1) = n - 1 := IntWalk.i64_in _ (by omega)
  have hw2 : IntKind.i64.wrap (k - 1) = k - 1 := IntWalk.i64_in _ (by omega)
  go_wp2_with fail
  (with_reducible refine (Ha.out _).mono ?_)
  rintro e wq ⟨a5, l5, c5, rfl, s5, bq⟩
  replace T0 := T0.below bq; replace c0 := T0.cells; replace U0 := U0.trans (bq.mono U0.size); replace s4 := s4.below bq; clear bq
  go_wp2_with fail
  (with_reducible refine (got_any _ _ _ _ _ _).mono ?_)
  rintro e wq ⟨rfl, bq⟩
  replace T0 := T0.below bq; replace c0 := T0.cells; replace U0 := U0.trans (bq.mono U0.size); replace s4 := s4.below bq; replace s5 := s5.below bq; clear bq
  go_wp2_with fail
  (with_reducible refine (Hb.out _).mono ?_)
  rintro e wq ⟨a6, l6, c6, rfl, s6, bq⟩
  replace T0 := T0.below bq; replace c0 := T0.cells; replace U0 := U0.trans (bq.mono U0.size); replace s4 := s4.below bq; replace s5 := s5.below bq; clear bq
  go_wp2_with fail
  (with_reducible refine (got_any _ _ _ _ _ _).mono ?_)
  rintro e wy ⟨rfl, bq⟩
  replace T0 := T0.below bq; replace c0 := T0.cells; replace U0 := U0.trans (bq.mono U0.size); replace s4 := s4.below bq; replace s5 := s5.below bq; replace s6 := s6.below bq; clear bq
  clear hw1 hw2
  have b7 := below2 wy (.cells #[.bool ma, .slice a5 l5 c5, .int .i64 0] 38) (.cells #[.bool mb, .slice a6 l6 c6, .int .i64 0] 38)
  have T1 := ((Box3.new wy ma a5 l5 c5 0).below ((Below.refl _ (wy.alloc (.cells #[.bool ma, .slice a5 l5 c5, .int .i64 0] 38))).alloc (Nat.le_refl _) (.cells #[.bool mb, .slice a6 l6 c6, .int .i64 0] 38))).drew
  have T2 := (Box3.new (wy.alloc (.cells #[.bool ma, .slice a5 l5 c5, .int .i64 0] 38)) mb a6 l6 c6 0).drew
  replace T0 := (T0.below (((Below.refl _ _).alloc (Nat.le_refl _) (.cells #[.bool ma, .slice a5 l5 c5, .int .i64 0] 38)).alloc (by simp) (.cells #[.bool mb, .slice a6 l6 c6, .int .i64 0] 38))).drew
  replace U0 := (U0.trans (b7.mono U0.size)).drew
  replace s4 := ((s4.alloc (.cells #[.bool ma, .slice a5 l5 c5, .int .i64 0] 38)).alloc (.cells #[.bool mb, .slice a6 l6 c6, .int .i64 0] 38)).drew
  replace s5 := ((s5.alloc (.cells #[.bool ma, .slice a5 l5 c5, .int .i64 0] 38)).alloc (.cells #[.bool mb, .slice a6 l6 c6, .int .i64 0] 38)).drew
  replace s6 := ((s6.alloc (.cells #[.bool ma, .slice a5 l5 c5, .int .i64 0] 38)).alloc (.cells #[.bool mb, .slice a6 l6 c6, .int .i64 0] 38)).drew
  replace c0 := T0.cells
  have d1 := T1.cells
  have d2 := T2.cells
  rw [show (wy.alloc (.cells #[.bool ma, .slice a5 l5 c5, .int .i64 0] 38)).heap.size = wy.heap.size + 1 by simp] at d2 T2
  clear b7
  go_wp2
  go_region_held3 (fun w' => (w'.cell? ⟨w3.heap.size, 0, none⟩ = some (.bool m) ∧ w'.cell? ⟨w3.heap.size, 1, none⟩ = some (.slice a2 l2 c2) ∧ w'.cell? ⟨w3.heap.size, 2, none⟩ = some (.int .i64 0)) ∧ (w'.cell? ⟨wy.heap.size, 0, none⟩ = some (.bool ma) ∧ w'.cell? ⟨wy.heap.size, 1, none⟩ = some (.slice a5 l5 c5) ∧ w'.cell? ⟨wy.heap.size, 2, none⟩ = some (.int .i64 0)) ∧ (w'.cell? ⟨wy.heap.size + 1, 0, none⟩ = some (.bool mb) ∧ w'.cell? ⟨wy.heap.size + 1, 1, none⟩ = some (.slice a6 l6 c6) ∧ w'.cell? ⟨wy.heap.size + 1, 2, none⟩ = some (.int .i64 0))) (first | with_reducible exact ⟨c0, d1, d2⟩ | exact ⟨c0, d1, d2⟩) (first | (go_at_call 67; (with_reducible refine (Su.out _ _ _ _ _ _ _ s5 s6).mono ?_); rintro e wq ⟨qa, ql, qc, rfl, sq, bq⟩; replace s4 := s4.below bq; replace T0 := T0.below bq; replace T1 := T1.below bq; replace T2 := T2.below bq; replace c0 := T0.cells; replace d1 := T1.cells; replace d2 := T2.cells; replace U0 := U0.trans (bq.mono U0.size); clear bq) | (go_at_call 27; (with_reducible refine (Sm.out _ _ _ _ _ _ _ sq s4).mono ?_); rintro e wq ⟨rfl, bq⟩; replace T0 := T0.below bq; replace T1 := T1.below bq; replace T2 := T2.below bq; replace c0 := T0.cells; replace d1 := T1.cells; replace d2 := T2.cells; replace U0 := U0.trans (bq.mono U0.size); clear bq))
  all_goals go_wp2
  all_goals go_ret
  all_goals exact ⟨rfl, U0⟩
theorem numChoices_any (n k : Int) (w : World) (ht : Tab w) : Calls Tryz.prog 15 #[.int .i64 n, .int .i64 k] w (RetBool true w) := by
  by_cases h : n < 0 ∨ 4000 < n
  · exact choices_out n k w ht h
  · by_cases h' : k < 0 ∨ n < k
    · exact choices_none n k w ht (by omega) (by omega) h'
    · by_cases h0 : n = 0
      · obtain rfl : k = 0 := by omega
        subst h0
        exact choices_zero w ht
      · obtain ⟨⟨z, er⟩, hz⟩ : ∃ p : Int × Int, chR n k = p := ⟨_, rfl⟩
        by_cases he : er = 0
        · subst he
          obtain ⟨a, b, ha, hb, la, lb, hab⟩ := chR_sum (by omega) (by omega) (by omega) (by omega) hz
          exact choices_fits n k w ht (by omega) (by omega) (by omega) (by omega) z hz a b ha hb la lb hab
        · obtain rfl := chR_err (by omega) (by omega) (by omega) hz he
          have hl : ∀ n k, Lim (chR n k).1 := by
            intro n k
            unfold chR
            split
            · exact Lim.zero
            · split
              · exact Lim.zero
              · exact fitR_lim _
          exact choices_big n k w ht (by omega) (by omega) (by omega) (by omega) z hz _ _ _ _ rfl rfl (hl _ _) (hl _ _)
end Go.Proofs.YtkcjjdiklodofaaGreatDoor

/- NumChoices: for all n and k the law answers true. -/
namespace Go.Proofs.YtkcjjdiklodofaaGreatDoor.lawChoices
open Go.ChangeShapes Go.WideShapes Go.ChangeAt Go.RowKit

theorem door_met (os : Os) (args : Array Value) : laidMetH Tryz.prog Rows.numChoicesRow.laid ((World.doorLaid Tryz.prog 24 os).forCall (fun _ _ => 0) ⟨#[], args, []⟩).memory :=
  laidMetH_of_parts3 (fuel := 8) (laidMet_of_run' 8 (by kernel_rfl) (by kernel_rfl)) (by kernel_rfl) (by kernel_rfl)

set_option maxRecDepth 100000 in
theorem lifted (os : Os) (started : os.Started) (H : Type) (enc : TypeId × Value → H) :
    ReturnsInHanded {} Tryz.checked os 15 .any (fun w args => (Rows.numChoicesSpec.pre enc Tryz.prog Tryz.f15 [] false w args ∧ laidMetH Tryz.prog Rows.numChoicesRow.laid w) ∧ sizedMet enc Tryz.prog Tryz.f15 (OpenSpec.ofChange Rows.numChoicesSpec) false w args)
      (Rows.numChoicesSpec.post enc Tryz.prog Tryz.f15 false true false false) := by
  refine returnsInHanded_of_change_and (C := Tryz.checked) (X := fun w _ => laidMetH Tryz.prog Rows.numChoicesRow.laid w) (fun _ _ _ hh h => h.of_heap hh) lift_own started (by kernel_rfl) Tryz.func15
    (ChangeSpec.witness_shaped (enc := enc) (C := Tryz.checked) (os := os) (X := fun w _ => laidMetH Tryz.prog Rows.numChoicesRow.laid w) false (World.doorLaid Tryz.prog 24 os) #[.int .i64 0, .int .i64 0] 8 rfl (World.shaped_of_RefB (by kernel_rfl) (by kernel_rfl)) (by kernel_rfl) (by kernel_rfl) (by kernel_rfl) (door_met os _)) ?_
  intro W base args ds gs before hval0 hW _ _ hL _
  have hval : ∀ (j : Nat) t v, Tryz.f15.params[j]? = some t → args[j]? = some v → Value.okWide Tryz.prog W .any base t v := hval0
  have hW' := hW
  obtain ⟨p, q, hA0, hV, rfl, hfz, hnd⟩ := hW
  have hA : DataW.TrodAll enc Tryz.prog W 0 (fun _ => true) true Tryz.f15.params.toList args.toList ds p := hA0
  rw [Tryz.params15] at hA hval
  obtain ⟨v0, vs0, d0, ds0, p0, q0, hargs, rfl, rfl, h0, r0⟩ := trodAll_cons hA
  obtain ⟨v1, vs1, d1, ds1, p1, q1, rfl, rfl, rfl, h1, r1⟩ := trodAll_cons r0
  obtain ⟨rfl, rfl, rfl⟩ := trodAll_nil r1
  obtain rfl : args = #[v0, v1] := by cases args; simp_all
  obtain ⟨rfl, rfl⟩ := trodVars_none hV
  obtain ⟨a0, rfl, rfl, rfl, w0⟩ := open_int Tryz.underlying3 (hval 0 3 v0 rfl rfl) h0
  obtain ⟨a1, rfl, rfl, rfl, w1⟩ := open_int Tryz.underlying3 (hval 1 3 v1 rfl rfl) h1
  clear hA0 hval0
  simp only [List.append_nil] at hW'
  refine (numChoices_any a0 a1 W (lift_tab hL)).mono fun e W' ⟨he, hg⟩ => ?_
  subst he
  exact ⟨_, rfl, post_of_below (pa := []) (pv := []) hW' (fun _ _ _ => (trodAll_cons_mk (shut_bool Tryz.underlying4 _) trodAll_mk0)) (fun sp _ => (trodAll_cons_mk (shut_int Tryz.underlying3 w0) (trodAll_cons_mk (shut_int Tryz.underlying3 w1) trodAll_mk0))) (fun _ _ => rfl) rfl
    hg (ok_one (by kernel_rfl) rfl (okWide_bool_mk Tryz.underlying4 _))⟩

theorem over : Rows.numChoicesRow.holds Tryz.pinned (OpenSpec.ofChange Rows.numChoicesSpec) :=
  OpenClaim.holds_of_wide 15 Tryz.f15 rfl rfl rfl rfl rfl rfl rfl ⟨rfl, rfl, rfl, rfl, rfl⟩ rfl rfl rfl rfl rfl (by kernel_rfl) Tryz.func15 (by kernel_rfl)
    (of_decide_eq_true (by kernel_rfl)) (by unfold Func.isWrapper; first | (rw [if_pos (by decide +kernel)]; kernel_rfl) | (rw [if_neg (by decide +kernel)]; exact ⟨rfl, rfl⟩))
    (fun os started H enc _ => lifted os started H enc)

theorem plain (f : FuncId) (fn : Func) (hf : Tryz.pinned.checked.prog.funcNamed "foregone/foregonelaw01.NumChoices" = some f) (hfn : Tryz.pinned.checked.prog.funcs[f]? = some fn) :
    false = Tryz.pinned.checked.prog.looks [] ∧ ∀ (j : Nat) t, fn.params[j]? = some t → Tryz.pinned.checked.prog.wantsStandIn t = false := by
  obtain rfl : f = 15 := Option.some.inj ((show Tryz.prog.funcNamed "foregone/foregonelaw01.NumChoices" = some 15 by kernel_rfl).symm.trans hf) |>.symm
  obtain rfl : fn = Tryz.f15 := (Option.some.inj (Tryz.func15.symm.trans hfn)).symm
  refine ⟨by kernel_rfl, fun j t ht => ?_⟩
  rw [Tryz.params15] at ht
  have hm : t ∈ [3] := by simpa using Array.mem_of_getElem? ht
  have hall : ([3].all fun u => !Tryz.prog.wantsStandIn u) = true := by kernel_rfl
  exact (show Tryz.prog.wantsStandIn t = false by simpa using List.all_eq_true.1 hall t hm)

theorem card : Rows.NumChoicesCardSaid :=
  Claim7.holds_tied_plain_at .later [] _ _ _ _ over (fun _ h => by cases h) (by kernel_rfl) (fun _ h => by cases h) numChoices_row_tie rfl ⟨rfl, rfl⟩ (by kernel_rfl) rfl plain (by kernel_rfl)
#print axioms card
end Go.Proofs.YtkcjjdiklodofaaGreatDoor.lawChoices

/- Contracts of the laws' further helpers, and arguments that are integers' data: each call ends and hands back what its contract says, for all arguments within the contract's premises. -/
import Derived.Lib.SmallJoins
import Derived.ChangeSlices
import Derived.WideKeyArgs
import Derived.Test.YtfjnplhhgdfepaaGreatDoorK7
set_option linter.all false

/- The laws' helpers val, sum, times; pairs of a number and an error; how Choose ends, in one form. -/
namespace Go.Proofs.YtfjnplhhgdfepaaGreatDoor
open Go.RowKit

/-- A number with this sign and these parts and an error, as the laws' pair. -/
def RetQ (n : Bool) (xs : List Int) (er : Int) (w : World) (e : Ending) (w' : World) : Prop :=
  ∃ ao len cap, e = .returned (.agg #[.bool n, .slice ao len cap, .int .i64 er]) ∧ Sl w' ao len cap xs ∧ Below w.heap.size w w'
/-- What fits is the number, what does not is 0 with the error of limits. -/
def fitR (z : Int) : Int × Int := if (parts z.natAbs).length ≤ 40 then (z, 0) else (0, 2)
theorem fitR_ok {z : Int} (h : Lim z) : fitR z = (z, 0) := if_pos h
theorem fitR_no {z : Int} (h : ¬ Lim z) : fitR z = (0, 2) := if_neg h
theorem Lim.zero : Lim 0 := by unfold Lim; rw [show (0 : Int).natAbs = 0 from rfl, parts_zero]; simp
theorem fitR_lim (z : Int) : Lim (fitR z).1 := by
  by_cases h : Lim z
  · rw [fitR_ok h]; exact h
  · rw [fitR_no h]; exact Lim.zero
theorem Out.fit {z : Int} {w : World} {e : Ending} {w' : World} (h : Out z w e w') : RetE (fitR z).1 (fitR z).2 w e w' := by
  by_cases hl : Lim z
  · rw [fitR_ok hl]; exact h.1 hl
  · rw [fitR_no hl]; exact h.2 hl
def sumR (p q : Int × Int) : Int × Int := if p.2 = 0 ∧ q.2 = 0 then fitR (p.1 + q.1) else (0, 2)
def timesR (p q : Int × Int) : Int × Int := if p.2 = 0 ∧ q.2 = 0 then fitR (p.1 * q.1) else (0, 2)
theorem sameI_num (x y : Int) : sameI (decide (x < 0)) (parts x.natAbs) (decide (y < 0)) (parts y.natAbs) = decide (x = y) := by
  unfold sameI
  rw [cmpI_num]
  exact decide_eq_decide.2 cmp3_zero
/-- A box of a pair. -/
def Box3 (w : World) (g : Nat) (n : Bool) (ao : Option Addr) (l c : Nat) (er : Int) : Prop := w.heap[g]? = some (.cells #[.bool n, .slice ao l c, .int .i64 er] 38 (0, 0))
theorem Box3.cells {w : World} {g : Nat} {n : Bool} {ao : Option Addr} {l c : Nat} {er : Int} (h : Box3 w g n ao l c er) :
    w.cell? ⟨g, 0, none⟩ = some (.bool n) ∧ w.cell? ⟨g, 1, none⟩ = some (.slice ao l c) ∧ w.cell? ⟨g, 2, none⟩ = some (.int .i64 er) := by
  unfold Box3 at h
  refine ⟨?_, ?_, ?_⟩ <;> simp [World.cell?, h]
theorem Box3.froz {w : World} {g : Nat} {n : Bool} {ao : Option Addr} {l c : Nat} {er : Int} (h : Box3 w g n ao l c er) :
    w.frozen? ⟨g, 0, none⟩ = false ∧ w.frozen? ⟨g, 1, none⟩ = false ∧ w.frozen? ⟨g, 2, none⟩ = false := by
  unfold Box3 at h
  refine ⟨?_, ?_, ?_⟩ <;> simp [World.frozen?, h]
theorem Box3.lt {w : World} {g : Nat} {n : Bool} {ao : Option Addr} {l c : Nat} {er : Int} (h : Box3 w g n ao l c er) : g < w.heap.size := (Array.getElem?_eq_some_iff.1 h).1
theorem Box3.below {w w' : World} {g : Nat} {n : Bool} {ao : Option Addr} {l c : Nat} {er : Int} (h : Box3 w g n ao l c er) (hb : Below w.heap.size w w') : Box3 w' g n ao l c er := (hb.block _ h.lt).trans h
theorem Box3.drew {w : World} {g : Nat} {n : Bool} {ao : Option Addr} {l c : Nat} {er : Int} (h : Box3 w g n ao l c er) : Box3 w.drew g n ao l c er := h
theorem Box3.new (w : World) (n : Bool) (ao : Option Addr) (l c : Nat) (er : Int) : Box3 (w.alloc (.cells #[.bool n, .slice ao l c, .int .i64 er] 38)) w.heap.size n ao l c er := heap_new w _
theorem Box3.set {w : World} {g : Nat} {n n' : Bool} {ao ao' : Option Addr} {l c l' c' : Nat} {er er' : Int} (h : Box3 w g n ao l c er) :
    Box3 (((w.setCell ⟨g, 0, none⟩ (.bool n')).setCell ⟨g, 1, none⟩ (.slice ao' l' c')).setCell ⟨g, 2, none⟩ (.int .i64 er')) g n' ao' l' c' er' := by
  unfold Box3 at *
  simp [World.setCell, Array.getElem?_modify, h]
set_option maxHeartbeats 1000000 in
theorem lawVal_any (n : Bool) (ao : Option Addr) (len cap : Nat) (w : World) :
    Calls Tryz.prog 65 #[.agg #[.bool n, .slice ao len cap]] w fun e w' => e = .returned (.agg #[.bool n, .slice ao len cap, .int .i64 0]) ∧ Below w.heap.size w w' := by
  have hb : ∀ o p : Obj, Below w.heap.size w ((w.alloc o).alloc p) := fun o p => below2 w o p
  go_enter Tryz.func65, Tryz.ntmps65
  go_wp2
  refine bodyPost_ret (v := .agg #[.bool n, .slice ao len cap, .int .i64 0]) (by simp [results, Tryz.results65, go_sem]) rfl ?_
  exact ⟨rfl, hb _ _⟩

/-- A store of a pair into its box, which held no error, changes no slice of parts. -/
theorem Sl.pair {w : World} {ao : Option Addr} {len cap : Nat} {xs : List Int} (hs : Sl w ao len cap xs) (hl : xs.getLast? ≠ some 0) {g : Nat} {n : Bool} {ap : Option Addr} {l c : Nat} (h : Box3 w g n ap l c 0) (n' : Bool) (ap' : Option Addr) (l' c' : Nat) (er' : Int) :
    Sl (((w.setCell ⟨g, 0, none⟩ (.bool n')).setCell ⟨g, 1, none⟩ (.slice ap' l' c')).setCell ⟨g, 2, none⟩ (.int .i64 er')) ao len cap xs := by
  obtain ⟨h1, h2, h3, h4 | ⟨b, p, h5, h6⟩⟩ := hs
  · exact ⟨h1, h2, h3, .inl h4⟩
  · by_cases hb : b = g
    · subst hb
      by_cases h0 : len = 0
      · exact ⟨h1, h2, h3, .inr ⟨b, p, h5, fun j hj => by omega⟩⟩
      · exfalso
        have k0 := h6 0 (by omega)
        unfold Box3 at h
        simp only [World.cell?, h] at k0
        rcases p with _ | _ | _ | p
        · simp at k0
        · simp at k0
        · by_cases h2 : len = 1
          · subst h2
            simp at k0
            obtain ⟨x, rfl⟩ := List.length_eq_one_iff.1 h1
            simp at k0 hl
            omega
          · have k1 := h6 1 (by omega)
            simp only [World.cell?, h] at k1
            simp at k1
        · simp at k0
    · refine ⟨h1, h2, h3, .inr ⟨b, p, h5, fun j hj => ?_⟩⟩
      rw [World.cell?_of_block (Below.heap_setCell _ _ _ _ hb), World.cell?_of_block (Below.heap_setCell _ _ _ _ hb), World.cell?_of_block (Below.heap_setCell _ _ _ _ hb)]
      exact h6 j hj

set_option maxHeartbeats 1000000 in
theorem lawSum_ok (n1 : Bool) (ax : Option Addr) (la ca : Nat) (xs : List Int) (n2 : Bool) (ay : Option Addr) (lb cb : Nat) (ys : List Int) (n3 : Bool) (zs : List Int) (e3 : Int) (hzl : zs.getLast? ≠ some 0) (w : World) (hx : Sl w ax la ca xs) (hy : Sl w ay lb cb ys)
    (hc : ∀ w, Sl w ax la ca xs → Sl w ay lb cb ys → Calls Tryz.prog 44 #[.agg #[.bool n1, .slice ax la ca], .agg #[.bool n2, .slice ay lb cb]] w (RetPE n3 zs e3 w)) :
    Calls Tryz.prog 67 #[.agg #[.bool n1, .slice ax la ca, .int .i64 0], .agg #[.bool n2, .slice ay lb cb, .int .i64 0]] w (RetQ n3 zs e3 w) := by
  have Hc := Lib.hid hc
  have Hzl := Lib.hid hzl
  clear hc hzl
  go_enter Tryz.func67, Tryz.ntmps67
  go_wp2_with fail
  (with_reducible refine (Hc.out _ (by exact ((hx.alloc _).alloc _).alloc _) (by exact ((hy.alloc _).alloc _).alloc _)).mono ?_)
  rintro e w1 ⟨a1, l1, c1, rfl, s1, b1⟩
  obtain ⟨_, _, hC, hz, hbb⟩ := kept3 _ _ _ _ b1
  clear b1
  go_wp2_with fail
  (with_reducible refine (got_any _ _ _ _ _ _).mono ?_)
  rintro e w2 ⟨rfl, b2⟩
  have hC2 : Box3 w2 (w.heap.size + 1 + 1) false none 0 0 0 := (b2.block _ (Array.getElem?_eq_some_iff.1 hC).1).trans hC
  obtain ⟨f0, f1, f2⟩ := hC2.cells
  obtain ⟨g0, g1, g2⟩ := hC2.froz
  have hsz := hC2.lt
  have s2 := s1.below b2
  have hb2 := hbb.trans (b2.mono hbb.size)
  have HC := Lib.hid hC2
  clear hC hC2 b2 hbb s1
  go_wp2
  refine bodyPost_ret (v := .agg #[.bool n3, .slice a1 l1 c1, .int .i64 e3]) (by simp [results, Tryz.results67, go_sem, f0, f1, f2]) rfl ?_
  refine ⟨a1, l1, c1, rfl, ?_, ((hb2.setCell (by simp; omega) _).setCell (by simp; omega) _).setCell (by simp; omega) _⟩
  exact s2.pair Hzl.out HC.out _ _ _ _ _

set_option maxHeartbeats 1000000 in
theorem lawSum_bad (n1 : Bool) (ax : Option Addr) (la ca : Nat) (e1 : Int) (n2 : Bool) (ay : Option Addr) (lb cb : Nat) (e2 : Int) (w : World) (h : ¬ (e1 = 0 ∧ e2 = 0)) :
    Calls Tryz.prog 67 #[.agg #[.bool n1, .slice ax la ca, .int .i64 e1], .agg #[.bool n2, .slice ay lb cb, .int .i64 e2]] w (RetQ false [] 2 w) := by
  have hb : ∀ o p q : Obj, Below w.heap.size w (((w.alloc o).alloc p).alloc q) := fun o p q => below3 w o p q
  by_cases h1 : e1 = 0
  · have h2 : e2 ≠ 0 := fun h' => h ⟨h1, h'⟩
    subst h1
    have hq : (e2 != 0) = true := by simpa using h2
    clear h h2
    go_enter Tryz.func67, Tryz.ntmps67
    go_wp2
    refine bodyPost_ret (v := .agg #[.bool false, .slice none 0 0, .int .i64 2]) (by simp [results, Tryz.results67, go_sem]) rfl ?_
    exact ⟨_, _, _, rfl, Sl.nil _, hb _ _ _⟩
  · have hq : (e1 != 0) = true := by simpa using h1
    clear h h1
    go_enter Tryz.func67, Tryz.ntmps67
    go_wp2
    refine bodyPost_ret (v := .agg #[.bool false, .slice none 0 0, .int .i64 2]) (by simp [results, Tryz.results67, go_sem]) rfl ?_
    exact ⟨_, _, _, rfl, Sl.nil _, hb _ _ _⟩

theorem lawSum_any {x y z e1 e2 e3 : Int} {n1 n2 n3 : Bool} {xs ys zs : List Int} (hx : Num x n1 xs) (hy : Num y n2 ys) (hz : Num z n3 zs) (he : sumR (x, e1) (y, e2) = (z, e3)) (ax : Option Addr) (la ca : Nat) (ay : Option Addr) (lb cb : Nat) (w : World) (sx : Sl w ax la ca xs) (sy : Sl w ay lb cb ys) :
    Calls Tryz.prog 67 #[.agg #[.bool n1, .slice ax la ca, .int .i64 e1], .agg #[.bool n2, .slice ay lb cb, .int .i64 e2]] w (RetQ n3 zs e3 w) := by
  obtain ⟨h1, rfl, rfl⟩ := hx
  obtain ⟨h2, rfl, rfl⟩ := hy
  obtain ⟨_, rfl, rfl⟩ := hz
  unfold sumR at he
  by_cases h : e1 = 0 ∧ e2 = 0
  · rw [if_pos h] at he
    obtain ⟨rfl, rfl⟩ := h
    refine lawSum_ok _ ax la ca _ _ ay lb cb _ _ _ _ (parts_last _) w sx sy fun w sx sy => ((Add_ok x y h1 h2 ax la ca ay lb cb w sx sy).mono fun _ _ h => ?_)
    have := h.fit
    rw [he] at this
    exact this
  · rw [if_neg h] at he
    cases he
    have := lawSum_bad (decide (x < 0)) ax la ca e1 (decide (y < 0)) ay lb cb e2 w h
    rw [show decide ((0 : Int) < 0) = false from rfl, show (0 : Int).natAbs = 0 from rfl, parts_zero]
    exact this

set_option maxHeartbeats 1000000 in
theorem lawTimes_ok (n1 : Bool) (ax : Option Addr) (la ca : Nat) (xs : List Int) (n2 : Bool) (ay : Option Addr) (lb cb : Nat) (ys : List Int) (n3 : Bool) (zs : List Int) (e3 : Int) (hzl : zs.getLast? ≠ some 0) (w : World) (hx : Sl w ax la ca xs) (hy : Sl w ay lb cb ys)
    (hc : ∀ w, Sl w ax la ca xs → Sl w ay lb cb ys → Calls Tryz.prog 48 #[.agg #[.bool n1, .slice ax la ca], .agg #[.bool n2, .slice ay lb cb]] w (RetPE n3 zs e3 w)) :
    Calls Tryz.prog 68 #[.agg #[.bool n1, .slice ax la ca, .int .i64 0], .agg #[.bool n2, .slice ay lb cb, .int .i64 0]] w (RetQ n3 zs e3 w) := by
  have Hc := Lib.hid hc
  have Hzl := Lib.hid hzl
  clear hc hzl
  go_enter Tryz.func68, Tryz.ntmps68
  go_wp2_with fail
  (with_reducible refine (Hc.out _ (by exact ((hx.alloc _).alloc _).alloc _) (by exact ((hy.alloc _).alloc _).alloc _)).mono ?_)
  rintro e w1 ⟨a1, l1, c1, rfl, s1, b1⟩
  obtain ⟨_, _, hC, hz, hbb⟩ := kept3 _ _ _ _ b1
  clear b1
  go_wp2_with fail
  (with_reducible refine (got_any _ _ _ _ _ _).mono ?_)
  rintro e w2 ⟨rfl, b2⟩
  have hC2 : Box3 w2 (w.heap.size + 1 + 1) false none 0 0 0 := (b2.block _ (Array.getElem?_eq_some_iff.1 hC).1).trans hC
  obtain ⟨f0, f1, f2⟩ := hC2.cells
  obtain ⟨g0, g1, g2⟩ := hC2.froz
  have hsz := hC2.lt
  have s2 := s1.below b2
  have hb2 := hbb.trans (b2.mono hbb.size)
  have HC := Lib.hid hC2
  clear hC hC2 b2 hbb s1
  go_wp2
  refine bodyPost_ret (v := .agg #[.bool n3, .slice a1 l1 c1, .int .i64 e3]) (by simp [results, Tryz.results68, go_sem, f0, f1, f2]) rfl ?_
  refine ⟨a1, l1, c1, rfl, ?_, ((hb2.setCell (by simp; omega) _).setCell (by simp; omega) _).setCell (by simp; omega) _⟩
  exact s2.pair Hzl.out HC.out _ _ _ _ _

set_option maxHeartbeats 1000000 in
theorem lawTimes_bad (n1 : Bool) (ax : Option Addr) (la ca : Nat) (e1 : Int) (n2 : Bool) (ay : Option Addr) (lb cb : Nat) (e2 : Int) (w : World) (h : ¬ (e1 = 0 ∧ e2 = 0)) :
    Calls Tryz.prog 68 #[.agg #[.bool n1, .slice ax la ca, .int .i64 e1], .agg #[.bool n2, .slice ay lb cb, .int .i64 e2]] w (RetQ false [] 2 w) := by
  have hb : ∀ o p q : Obj, Below w.heap.size w (((w.alloc o).alloc p).alloc q) := fun o p q => below3 w o p q
  by_cases h1 : e1 = 0
  · have h2 : e2 ≠ 0 := fun h' => h ⟨h1, h'⟩
    subst h1
    have hq : (e2 != 0) = true := by simpa using h2
    clear h h2
    go_enter Tryz.func68, Tryz.ntmps68
    go_wp2
    refine bodyPost_ret (v := .agg #[.bool false, .slice none 0 0, .int .i64 2]) (by simp [results, Tryz.results68, go_sem]) rfl ?_
    exact ⟨_, _, _, rfl, Sl.nil _, hb _ _ _⟩
  · have hq : (e1 != 0) = true := by simpa using h1
    clear h h1
    go_enter Tryz.func68, Tryz.ntmps68
    go_wp2
    refine bodyPost_ret (v := .agg #[.bool false, .slice none 0 0, .int .i64 2]) (by simp [results, Tryz.results68, go_sem]) rfl ?_
    exact ⟨_, _, _, rfl, Sl.nil _, hb _ _ _⟩

theorem lawTimes_any {x y z e1 e2 e3 : Int} {n1 n2 n3 : Bool} {xs ys zs : List Int} (hx : Num x n1 xs) (hy : Num y n2 ys) (hz : Num z n3 zs) (he : timesR (x, e1) (y, e2) = (z, e3)) (ax : Option Addr) (la ca : Nat) (ay : Option Addr) (lb cb : Nat) (w : World) (sx : Sl w ax la ca xs) (sy : Sl w ay lb cb ys) :
    Calls Tryz.prog 68 #[.agg #[.bool n1, .slice ax la ca, .int .i64 e1], .agg #[.bool n2, .slice ay lb cb, .int .i64 e2]] w (RetQ n3 zs e3 w) := by
  obtain ⟨h1, rfl, rfl⟩ := hx
  obtain ⟨h2, rfl, rfl⟩ := hy
  obtain ⟨_, rfl, rfl⟩ := hz
  unfold timesR at he
  by_cases h : e1 = 0 ∧ e2 = 0
  · rw [if_pos h] at he
    obtain ⟨rfl, rfl⟩ := h
    refine lawTimes_ok _ ax la ca _ _ ay lb cb _ _ _ _ (parts_last _) w sx sy fun w sx sy => ((Mul_ok x y h1 h2 ax la ca ay lb cb w sx sy).mono fun _ _ h => ?_)
    have := h.fit
    rw [he] at this
    exact this
  · rw [if_neg h] at he
    cases he
    have := lawTimes_bad (decide (x < 0)) ax la ca e1 (decide (y < 0)) ay lb cb e2 w h
    rw [show decide ((0 : Int) < 0) = false from rfl, show (0 : Int).natAbs = 0 from rfl, parts_zero]
    exact this

/-- How Choose ends. -/
def chR (n k : Int) : Int × Int := if n < 0 ∨ 4000 < n then (0, 1) else if k < 0 ∨ n < k then (0, 0) else fitR (ch n.toNat k.toNat)
theorem chooseR (n k : Int) (w : World) : Calls Tryz.prog 62 #[.int .i64 n, .int .i64 k] w (RetE (chR n k).1 (chR n k).2 w) := by
  refine (choose_any n k w).mono fun e w' h => ?_
  obtain ⟨h1, h2, h3⟩ := h
  unfold chR
  by_cases a : n < 0 ∨ 4000 < n
  · rw [if_pos a]; exact h1 a
  · rw [if_neg a]
    by_cases b : k < 0 ∨ n < k
    · rw [if_pos b]; exact h2 (by omega) (by omega) b
    · rw [if_neg b]
      exact Out.fit (h3 (by omega) (by omega) (by omega) (by omega))
theorem chQ {n k z er : Int} {m : Bool} {zs : List Int} (hz : Num z m zs) (he : chR n k = (z, er)) (w : World) : Calls Tryz.prog 62 #[.int .i64 n, .int .i64 k] w (RetPE m zs er w) := by
  obtain ⟨_, rfl, rfl⟩ := hz
  have := chooseR n k w
  rw [he] at this
  exact this
end Go.Proofs.YtfjnplhhgdfepaaGreatDoor

/- The reference's Is. -/
namespace Go.Proofs.YtfjnplhhgdfepaaGreatDoor
open Go.RowKit

set_option maxHeartbeats 2000000 in
theorem is_any (neg : Bool) (ao : Option Addr) (len cap : Nat) (xs : List Int) (w : World) (hs0 : Sl w ao len cap xs) :
    Calls Tryz.prog 78 #[.agg #[.bool neg, .slice ao len cap]] w (RetBool (okInt neg xs) w) := by
  have hb := (Below.refl w.heap.size w).alloc (Nat.le_refl _) (.cells #[.bool neg, .slice ao len cap] 24)
  have hs := hs0.alloc (.cells #[.bool neg, .slice ao len cap] 24)
  have hl := Lib.hid hs.length
  have hbd := hs.len_le
  by_cases h40 : 40 < len
  · have ho := Lib.hid (show okInt neg xs = false by unfold okInt; rw [hl.out]; simp; intro h; omega)
    go_enter Tryz.func78, Tryz.ntmps78
    go_wp2
    go_ret
    exact ⟨by rw [ho.out]; rfl, hb⟩
  · by_cases h0 : len = 0
    · subst h0
      have ho : okInt neg xs = !neg := by unfold okInt; rw [hl.out]; simp
      rw [ho]
      cases neg
      · go_enter Tryz.func78, Tryz.ntmps78
        go_wp2
        go_loop [4] (fun i => i = .int .i64 0) (fun _ => 0)
        case atStart => rfl
        case round =>
          obtain rfl := hrel
          go_wp2
          go_ret
          exact ⟨rfl, hb⟩
      · go_enter Tryz.func78, Tryz.ntmps78
        go_wp2
        go_ret
        exact ⟨rfl, hb⟩
    · obtain ⟨m, rfl⟩ : ∃ m, len = m + 1 := ⟨len - 1, by omega⟩
      obtain ⟨b, o, rfl, hc⟩ := hs.at (by omega)
      have hcl := hc m (by omega)
      have hok : okInt neg xs = (decide (∀ j, j < m + 1 → 0 ≤ xs.getD j 0 ∧ xs.getD j 0 < 1000000000) && !(xs.getD m 0 == 0)) := by
        unfold okInt
        rw [hl.out, if_neg (by omega)]
        simp; omega
      by_cases hz : xs.getD m 0 = 0
      · have ho := Lib.hid (show okInt neg xs = false by rw [hok, hz]; simp)
        rw [hz] at hcl
        clear hc hok
        go_enter Tryz.func78, Tryz.ntmps78
        go_wp2
        go_ret
        exact ⟨by rw [ho.out]; rfl, hb⟩
      · have ho : okInt neg xs = decide (∀ j, j < m + 1 → 0 ≤ xs.getD j 0 ∧ xs.getD j 0 < 1000000000) := by
          rw [hok]
          have : (xs.getD m 0 == 0) = false := by simpa using hz
          rw [this]; simp
        have Ho := Lib.hid ho
        have Hc := Lib.hid hc
        generalize hxm : xs.getD m 0 = xm at hcl hz
        have hz2 : (xm == 0) = false := by simpa using hz
        clear hok ho hc hxm
        go_enter Tryz.func78, Tryz.ntmps78
        go_wp2
        go_loop [4] (fun i => ∃ k : Nat, k ≤ m + 1 ∧ i = .int .i64 k ∧ ∀ j, j < k → 0 ≤ xs.getD j 0 ∧ xs.getD j 0 < 1000000000) (fun i => m + 1 - (intOf i).toNat)
        case atStart => exact ⟨0, Nat.zero_le _, rfl, fun j hj => by omega⟩
        case round =>
          obtain ⟨k, hk, rfl, hall⟩ := hrel
          have Hall := Lib.hid hall
          clear hall hcl hz
          by_cases hlt : k < m + 1
          · have hck := Hc.out k hlt
            have hno := fun (hx : ¬ (0 ≤ xs.getD k 0 ∧ xs.getD k 0 < 1000000000)) => (show okInt neg xs = false by
              rw [Ho.out]
              simp only [decide_eq_false_iff_not]
              intro h
              exact hx (h k hlt))
            have hyes := fun (j : Nat) (hj : j < k + 1) (h : 0 ≤ xs.getD k 0 ∧ xs.getD k 0 < 1000000000) => (show 0 ≤ xs.getD j 0 ∧ xs.getD j 0 < 1000000000 by
              by_cases e : j = k
              · subst e; exact h
              · exact Hall.out j (by omega))
            generalize hxk : xs.getD k 0 = x at hck hno hyes
            have Hyes := Lib.hid hyes
            clear hxk hyes
            by_cases hx0 : x < 0
            · have hr := Lib.hid (hno (by omega))
              clear hno
              go_wp2
              go_ret
              exact ⟨by rw [hr.out]; rfl, hb⟩
            · by_cases hx1 : 1000000000 ≤ x
              · have hr := Lib.hid (hno (by omega))
                clear hno
                go_wp2
                go_ret
                exact ⟨by rw [hr.out]; rfl, hb⟩
              · clear hno
                go_wp2
                go_round
                case rel => exact ⟨k + 1, hlt, by go_num, fun j hj => Hyes.out j hj (by omega)⟩
                case measure => simp [intOf]; omega
          · obtain rfl : k = m + 1 := by omega
            have hr := Lib.hid (show okInt neg xs = true by rw [Ho.out]; simp only [decide_eq_true_eq]; exact Hall.out)
            go_wp2
            go_ret
            exact ⟨by rw [hr.out]; rfl, hb⟩
end Go.Proofs.YtfjnplhhgdfepaaGreatDoor

/- slices.IndexFunc, slices.ContainsFunc and few. -/
namespace Go.Proofs.YtfjnplhhgdfepaaGreatDoor
open Go.RowKit

set_option maxHeartbeats 1000000 in
theorem index_any (F : Nat) (p : Dat → Bool) (g : Nat) (L : List Dat) (w : World) (hg : w.heap[g]? = some (.cells (Dat.cells L).toArray 24 (0, 0))) (hL : L.length ≤ 100)
    (hcf : ∀ args w, (callFunc F args).run Tryz.prog w = .ok (.enter F args) w) (hp : ∀ d ∈ L, ∀ w1, Below w.heap.size w w1 → Calls Tryz.prog F #[d.v] w1 (RetBool (p d) w1)) :
    Calls Tryz.prog 115 #[.slice (some ⟨g, 0, none⟩) L.length L.length, .func (.func F) #[] #[]] w fun e w' => ∃ i : Int, e = .returned (.int .i64 i) ∧ -1 ≤ i ∧ i ≤ 100 ∧ decide (0 ≤ i) = L.any p ∧ Below w.heap.size w w' := by
  have Hp := Lib.hid hp
  generalize hn : L.length = n at *
  have Hn := Lib.hid hn
  have Hg := Lib.hid hg
  have hgl : g < w.heap.size := (Array.getElem?_eq_some_iff.1 hg).1
  clear hp hn hg
  go_enter Tryz.func115, Tryz.ntmps115
  go_wp2
  go_loopw [5, 8] (fun _ i wr => ∃ k : Nat, k ≤ n ∧ i = .int .i64 k ∧ (∀ d ∈ L.take k, p d = false) ∧ Below w.heap.size w wr) (fun _ i _ => n - (intOf i).toNat)
  case atStart => exact ⟨0, Nat.zero_le _, rfl, fun d hd => by simp at hd, Below.refl _ _⟩
  case round =>
    obtain ⟨k, hk, rfl, hall, hbel⟩ := hrel
    have Hall := Lib.hid hall
    clear hall
    by_cases hlt : k < n
    · have hgr : wr.heap[g]? = some (.cells (Dat.cells L).toArray 24 (0, 0)) := by rw [hbel.block g hgl]; exact Hg.out
      have hlk : k < L.length := by rw [Hn.out]; exact hlt
      obtain ⟨c1, c2⟩ := Dat.cells_at L k hlk
      have hmem : L[k] ∈ L := List.getElem_mem hlk
      have hpd := Lib.hid (Hp.out _ hmem _ hbel)
      have hfst : ∀ d ∈ L.take (k + 1), p d = false ∨ d = L[k] := by
        intro d hd
        rw [List.take_succ_eq_append_getElem hlk] at hd
        rcases List.mem_append.1 hd with h | h
        · exact .inl (Hall.out d h)
        · exact .inr (by simpa using h)
      have Hfst := Lib.hid hfst
      generalize hd : L[k] = d at *
      have h1 : wr.cell? ⟨g, k * 2, none⟩ = some (.bool d.neg) := by simp only [World.cell?, hgr]; simpa using c1
      have h2 : wr.cell? ⟨g, k * 2 + 1, none⟩ = some (.slice d.ao d.len d.cap) := by simp only [World.cell?, hgr]; simpa using c2
      clear c1 c2 hgr hfst hd
      have hpc : ∀ wx, wx = wr → Calls Tryz.prog F #[.agg #[.bool d.neg, .slice d.ao d.len d.cap]] wx (RetBool (p d) wr) := by rintro _ rfl; exact hpd.out
      have Hpc := Lib.hid hpc
      generalize hpb : p d = b at *
      have Hpb := Lib.hid hpb
      clear hpc hpb
      cases b
      · go_wp2_with fail
        refine (Hpc.out _ rfl).mono ?_
        rintro e w1 ⟨rfl, hb1⟩
        go_wp2
        go_roundw
        case rel => exact ⟨k + 1, hlt, by go_num, fun d hd => by rcases Hfst.out d hd with h | h; exact h; rw [h]; exact Hpb.out, hbel.trans (hb1.mono hbel.size)⟩
        case measure => simp [intOf]; omega
      · go_wp2_with fail
        refine (Hpc.out _ rfl).mono ?_
        rintro e w1 ⟨rfl, hb1⟩
        go_wp2
        go_ret
        refine ⟨k, rfl, by omega, by omega, ?_, hbel.trans (hb1.mono hbel.size)⟩
        have hall : L.any p = true := List.any_eq_true.2 ⟨d, hmem, Hpb.out⟩
        rw [hall]; simp
    · obtain rfl : k = n := by omega
      go_wp2
      go_ret
      refine ⟨-1, rfl, by omega, by omega, ?_, hbel⟩
      have hall : L.any p = false := by
        rw [List.any_eq_false]
        intro d hd
        rw [Hall.out d (by rw [List.take_of_length_le (by rw [Hn.out]; exact Nat.le_refl _)]; exact hd)]
        simp
      rw [hall]; rfl

set_option maxHeartbeats 1000000 in
theorem contains_any (F : Nat) (p : Dat → Bool) (g : Nat) (L : List Dat) (w : World) (hg : w.heap[g]? = some (.cells (Dat.cells L).toArray 24 (0, 0))) (hL : L.length ≤ 100)
    (hcf : ∀ args w, (callFunc F args).run Tryz.prog w = .ok (.enter F args) w) (hp : ∀ d ∈ L, ∀ w1, Below w.heap.size w w1 → Calls Tryz.prog F #[d.v] w1 (RetBool (p d) w1)) :
    Calls Tryz.prog 75 #[.slice (some ⟨g, 0, none⟩) L.length L.length, .func (.func F) #[] #[]] w (RetBool (L.any p) w) := by
  have hix := Lib.hid (index_any F p g L w hg hL hcf hp)
  clear hp hcf hg
  generalize L.length = n at *
  generalize L.any p = b at *
  go_enter Tryz.func75, Tryz.ntmps75
  go_wp2_with fail
  refine hix.out.mono ?_
  rintro e w1 ⟨i, rfl, hi0, hi1, hib, hb⟩
  have Hib := Lib.hid hib
  clear hib
  go_wp2
  go_ret
  exact ⟨by rw [← Hib.out]; rfl, hb⟩

set_option maxHeartbeats 400000 in
theorem few1_any (d : Dat) (w : World) : Calls Tryz.prog 76 #[d.v] w (RetBool (decide (100 < d.len)) w) := by
  obtain ⟨dn, da, dl, dc, dx⟩ := d
  have hb := (Below.refl w.heap.size w).alloc (Nat.le_refl _) (.cells #[.bool dn, .slice da dl dc] 24)
  unfold Dat.v
  simp only
  go_enter Tryz.func76, Tryz.ntmps76
  go_wp2
  go_ret
  exact ⟨by rw [← show decide ((100 : Int) < dl) = decide (100 < dl) from decide_eq_decide.2 (by omega)]; rfl, hb⟩

set_option maxHeartbeats 1000000 in
theorem few_any (g : Nat) (L : List Dat) (w : World) (hg : w.heap[g]? = some (.cells (Dat.cells L).toArray 24 (0, 0))) (hL : L.length ≤ 100) :
    Calls Tryz.prog 17 #[.slice (some ⟨g, 0, none⟩) L.length L.length] w (RetBool (!(L.any fun d => decide (100 < d.len))) w) := by
  have hc := Lib.hid (contains_any 76 (fun d => decide (100 < d.len)) g L w hg hL (fun args w => by kernel_rfl) (fun d _ w1 _ => few1_any d w1))
  clear hg
  generalize L.length = n at *
  generalize (L.any fun d => decide (100 < d.len)) = b at *
  go_enter Tryz.func17, Tryz.ntmps17
  go_wp2_with fail
  refine hc.out.mono ?_
  rintro e w1 ⟨rfl, hb⟩
  go_wp2
  go_ret
  exact ⟨by cases b <;> rfl, hb⟩
end Go.Proofs.YtfjnplhhgdfepaaGreatDoor

/- right. -/
namespace Go.Proofs.YtfjnplhhgdfepaaGreatDoor
open Go.RowKit

/-- Is a datum outside of what a law speaks of? -/
def wrong (d : Dat) : Bool := decide (100 < d.len) || !d.ok
set_option maxHeartbeats 1000000 in
theorem right1_any (d : Dat) (w : World) (hd : d.In w) : Calls Tryz.prog 114 #[d.v] w (RetBool (wrong d) w) := by
  obtain ⟨dn, da, dl, dc, dx⟩ := d
  unfold Dat.In at hd
  unfold wrong Dat.v Dat.ok
  simp only at hd ⊢
  have hb := (Below.refl w.heap.size w).alloc (Nat.le_refl _) (.cells #[.bool dn, .slice da dl dc] 24)
  have his := fun w h => is_any dn da dl dc dx w h
  generalize okInt dn dx = ok at *
  have His := Lib.hid his
  clear his
  by_cases h : 100 < dl
  · rw [show decide (100 < dl) = true by simpa using h, Bool.true_or]
    go_enter Tryz.func114, Tryz.ntmps114
    go_wp2
    go_ret
    exact ⟨rfl, hb⟩
  · have hc := Lib.hid (show decide ((100 : Int) < dl) = false by simp; omega)
    rw [show decide (100 < dl) = false by simpa using h, Bool.false_or]
    go_enter Tryz.func114, Tryz.ntmps114
    go_wp2_with fail
    refine (His.out _ (hd.alloc _)).mono ?_
    rintro e w1 ⟨rfl, hb1⟩
    go_wp2
    go_ret
    exact ⟨by cases ok <;> simp [hc.out], (kept1 _ _ hb1).2.2⟩

set_option maxHeartbeats 1000000 in
theorem right_any (g : Nat) (L : List Dat) (w : World) (hg : w.heap[g]? = some (.cells (Dat.cells L).toArray 24 (0, 0))) (hin : ∀ d ∈ L, d.In w) (hL : L.length ≤ 100) :
    Calls Tryz.prog 64 #[.slice (some ⟨g, 0, none⟩) L.length L.length] w (RetBool (!(L.any wrong)) w) := by
  have hc := Lib.hid (contains_any 114 wrong g L w hg hL (fun args w => by kernel_rfl) (fun d hd w1 hb => right1_any d w1 (Sl.below (hin d hd) hb)))
  clear hg hin
  generalize L.length = n at *
  generalize L.any wrong = b at *
  go_enter Tryz.func64, Tryz.ntmps64
  go_wp2_with fail
  refine hc.out.mono ?_
  rintro e w1 ⟨rfl, hb⟩
  go_wp2
  go_ret
  exact ⟨by cases b <;> rfl, hb⟩
end Go.Proofs.YtfjnplhhgdfepaaGreatDoor

/- Boxes of integers; the laws' smaller and agree at numbers; the closure of NumBezout; the sizes of what Bezout hands back. -/
namespace Go.Proofs.YtfjnplhhgdfepaaGreatDoor
open Go.RowKit

theorem Sb.drew {w : World} {ao : Option Addr} {len cap : Nat} {xs : List Int} (h : Sb w ao len cap xs) : Sb w.drew ao len cap xs := h.below (Below.refl _ _).drew
theorem Tab.drew {w : World} (h : Tab w) : Tab w.drew := h.below (Below.refl _ _).drew
/-- A box of an integer. -/
def BoxI (w : World) (g : Nat) (n : Bool) (ao : Option Addr) (l c : Nat) : Prop := w.heap[g]? = some (.cells #[.bool n, .slice ao l c] 24 (0, 0))
theorem BoxI.cells {w : World} {g : Nat} {n : Bool} {ao : Option Addr} {l c : Nat} (h : BoxI w g n ao l c) : w.cell? ⟨g, 0, none⟩ = some (.bool n) ∧ w.cell? ⟨g, 1, none⟩ = some (.slice ao l c) := ⟨(box2 h).1, (box2 h).2.1⟩
theorem BoxI.froz {w : World} {g : Nat} {n : Bool} {ao : Option Addr} {l c : Nat} (h : BoxI w g n ao l c) : w.frozen? ⟨g, 0, none⟩ = false ∧ w.frozen? ⟨g, 1, none⟩ = false := ⟨(box2 h).2.2.1, (box2 h).2.2.2.1⟩
theorem BoxI.lt {w : World} {g : Nat} {n : Bool} {ao : Option Addr} {l c : Nat} (h : BoxI w g n ao l c) : g < w.heap.size := (Array.getElem?_eq_some_iff.1 h).1
theorem BoxI.below {w w' : World} {g : Nat} {n : Bool} {ao : Option Addr} {l c : Nat} (h : BoxI w g n ao l c) (hb : Below w.heap.size w w') : BoxI w' g n ao l c := (hb.block _ h.lt).trans h
theorem BoxI.alloc {w : World} {g : Nat} {n : Bool} {ao : Option Addr} {l c : Nat} (h : BoxI w g n ao l c) (o : Obj) : BoxI (w.alloc o) g n ao l c := h.below ((Below.refl _ _).alloc (Nat.le_refl _) o)
theorem BoxI.drew {w : World} {g : Nat} {n : Bool} {ao : Option Addr} {l c : Nat} (h : BoxI w g n ao l c) : BoxI w.drew g n ao l c := h
theorem BoxI.new (w : World) (g : Nat) (hg : w.heap.size = g) (n : Bool) (ao : Option Addr) (l c : Nat) : BoxI (w.alloc (.cells #[.bool n, .slice ao l c] 24)) g n ao l c := by
  subst hg
  exact heap_new w _
theorem Box3.alloc {w : World} {g : Nat} {n : Bool} {ao : Option Addr} {l c : Nat} {er : Int} (h : Box3 w g n ao l c er) (o : Obj) : Box3 (w.alloc o) g n ao l c er := h.below ((Below.refl _ _).alloc (Nat.le_refl _) o)
theorem Box3.at (w : World) (g : Nat) (hg : w.heap.size = g) (n : Bool) (ao : Option Addr) (l c : Nat) (er : Int) : Box3 (w.alloc (.cells #[.bool n, .slice ao l c, .int .i64 er] 38)) g n ao l c er := by
  subst hg
  exact heap_new w _

theorem agreeP {x y : Int} {n1 n2 : Bool} {xs ys : List Int} (hx : Num x n1 xs) (hy : Num y n2 ys) (e1 e2 : Int) (h : e1 ≠ 0 ∨ e2 ≠ 0 ∨ x = y) (ax : Option Addr) (la ca : Nat) (ay : Option Addr) (lb cb : Nat) (w : World) (sx : Sl w ax la ca xs) (sy : Sl w ay lb cb ys) :
    Calls Tryz.prog 66 #[.agg #[.bool n1, .slice ax la ca, .int .i64 e1], .agg #[.bool n2, .slice ay lb cb, .int .i64 e2]] w (RetBool true w) := by
  obtain ⟨_, rfl, rfl⟩ := hx
  obtain ⟨_, rfl, rfl⟩ := hy
  have k := agree_any (decide (x < 0)) ax la ca (parts x.natAbs) e1 (decide (y < 0)) ay lb cb (parts y.natAbs) e2 w sx sy
  rwa [sameI_num, show (!decide (e1 = 0) || !decide (e2 = 0) || decide (x = y)) = true by
    rcases h with h | h | h
    · simp [h]
    · simp [h]
    · simp [h]] at k
theorem signQ {z v : Int} {n : Bool} {xs : List Int} (hz : Num z n xs) (hv : cmp3 z 0 = v) (ao : Option Addr) (len cap : Nat) (w : World) (hs : Sl w ao len cap xs) :
    Calls Tryz.prog 40 #[.agg #[.bool n, .slice ao len cap]] w (RetB v w) := by
  obtain ⟨h, rfl, rfl⟩ := hz
  have := sign_any (decide (z < 0)) ao len cap w (by have := hs.len_le; omega)
  rwa [sign_num z len hs.length, hv] at this
theorem compareP {x y v : Int} {n1 n2 : Bool} {xs ys : List Int} (hx : Num x n1 xs) (hy : Num y n2 ys) (hv : cmp3 x y = v) (ax : Option Addr) (la ca : Nat) (ay : Option Addr) (lb cb : Nat) (w : World) (sx : Sl w ax la ca xs) (sy : Sl w ay lb cb ys) :
    Calls Tryz.prog 38 #[.agg #[.bool n1, .slice ax la ca], .agg #[.bool n2, .slice ay lb cb]] w (RetB v w) := by
  obtain ⟨_, rfl, rfl⟩ := hx
  obtain ⟨_, rfl, rfl⟩ := hy
  have := compare_any (decide (x < 0)) ax la ca (parts x.natAbs) (decide (y < 0)) ay lb cb (parts y.natAbs) w sx sy
  rwa [cmpI_num, hv] at this

theorem dvd_le {x y : Int} (h : x ∣ y) (h0 : y ≠ 0) : x.natAbs ≤ y.natAbs := Nat.le_of_dvd (by omega) (Int.natAbs_dvd_natAbs.2 h)
theorem cmpI_pos (m n : Nat) : cmpI false (parts m) false (parts n) = cmp3 m n := by
  unfold cmpI
  simp [cmpL_parts]
set_option maxHeartbeats 1000000 in
theorem smallerP {x y : Int} {n1 n2 : Bool} {xs ys : List Int} (hx : Num x n1 xs) (hy : Num y n2 ys) (r : Bool) (hr : decide (x.natAbs < y.natAbs) = r) (ax : Option Addr) (la ca : Nat) (ay : Option Addr) (lb cb : Nat) (w : World) (sx : Sl w ax la ca xs) (sy : Sl w ay lb cb ys) :
    Calls Tryz.prog 70 #[.agg #[.bool n1, .slice ax la ca], .agg #[.bool n2, .slice ay lb cb]] w (RetBool r w) := by
  obtain ⟨_, _, rfl⟩ := hx
  obtain ⟨_, _, rfl⟩ := hy
  have hc := fun w hx hy => compare_any false ax la ca (parts x.natAbs) false ay lb cb (parts y.natAbs) w hx hy
  rw [cmpI_pos] at hc
  have hv : decide (cmp3 (x.natAbs : Int) (y.natAbs : Int) < 0) = r := by
    rw [← hr]
    unfold cmp3
    by_cases h : (x.natAbs : Int) < y.natAbs
    · rw [if_pos h]; simp; omega
    · rw [if_neg h]
      split <;> simp <;> omega
  generalize cmp3 (x.natAbs : Int) (y.natAbs : Int) = v at *
  generalize parts x.natAbs = xs at *
  generalize parts y.natAbs = ys at *
  have Hc := Lib.hid hc
  have Hv := Lib.hid hv
  clear hc hv hr
  go_enter Tryz.func70, Tryz.ntmps70
  go_wp2_with fail
  (with_reducible refine (Hc.out _ (by exact (sx.alloc _).alloc _) (by exact (sy.alloc _).alloc _)).mono ?_)
  rintro e w1 ⟨rfl, b1⟩
  have hb := (kept2 _ _ _ b1).2.2.2
  clear b1
  go_wp2
  go_ret
  exact ⟨by rw [← Hv.out]; rfl, hb⟩

/-- The closure of NumBezout: does d divide a? -/
theorem dividesP {d a : Int} {n1 n2 : Bool} {xs ys : List Int} (hd : Num d n1 xs) (ha : Num a n2 ys) (h0 : d ≠ 0) (r : Bool) (hr : decide (d ∣ a) = r) (ax : Option Addr) (la ca : Nat) (ay : Option Addr) (lb cb : Nat) (w : World) (sx : Sl w ax la ca xs) (sy : Sl w ay lb cb ys) :
    Calls Tryz.prog 72 #[.agg #[.bool n1, .slice ax la ca], .agg #[.bool n2, .slice ay lb cb]] w (RetBool r w) := by
  obtain ⟨hs1, hs2, hs3⟩ := fl_spec a d h0
  have hlim : Lim (flr a d) := by
    refine lim_mono (y := d) ?_ hd.1
    rcases Int.lt_or_gt_of_ne h0 with h | h
    · have := hs3 h; omega
    · have := hs2 h; omega
  obtain ⟨n3, zs, hz⟩ : ∃ n zs, Num (flr a d) n zs := ⟨_, _, hlim, rfl, rfl⟩
  have hv : decide (cmp3 (flr a d) 0 = 0) = r := by
    rw [← hr]
    refine decide_eq_decide.2 (cmp3_zero.trans ⟨fun h => ⟨flq a d, by rw [h] at hs1; omega⟩, fun h => ?_⟩)
    obtain ⟨q, hq⟩ := h
    have hd2 : d ∣ flr a d := ⟨q - flq a d, by
      have e : d * (q - flq a d) = d * q - d * flq a d := by rw [Int.mul_sub]
      rw [e, ← hq]; omega⟩
    by_cases hz : flr a d = 0
    · exact hz
    · have := dvd_le hd2 hz
      rcases Int.lt_or_gt_of_ne h0 with h | h
      · have := hs3 h; omega
      · have := hs2 h; omega
  have hm := fun w sx sy => modP ha hd hz h0 rfl ay lb cb ax la ca w sx sy
  have hsg := fun ao len cap w hs => signQ hz rfl ao len cap w hs
  generalize cmp3 (flr a d) 0 = v at *
  have Hm := Lib.hid hm
  have Hsg := Lib.hid hsg
  have Hv := Lib.hid hv
  clear hm hsg hv hr hs1 hs2 hs3 hlim hz hd ha h0
  go_enter Tryz.func72, Tryz.ntmps72
  go_wp2_with fail
  (with_reducible refine (Hm.out _ (by exact (sy.alloc _).alloc _) (by exact (sx.alloc _).alloc _)).mono ?_)
  rintro e w1 ⟨a1, l1, c1, rfl, s1, b1⟩
  have hb := (kept2 _ _ _ b1).2.2.2
  clear b1 sx sy
  go_wp2_with fail
  (with_reducible refine (Hsg.out _ _ _ _ (by exact s1.alloc _)).mono ?_)
  rintro e w2 ⟨rfl, b2⟩
  have hb2 := hb.trans ((kept1 _ _ b2).2.2.mono hb.size)
  clear b2 hb
  go_wp2
  go_ret
  exact ⟨by rw [← Hv.out]; rfl, hb2⟩

theorem bez_lim (a b : Int) (ha : Lim a) (hb : Lim b) : Lim (bez a b).1 ∧ Lim (bez a b).2.1 ∧ Lim (bez a b).2.2 := by
  obtain ⟨h0, he, h1, h2, h3, h4⟩ := bez_spec a b
  have l1 : Lim 1 := lim_small 1 (by decide)
  have key : ∀ (z y : Int), Lim y → z.natAbs ≤ max y.natAbs 1 → Lim z := by
    intro z y hy hz
    by_cases h : z.natAbs ≤ y.natAbs
    · exact lim_mono h hy
    · exact lim_mono (by simp; omega) l1
  refine ⟨?_, key _ b hb h3, key _ a ha h4⟩
  by_cases hz : a = 0
  · by_cases hy : b = 0
    · have e : (bez a b).1 = 0 := by
        rw [← he, show a * (bez a b).2.1 = 0 by rw [hz, Int.zero_mul], show b * (bez a b).2.2 = 0 by rw [hy, Int.zero_mul]]; rfl
      rw [e]; exact Lim.zero
    · exact lim_mono (dvd_le h2 hy) hb
  · exact lim_mono (dvd_le h1 hz) ha
end Go.Proofs.YtfjnplhhgdfepaaGreatDoor

/- right at two, three and four data; what it says of them. -/
namespace Go.Proofs.YtfjnplhhgdfepaaGreatDoor
open Go.RowKit

theorem wrong_no {n : Bool} {ao : Option Addr} {len cap : Nat} {xs : List Int} {w : World} (hs : Sl w ao len cap xs) (h : wrong ⟨n, ao, len, cap, xs⟩ = false) : ∃ z, Num z n xs := by
  have _ := hs
  unfold wrong Dat.ok at h
  simp only [Bool.or_eq_false_iff, Bool.not_eq_false'] at h
  obtain ⟨z, h1, h2, h3⟩ := (okInt_iff n xs).1 h.2
  exact ⟨z, h1, h2, h3⟩
theorem right1 (n1 : Bool) (a1 : Option Addr) (l1 c1 : Nat) (x1 : List Int) (w : World) (g : Nat) (hg : w.heap[g]? = some (.cells #[.bool n1, .slice a1 l1 c1] 24 (0, 0)))
    (h1 : Sl w a1 l1 c1 x1) (r : Bool) (hr : (!(wrong ⟨n1, a1, l1, c1, x1⟩)) = r) :
    Calls Tryz.prog 64 #[.slice (some ⟨g, 0, none⟩) 1 1] w (RetBool r w) := by
  have := right_any g [⟨n1, a1, l1, c1, x1⟩] w hg (by
    intro d hd
    simp only [List.mem_cons, List.not_mem_nil, or_false] at hd
    rcases hd with rfl
    · exact h1) (by simp)
  rw [show List.any [(⟨n1, a1, l1, c1, x1⟩ : Dat)] wrong = wrong ⟨n1, a1, l1, c1, x1⟩ by simp, hr] at this
  exact this
theorem right3 (n1 : Bool) (a1 : Option Addr) (l1 c1 : Nat) (x1 : List Int) (n2 : Bool) (a2 : Option Addr) (l2 c2 : Nat) (x2 : List Int) (n3 : Bool) (a3 : Option Addr) (l3 c3 : Nat) (x3 : List Int) (w : World) (g : Nat) (hg : w.heap[g]? = some (.cells #[.bool n1, .slice a1 l1 c1, .bool n2, .slice a2 l2 c2, .bool n3, .slice a3 l3 c3] 24 (0, 0)))
    (h1 : Sl w a1 l1 c1 x1) (h2 : Sl w a2 l2 c2 x2) (h3 : Sl w a3 l3 c3 x3) (r : Bool) (hr : (!(wrong ⟨n1, a1, l1, c1, x1⟩ || (wrong ⟨n2, a2, l2, c2, x2⟩ || wrong ⟨n3, a3, l3, c3, x3⟩))) = r) :
    Calls Tryz.prog 64 #[.slice (some ⟨g, 0, none⟩) 3 3] w (RetBool r w) := by
  have := right_any g [⟨n1, a1, l1, c1, x1⟩, ⟨n2, a2, l2, c2, x2⟩, ⟨n3, a3, l3, c3, x3⟩] w hg (by
    intro d hd
    simp only [List.mem_cons, List.not_mem_nil, or_false] at hd
    rcases hd with rfl | rfl | rfl
    · exact h1
    · exact h2
    · exact h3) (by simp)
  rw [show List.any [(⟨n1, a1, l1, c1, x1⟩ : Dat), ⟨n2, a2, l2, c2, x2⟩, ⟨n3, a3, l3, c3, x3⟩] wrong = (wrong ⟨n1, a1, l1, c1, x1⟩ || (wrong ⟨n2, a2, l2, c2, x2⟩ || wrong ⟨n3, a3, l3, c3, x3⟩)) by simp, hr] at this
  exact this
end Go.Proofs.YtfjnplhhgdfepaaGreatDoor

/- Arguments that are integers' data, opened: the sign, and a slice that reads as ints; and read again behind the call. -/
namespace Go.Proofs.YtfjnplhhgdfepaaGreatDoor
open Go.ChangeShapes Go.WideShapes Go.ChangeAt Go.RowKit Go.Joins Go.Deep

theorem lift_laid : laidOutB Tryz.prog = true := by kernel_rfl
theorem lift_readI : Tryz.prog.readableRec 24 = true := by kernel_rfl
theorem lift_rowI : 24 < Tryz.prog.types.size := of_decide_eq_true (by kernel_rfl)
theorem lift_cellsI : Tryz.prog.cellsOf 24 = 2 := by kernel_rfl
theorem lift_typesI : Tryz.prog.cellTypes Tryz.prog.depth 24 = some [4, 22] := by kernel_rfl
theorem lift_cellsi : Tryz.prog.cellsOf 3 = 1 := by kernel_rfl

section
variable {H : Type} {enc : TypeId × Value → H} {W : World}
set_option maxRecDepth 100000 in
/-- A slice that came in, as the cell of a parameter, reads as ints. -/
theorem open_sl {v : Value} {y : DataW H × List MemPlace} {n base : Nat} (hok : Cell.okWide Tryz.prog W .any base 22 v) (h : DataW.trod enc Tryz.prog W 0 (fun _ => true) true n 22 [v] = some y) :
    ∃ ao len cap xs, v = .slice ao len cap ∧ Sl W ao len cap xs := by
  rcases open_ints Tryz.underlying22 Tryz.underlying3 lift_cellsi h with ⟨h1, _⟩ | ⟨a, len, cap, zs, h1, _, hl, hc, hz, _, hcell, _⟩
  · injection h1 with h1 _
    exact ⟨none, 0, 0, [], h1, Sl.nil W⟩
  · injection h1 with h1 _
    subst h1
    have hsp : a.spot = none := by
      unfold Cell.okWide at hok
      simp only [Tryz.underlying22] at hok
      unfold Cell.ok at hok
      simp only [Tryz.underlying22] at hok
      exact hok.2.2.2.1
    obtain ⟨b, o, spot⟩ := a
    simp only at hsp
    subst hsp
    simp only [if_true] at hz
    refine ⟨_, len, cap, zs.take len, rfl, by rw [List.length_take]; omega, hl, hc, .inr ⟨b, o, rfl, fun j hj => ?_⟩⟩
    have := hcell j (by omega)
    rw [add_plain] at this
    rw [this]
    simp [List.getD, hj]
set_option maxRecDepth 100000 in
/-- A parameter of the type of integers, whatever it holds. -/
theorem open_I {v : Value} {d : DataW H} {p : List MemPlace} {base : Nat} (hok : Value.okWide Tryz.prog W .any base 24 v) (h : DataW.Trod enc Tryz.prog W 0 (fun _ => true) true 24 v d p) :
    ∃ n ao len cap xs, v = .agg #[.bool n, .slice ao len cap] ∧ Sl W ao len cap xs := by
  have hok' := hok
  obtain ⟨v0, v1, y0, y1, m, rfl, _, _, h0, h1⟩ := open_agg2 Tryz.underlying24 (by kernel_rfl) lift_cellsI hok h
  unfold Value.okWide at hok'
  simp only [Tryz.underlying24] at hok'
  obtain ⟨cs, hcs, _, ts, hts, _, hall⟩ := hok'
  obtain rfl := Option.some.inj (lift_typesI.symm.trans hts)
  injection hcs with hcs
  subst hcs
  obtain ⟨u, hu, hcell⟩ := hall 1 v1 rfl
  obtain rfl : 22 = u := by simpa using hu
  obtain ⟨b, hb, _⟩ := DataW.trod_bool Tryz.underlying4 h0
  injection hb with hb _
  subst hb
  obtain ⟨ao, len, cap, xs, rfl, hs⟩ := open_sl hcell h1
  exact ⟨b, ao, len, cap, xs, rfl, hs⟩
/-- It reads behind the call as it did before. -/
theorem again_I {W' : World} {sp : Nat → Bool} {v : Value} {d : DataW H} {p : List MemPlace} (h : DataW.Trod enc Tryz.prog W 0 (fun _ => true) true 24 v d p) (hb : Below W.heap.size W W') (hlt : ∀ x ∈ p, x.block < W.heap.size) (hs : ∀ x ∈ p, sp x.block = true) :
    DataW.Trod enc Tryz.prog W' 0 sp true 24 v d p :=
  WideElems.Trod_stays lift_laid lift_readI lift_rowI h (fun x hx => hb.same (hlt x hx)) hs
end
end Go.Proofs.YtfjnplhhgdfepaaGreatDoor

/- NumFractions: for every input the law answers true, and each argument reads afterwards as it read before. Condition: the table of the powers of ten lies as the program's text lays it (tied by the card). -/
import Derived.Orders
import Derived.RegionTactic
import Derived.Deep.RegionHeld
import Derived.WalkKit
import Derived.Test.YtcmocjfnmfiieaaGreatDoorProg
import Derived.Deep.DeepCutAuto
import Derived.Test.YtcmocjfnmfiieaaGreatDoorK8
set_option linter.all false

/- The closure of NumPowers; right at four data. -/
namespace Go.Proofs.YtcmocjfnmfiieaaGreatDoor
open Go.RowKit

def powerR (p q : Int × Int) : Int × Int := if p.2 = 0 ∧ q.2 = 0 then fitR (p.1 ^ q.1.natAbs) else (0, 2)

set_option maxHeartbeats 1000000 in
theorem lawPower_ok (n1 : Bool) (ax : Option Addr) (la ca : Nat) (xs : List Int) (n2 : Bool) (ay : Option Addr) (lb cb : Nat) (ys : List Int) (n3 : Bool) (zs : List Int) (e3 : Int) (hzl : zs.getLast? ≠ some 0) (w : World) (hx : Sl w ax la ca xs) (hy : Sl w ay lb cb ys)
    (hc : ∀ w, Sl w ax la ca xs → Sl w ay lb cb ys → Calls Tryz.prog 54 #[.agg #[.bool n1, .slice ax la ca], .agg #[.bool n2, .slice ay lb cb]] w (RetPE n3 zs e3 w)) :
    Calls Tryz.prog 71 #[.agg #[.bool n1, .slice ax la ca, .int .i64 0], .agg #[.bool n2, .slice ay lb cb, .int .i64 0]] w (RetQ n3 zs e3 w) := by
  have Hc := Lib.hid hc
  have Hzl := Lib.hid hzl
  clear hc hzl
  go_enter Tryz.func71, Tryz.ntmps71
  go_wp2_with fail
  (with_reducible refine (Hc.out _ (by exact ((hx.alloc _).alloc _).alloc _) (by exact ((hy.alloc _).alloc _).alloc _)).mono ?_)
  rintro e w1 ⟨a1, l1, c1, rfl, s1, b1⟩
  obtain ⟨_, _, hC, hz, hbb⟩ := kept3 _ _ _ _ b1
  clear b1
  go_wp2_with fail
  (with_reducible refine (got_any _ _ _ _ _ _).mono ?_)
  rintro e w2 ⟨rfl, b2⟩
  have hC2 : Box3 w2 (w.heap.size + 1 + 1) false none 0 0 0 := (b2.block _ (Array.getElem?_eq_some_iff.1 hC).1).trans hC
  obtain ⟨f0, f1, f2⟩ := hC2.cells
  obtain ⟨g0, g1, g2⟩ := hC2.froz
  have hsz := hC2.lt
  have s2 := s1.below b2
  have hb2 := hbb.trans (b2.mono hbb.size)
  have HC := Lib.hid hC2
  clear hC hC2 b2 hbb s1
  go_wp2
  refine bodyPost_ret (v := .agg #[.bool n3, .slice a1 l1 c1, .int .i64 e3]) (by simp [results, Tryz.results71, go_sem, f0, f1, f2]) rfl ?_
  refine ⟨a1, l1, c1, rfl, ?_, ((hb2.setCell (by simp; omega) _).setCell (by simp; omega) _).setCell (by simp; omega) _⟩
  exact s2.pair Hzl.out HC.out _ _ _ _ _

set_option maxHeartbeats 1000000 in
theorem lawPower_bad (n1 : Bool) (ax : Option Addr) (la ca : Nat) (e1 : Int) (n2 : Bool) (ay : Option Addr) (lb cb : Nat) (e2 : Int) (w : World) (h : ¬ (e1 = 0 ∧ e2 = 0)) :
    Calls Tryz.prog 71 #[.agg #[.bool n1, .slice ax la ca, .int .i64 e1], .agg #[.bool n2, .slice ay lb cb, .int .i64 e2]] w (RetQ false [] 2 w) := by
  have hb : ∀ o p q : Obj, Below w.heap.size w (((w.alloc o).alloc p).alloc q) := fun o p q => below3 w o p q
  by_cases h1 : e1 = 0
  · have h2 : e2 ≠ 0 := fun h' => h ⟨h1, h'⟩
    subst h1
    have hq : (e2 != 0) = true := by simpa using h2
    clear h h2
    go_enter Tryz.func71, Tryz.ntmps71
    go_wp2
    refine bodyPost_ret (v := .agg #[.bool false, .slice none 0 0, .int .i64 2]) (by simp [results, Tryz.results71, go_sem]) rfl ?_
    exact ⟨_, _, _, rfl, Sl.nil _, hb _ _ _⟩
  · have hq : (e1 != 0) = true := by simpa using h1
    clear h h1
    go_enter Tryz.func71, Tryz.ntmps71
    go_wp2
    refine bodyPost_ret (v := .agg #[.bool false, .slice none 0 0, .int .i64 2]) (by simp [results, Tryz.results71, go_sem]) rfl ?_
    exact ⟨_, _, _, rfl, Sl.nil _, hb _ _ _⟩

theorem lawPower_any {x y z e1 e2 e3 : Int} {n1 n2 n3 : Bool} {xs ys zs : List Int} (hx : Num x n1 xs) (hy : Num y n2 ys) (hz : Num z n3 zs) (hy0 : e2 = 0 → 0 ≤ y) (he : powerR (x, e1) (y, e2) = (z, e3)) (ax : Option Addr) (la ca : Nat) (ay : Option Addr) (lb cb : Nat) (w : World) (sx : Sl w ax la ca xs) (sy : Sl w ay lb cb ys) :
    Calls Tryz.prog 71 #[.agg #[.bool n1, .slice ax la ca, .int .i64 e1], .agg #[.bool n2, .slice ay lb cb, .int .i64 e2]] w (RetQ n3 zs e3 w) := by
  obtain ⟨h1, rfl, rfl⟩ := hx
  obtain ⟨h2, rfl, rfl⟩ := hy
  obtain ⟨_, rfl, rfl⟩ := hz
  unfold powerR at he
  by_cases h : e1 = 0 ∧ e2 = 0
  · rw [if_pos h] at he
    obtain ⟨rfl, rfl⟩ := h
    refine lawPower_ok _ ax la ca _ _ ay lb cb _ _ _ _ (parts_last _) w sx sy fun w sx sy => ((Pow_ok x y h1 h2 (hy0 rfl) ax la ca ay lb cb w sx sy).mono fun _ _ h => ?_)
    have := h.fit
    rw [he] at this
    exact this
  · rw [if_neg h] at he
    cases he
    have := lawPower_bad (decide (x < 0)) ax la ca e1 (decide (y < 0)) ay lb cb e2 w h
    rw [show decide ((0 : Int) < 0) = false from rfl, show (0 : Int).natAbs = 0 from rfl, parts_zero]
    exact this

theorem right4 (n1 : Bool) (a1 : Option Addr) (l1 c1 : Nat) (x1 : List Int) (n2 : Bool) (a2 : Option Addr) (l2 c2 : Nat) (x2 : List Int) (n3 : Bool) (a3 : Option Addr) (l3 c3 : Nat) (x3 : List Int) (n4 : Bool) (a4 : Option Addr) (l4 c4 : Nat) (x4 : List Int) (w : World) (g : Nat) (hg : w.heap[g]? = some (.cells #[.bool n1, .slice a1 l1 c1, .bool n2, .slice a2 l2 c2, .bool n3, .slice a3 l3 c3, .bool n4, .slice a4 l4 c4] 24 (0, 0)))
    (h1 : Sl w a1 l1 c1 x1) (h2 : Sl w a2 l2 c2 x2) (h3 : Sl w a3 l3 c3 x3) (h4 : Sl w a4 l4 c4 x4) (r : Bool) (hr : (!(wrong ⟨n1, a1, l1, c1, x1⟩ || (wrong ⟨n2, a2, l2, c2, x2⟩ || (wrong ⟨n3, a3, l3, c3, x3⟩ || wrong ⟨n4, a4, l4, c4, x4⟩)))) = r) :
    Calls Tryz.prog 64 #[.slice (some ⟨g, 0, none⟩) 4 4] w (RetBool r w) := by
  have := right_any g [⟨n1, a1, l1, c1, x1⟩, ⟨n2, a2, l2, c2, x2⟩, ⟨n3, a3, l3, c3, x3⟩, ⟨n4, a4, l4, c4, x4⟩] w hg (by
    intro d hd
    simp only [List.mem_cons, List.not_mem_nil, or_false] at hd
    rcases hd with rfl | rfl | rfl | rfl
    · exact h1
    · exact h2
    · exact h3
    · exact h4) (by simp)
  rw [show List.any [(⟨n1, a1, l1, c1, x1⟩ : Dat), ⟨n2, a2, l2, c2, x2⟩, ⟨n3, a3, l3, c3, x3⟩, ⟨n4, a4, l4, c4, x4⟩] wrong = (wrong ⟨n1, a1, l1, c1, x1⟩ || (wrong ⟨n2, a2, l2, c2, x2⟩ || (wrong ⟨n3, a3, l3, c3, x3⟩ || wrong ⟨n4, a4, l4, c4, x4⟩))) by simp, hr] at this
  exact this

/-! What results mean, where there are any. -/
theorem fitR_zero {z v : Int} (h : fitR z = (v, 0)) : v = z := by
  by_cases hl : Lim z
  · rw [fitR_ok hl] at h; cases h; rfl
  · rw [fitR_no hl] at h; cases h
theorem sumR_lim (p q : Int × Int) : Lim (sumR p q).1 := by
  unfold sumR; split
  · exact fitR_lim _
  · exact Lim.zero
theorem timesR_lim (p q : Int × Int) : Lim (timesR p q).1 := by
  unfold timesR; split
  · exact fitR_lim _
  · exact Lim.zero
theorem powerR_lim (p q : Int × Int) : Lim (powerR p q).1 := by
  unfold powerR; split
  · exact fitR_lim _
  · exact Lim.zero
theorem sumR_zero {x e1 y e2 v : Int} (h : sumR (x, e1) (y, e2) = (v, 0)) : e1 = 0 ∧ e2 = 0 ∧ v = x + y := by
  unfold sumR at h; split at h
  · rename_i hh; exact ⟨hh.1, hh.2, fitR_zero h⟩
  · cases h
theorem timesR_zero {x e1 y e2 v : Int} (h : timesR (x, e1) (y, e2) = (v, 0)) : e1 = 0 ∧ e2 = 0 ∧ v = x * y := by
  unfold timesR at h; split at h
  · rename_i hh; exact ⟨hh.1, hh.2, fitR_zero h⟩
  · cases h
theorem powerR_zero {x e1 y e2 v : Int} (h : powerR (x, e1) (y, e2) = (v, 0)) : e1 = 0 ∧ e2 = 0 ∧ v = x ^ y.natAbs := by
  unfold powerR at h; split at h
  · rename_i hh; exact ⟨hh.1, hh.2, fitR_zero h⟩
  · cases h
end Go.Proofs.YtcmocjfnmfiieaaGreatDoor

/- Fractions: Cross at named numbers, right at seven data, and what NumFractions leans on of integers. -/
namespace Go.Proofs.YtcmocjfnmfiieaaGreatDoor
open Go.RowKit

theorem crossQ {x y z u v : Int} {n1 n2 n3 n4 : Bool} {x1 x2 x3 x4 : List Int} (hx : Num x n1 x1) (hy : Num y n2 x2) (hz : Num z n3 x3) (hu : Num u n4 x4) (py : 0 < y) (pu : 0 < u) (hv : cmp3 (x * u) (z * y) = v)
    (a1 : Option Addr) (l1 c1 : Nat) (a2 : Option Addr) (l2 c2 : Nat) (a3 : Option Addr) (l3 c3 : Nat) (a4 : Option Addr) (l4 c4 : Nat) (w : World) (h1 : Sl w a1 l1 c1 x1) (h2 : Sl w a2 l2 c2 x2) (h3 : Sl w a3 l3 c3 x3) (h4 : Sl w a4 l4 c4 x4) :
    Calls Tryz.prog 58 #[.agg #[.bool n1, .slice a1 l1 c1], .agg #[.bool n2, .slice a2 l2 c2], .agg #[.bool n3, .slice a3 l3 c3], .agg #[.bool n4, .slice a4 l4 c4]] w (RetII v 0 w) := by
  obtain ⟨k1, rfl, rfl⟩ := hx
  obtain ⟨k2, rfl, rfl⟩ := hy
  obtain ⟨k3, rfl, rfl⟩ := hz
  obtain ⟨k4, rfl, rfl⟩ := hu
  subst hv
  exact cross_ok x y z u k1 k2 k3 k4 a1 l1 c1 a2 l2 c2 a3 l3 c3 a4 l4 c4 w h1 h2 h3 h4 py pu
theorem right7 (n1 : Bool) (a1 : Option Addr) (l1 c1 : Nat) (x1 : List Int) (n2 : Bool) (a2 : Option Addr) (l2 c2 : Nat) (x2 : List Int) (n3 : Bool) (a3 : Option Addr) (l3 c3 : Nat) (x3 : List Int) (n4 : Bool) (a4 : Option Addr) (l4 c4 : Nat) (x4 : List Int) (n5 : Bool) (a5 : Option Addr) (l5 c5 : Nat) (x5 : List Int) (n6 : Bool) (a6 : Option Addr) (l6 c6 : Nat) (x6 : List Int) (n7 : Bool) (a7 : Option Addr) (l7 c7 : Nat) (x7 : List Int) (w : World) (g : Nat)
    (hg : w.heap[g]? = some (.cells #[.bool n1, .slice a1 l1 c1, .bool n2, .slice a2 l2 c2, .bool n3, .slice a3 l3 c3, .bool n4, .slice a4 l4 c4, .bool n5, .slice a5 l5 c5, .bool n6, .slice a6 l6 c6, .bool n7, .slice a7 l7 c7] 24 (0, 0)))
    (h1 : Sl w a1 l1 c1 x1) (h2 : Sl w a2 l2 c2 x2) (h3 : Sl w a3 l3 c3 x3) (h4 : Sl w a4 l4 c4 x4) (h5 : Sl w a5 l5 c5 x5) (h6 : Sl w a6 l6 c6 x6) (h7 : Sl w a7 l7 c7 x7) (r : Bool)
    (hr : (!(wrong ⟨n1, a1, l1, c1, x1⟩ || (wrong ⟨n2, a2, l2, c2, x2⟩ || (wrong ⟨n3, a3, l3, c3, x3⟩ || (wrong ⟨n4, a4, l4, c4, x4⟩ || (wrong ⟨n5, a5, l5, c5, x5⟩ || (wrong ⟨n6, a6, l6, c6, x6⟩ || wrong ⟨n7, a7, l7, c7, x7⟩))))))) = r) :
    Calls Tryz.prog 64 #[.slice (some ⟨g, 0, none⟩) 7 7] w (RetBool r w) := by
  have := right_any g [⟨n1, a1, l1, c1, x1⟩, ⟨n2, a2, l2, c2, x2⟩, ⟨n3, a3, l3, c3, x3⟩, ⟨n4, a4, l4, c4, x4⟩, ⟨n5, a5, l5, c5, x5⟩, ⟨n6, a6, l6, c6, x6⟩, ⟨n7, a7, l7, c7, x7⟩] w hg (by
    intro d hd
    simp only [List.mem_cons, List.not_mem_nil, or_false] at hd
    rcases hd with rfl | rfl | rfl | rfl | rfl | rfl | rfl
    · exact h1
    · exact h2
    · exact h3
    · exact h4
    · exact h5
    · exact h6
    · exact h7) (by simp)
  rw [show List.any [(⟨n1, a1, l1, c1, x1⟩ : Dat), ⟨n2, a2, l2, c2, x2⟩, ⟨n3, a3, l3, c3, x3⟩, ⟨n4, a4, l4, c4, x4⟩, ⟨n5, a5, l5, c5, x5⟩, ⟨n6, a6, l6, c6, x6⟩, ⟨n7, a7, l7, c7, x7⟩] wrong = (wrong ⟨n1, a1, l1, c1, x1⟩ || (wrong ⟨n2, a2, l2, c2, x2⟩ || (wrong ⟨n3, a3, l3, c3, x3⟩ || (wrong ⟨n4, a4, l4, c4, x4⟩ || (wrong ⟨n5, a5, l5, c5, x5⟩ || (wrong ⟨n6, a6, l6, c6, x6⟩ || wrong ⟨n7, a7, l7, c7, x7⟩)))))) by simp, hr] at this
  exact this

theorem cmp3_cases {x y v : Int} (h : cmp3 x y = v) : (v = -1 ∧ x < y) ∨ (v = 0 ∧ x = y) ∨ (v = 1 ∧ y < x) := by
  unfold cmp3 at h
  by_cases h1 : x < y
  · rw [if_pos h1] at h; exact .inl ⟨h.symm, h1⟩
  · rw [if_neg h1] at h
    by_cases h2 : x = y
    · rw [if_pos h2] at h; exact .inr (.inl ⟨h.symm, h2⟩)
    · rw [if_neg h2] at h; exact .inr (.inr ⟨h.symm, by omega⟩)
theorem cmp3_lt {x y : Int} (h : x < y) : cmp3 x y = -1 := if_pos h
theorem cmp3_gt {x y : Int} (h : y < x) : cmp3 x y = 1 := by unfold cmp3; rw [if_neg (by omega), if_neg (by omega)]
theorem pos_of {z v : Int} (h : cmp3 z 0 = v) (hq : decide (v ≤ 0) = false) : 0 < z := by
  have := of_decide_eq_false hq
  rcases cmp3_cases h with ⟨h1, h2⟩ | ⟨h1, h2⟩ | ⟨h1, h2⟩ <;> omega
theorem pos_sign {z v : Int} (h : cmp3 z 0 = v) (hq : 0 < v) : 0 < z := by
  rcases cmp3_cases h with ⟨h1, h2⟩ | ⟨h1, h2⟩ | ⟨h1, h2⟩ <;> omega
theorem frac_order {a b c d e f x y z v : Int} (pb : 0 < b) (pd : 0 < d) (pf : 0 < f) (hx : cmp3 (a * d) (c * b) = x) (hy : cmp3 (c * b) (a * d) = y) (hz : cmp3 (c * f) (e * d) = z) (hv : cmp3 (a * f) (e * b) = v) :
    (x = -1 ∨ x = 0 ∨ x = 1) ∧ y = -x ∧ (x ≤ 0 → z ≤ 0 → v ≤ 0) := by
  refine ⟨?_, ?_, fun h1 h2 => ?_⟩
  · rcases cmp3_cases hx with ⟨h1, _⟩ | ⟨h1, _⟩ | ⟨h1, _⟩ <;> simp [h1]
  · rcases cmp3_cases hx with ⟨h1, h2⟩ | ⟨h1, h2⟩ | ⟨h1, h2⟩ <;> rcases cmp3_cases hy with ⟨h3, h4⟩ | ⟨h3, h4⟩ | ⟨h3, h4⟩ <;> omega
  · have k1 : a * d ≤ c * b := by rcases cmp3_cases hx with ⟨h3, h4⟩ | ⟨h3, h4⟩ | ⟨h3, h4⟩ <;> omega
    have k2 : c * f ≤ e * d := by rcases cmp3_cases hz with ⟨h3, h4⟩ | ⟨h3, h4⟩ | ⟨h3, h4⟩ <;> omega
    have k3 : a * d * f ≤ c * b * f := Int.mul_le_mul_of_nonneg_right k1 (by omega)
    have k4 : c * f * b ≤ e * d * b := Int.mul_le_mul_of_nonneg_right k2 (by omega)
    have k5 : (a * f) * d ≤ (e * b) * d := by
      have e1 : a * d * f = (a * f) * d := by ac_rfl
      have e2 : c * b * f = c * f * b := by ac_rfl
      have e3 : e * d * b = (e * b) * d := by ac_rfl
      rw [e1, e2] at k3; rw [e3] at k4; omega
    have k6 : a * f ≤ e * b := Int.le_of_mul_le_mul_right k5 pd
    rcases cmp3_cases hv with ⟨h3, h4⟩ | ⟨h3, h4⟩ | ⟨h3, h4⟩ <;> omega
theorem frac_pos {a b k p q ep eq : Int} (pb : 0 < b) (hp : timesR (a, 0) (k, 0) = (p, ep)) (hq : timesR (b, 0) (k, 0) = (q, eq)) (h : ep = 0 ∧ eq = 0 ∧ 0 < k) : 0 < q := by
  have _ := hp
  obtain ⟨_, rfl, hk⟩ := h
  obtain ⟨_, _, rfl⟩ := timesR_zero hq
  exact Int.mul_pos pb hk
theorem cmp3_scale {x y k v : Int} (hk : 0 < k) (h : cmp3 x y = v) : cmp3 (x * k) (y * k) = v := by
  rcases cmp3_cases h with ⟨rfl, h2⟩ | ⟨rfl, h2⟩ | ⟨rfl, h2⟩
  · exact cmp3_lt (Int.mul_lt_mul_of_pos_right h2 hk)
  · rw [h2]; exact cmp3_self _
  · exact cmp3_gt (Int.mul_lt_mul_of_pos_right h2 hk)
theorem frac_more {a b c d k p q ep eq x : Int} (pb : 0 < b) (pd : 0 < d) (hp : timesR (a, 0) (k, 0) = (p, ep)) (hq : timesR (b, 0) (k, 0) = (q, eq)) (h : ep = 0 ∧ eq = 0 ∧ 0 < k) (hx : cmp3 (a * d) (c * b) = x) : cmp3 (p * d) (c * q) = x := by
  have _ := pb; have _ := pd
  obtain ⟨rfl, rfl, hk⟩ := h
  obtain ⟨_, _, rfl⟩ := timesR_zero hp
  obtain ⟨_, _, rfl⟩ := timesR_zero hq
  rw [show a * k * d = a * d * k by ac_rfl, show c * (b * k) = c * b * k by ac_rfl]
  exact cmp3_scale hk hx
theorem flq_pos (a : Int) {b : Int} (pb : 0 < b) : flq a b * b ≤ a ∧ a < (flq a b + 1) * b := by
  unfold flq; rw [if_pos pb]
  have h1 := Int.mul_ediv_add_emod a b
  have h2 := Int.emod_nonneg a (by omega : b ≠ 0)
  have h3 := Int.emod_lt_of_pos a pb
  have h4 : b * (a / b) = a / b * b := Int.mul_comm _ _
  rw [Int.add_mul]
  omega
theorem quo_num {a b : Int} {n : Bool} {xs : List Int} (ha : Num a n xs) (pb : 0 < b) : ∃ m ys, Num (flq a b) m ys := by
  refine ⟨_, _, lim_mono ?_ ha.1, rfl, rfl⟩
  obtain ⟨h1, h2⟩ := flq_pos a pb
  generalize flq a b = q at *
  rcases Int.lt_or_le q 0 with h | h
  · have h3 : (q + 1) * b ≤ q + 1 := by
      have : (q + 1) * b ≤ (q + 1) * 1 := Int.mul_le_mul_of_nonpos_left (by omega) (by omega)
      omega
    omega
  · have h3 : q ≤ q * b := by
      have : q * 1 ≤ q * b := Int.mul_le_mul_of_nonneg_left (by omega) h
      omega
    omega
theorem frac_quo {a b c d x m : Int} (pb : 0 < b) (pd : 0 < d) (hx : cmp3 (a * d) (c * b) = x) (hm : cmp3 (flq a b) (flq c d) = m) : m ≠ 0 → m = x := by
  intro h0
  obtain ⟨h1, h2⟩ := flq_pos a pb
  obtain ⟨h3, h4⟩ := flq_pos c pd
  generalize flq a b = q at *
  generalize flq c d = r at *
  have key : ∀ {a b c d q r : Int}, 0 < b → 0 < d → a < (q + 1) * b → r * d ≤ c → q < r → a * d < c * b := by
    intro a b c d q r pb pd h2 h3 h
    have k1 : a * d < (q + 1) * b * d := Int.mul_lt_mul_of_pos_right h2 pd
    have k2 : r * d * b ≤ c * b := Int.mul_le_mul_of_nonneg_right h3 (by omega)
    have k3 : (q + 1) * (b * d) ≤ r * (b * d) := Int.mul_le_mul_of_nonneg_right (by omega) (Int.le_of_lt (Int.mul_pos pb pd))
    have e1 : (q + 1) * b * d = (q + 1) * (b * d) := Int.mul_assoc _ _ _
    have e2 : r * d * b = r * (b * d) := by ac_rfl
    rw [e1] at k1; rw [e2] at k2
    omega
  rcases cmp3_cases hm with ⟨rfl, h⟩ | ⟨rfl, h⟩ | ⟨rfl, h⟩
  · rw [← hx]; exact (cmp3_lt (key pb pd h2 h3 h)).symm
  · exact absurd rfl h0
  · rw [← hx]; exact (cmp3_gt (key pd pb h4 h1 h)).symm
end Go.Proofs.YtcmocjfnmfiieaaGreatDoor

/- A pair's box that a drawn region makes: what a store into it leaves as it was. -/
namespace Go.Proofs.YtcmocjfnmfiieaaGreatDoor
open Go.RowKit

/-- Block g holds the zero pair: just made. -/
def Zr (w : World) (g : Nat) : Prop := w.heap[g]? = some (.cells #[.bool false, .slice none 0 0, .int .i64 0] 38 (0, 0))
theorem Zr.cells {w : World} {g : Nat} (h : Zr w g) : w.cell? ⟨g, 0, none⟩ = some (.bool false) ∧ w.cell? ⟨g, 1, none⟩ = some (.slice none 0 0) ∧ w.cell? ⟨g, 2, none⟩ = some (.int .i64 0) := Box3.cells h
theorem Zr.froz {w : World} {g : Nat} (h : Zr w g) : w.frozen? ⟨g, 0, none⟩ = false ∧ w.frozen? ⟨g, 1, none⟩ = false ∧ w.frozen? ⟨g, 2, none⟩ = false := Box3.froz h
theorem Zr.below {w w' : World} {g : Nat} (h : Zr w g) (hb : Below w.heap.size w w') : Zr w' g := Box3.below h hb
theorem Zr.alloc {w : World} {g : Nat} (h : Zr w g) (o : Obj) : Zr (w.alloc o) g := h.below ((Below.refl _ _).alloc (Nat.le_refl _) o)
theorem Zr.new {w w' : World} (hb : Below (w.alloc (.cells #[.bool false, .slice none 0 0, .int .i64 0] 38)).heap.size (w.alloc (.cells #[.bool false, .slice none 0 0, .int .i64 0] 38)) w') : Zr w' w.heap.size := (kept1 _ _ hb).1
theorem Zr.newD {w w' : World} (hb : Below (w.alloc (.cells #[.bool false, .slice none 0 0, .int .i64 0] 38)).drew.heap.size (w.alloc (.cells #[.bool false, .slice none 0 0, .int .i64 0] 38)).drew w') : Zr w' w.heap.size := (kept1 _ _ (Below.undrew hb)).1
theorem Zr.newA {w w' : World} {o : Obj} (hb : Below ((w.alloc o).alloc (.cells #[.bool false, .slice none 0 0, .int .i64 0] 38)).heap.size ((w.alloc o).alloc (.cells #[.bool false, .slice none 0 0, .int .i64 0] 38)) w') : Zr w' (w.heap.size + 1) := (kept2 _ _ _ hb).2.1
theorem Zr.newAD {w w' : World} {o : Obj} (hb : Below ((w.alloc o).alloc (.cells #[.bool false, .slice none 0 0, .int .i64 0] 38)).drew.heap.size ((w.alloc o).alloc (.cells #[.bool false, .slice none 0 0, .int .i64 0] 38)).drew w') : Zr w' (w.heap.size + 1) := Zr.newA (Below.undrew hb)
theorem alloc_le {B : Nat} {w : World} {o : Obj} (h : B ≤ (w.alloc o).heap.size) : B ≤ w.heap.size + 1 := by simpa using h
theorem BoxI.ne {w : World} {a g : Nat} {n : Bool} {ao : Option Addr} {l c : Nat} (h : BoxI w a n ao l c) (z : Zr w g) : a ≠ g := by
  rintro rfl
  have e := h.symm.trans z
  injection e with e
  injection e with e
  have := congrArg Array.size e
  simp at this
theorem heap_set3 {w : World} {a g : Nat} (h : a ≠ g) (u v x : Value) : (((w.setCell ⟨g, 0, none⟩ u).setCell ⟨g, 1, none⟩ v).setCell ⟨g, 2, none⟩ x).heap[a]? = w.heap[a]? := by
  rw [Below.heap_setCell _ _ _ _ h, Below.heap_setCell _ _ _ _ h, Below.heap_setCell _ _ _ _ h]
theorem BoxI.set3 {w : World} {a g : Nat} {n : Bool} {ao : Option Addr} {l c : Nat} (h : BoxI w a n ao l c) (z : Zr w g) (u v x : Value) : BoxI (((w.setCell ⟨g, 0, none⟩ u).setCell ⟨g, 1, none⟩ v).setCell ⟨g, 2, none⟩ x) a n ao l c :=
  (heap_set3 (h.ne z) u v x).trans h
theorem Below.set3 {B : Nat} {a w : World} (h : Below B a w) {g : Nat} (hg : B ≤ g) (u v x : Value) : Below B a (((w.setCell ⟨g, 0, none⟩ u).setCell ⟨g, 1, none⟩ v).setCell ⟨g, 2, none⟩ x) :=
  ((h.setCell hg u).setCell hg v).setCell hg x
/-- The law's same at a pair and itself. -/
theorem pairSelfQ {z : Int} {n : Bool} {xs : List Int} (hz : Num z n xs) (er : Int) (ax : Option Addr) (la ca : Nat) (ay : Option Addr) (lb cb : Nat) (w : World) (hx : Sl w ax la ca xs) (hy : Sl w ay lb cb xs) :
    Calls Tryz.prog 27 #[.agg #[.bool n, .slice ax la ca, .int .i64 er], .agg #[.bool n, .slice ay lb cb, .int .i64 er]] w (RetBool true w) := by
  obtain ⟨_, rfl, rfl⟩ := hz
  have h := lawSame_any (decide (z < 0)) ax la ca (parts z.natAbs) er (decide (z < 0)) ay lb cb (parts z.natAbs) er w hx hy
  rwa [sameI_num, show (decide (er = er) && decide (z = z)) = true by simp] at h
theorem Num.last {z : Int} {n : Bool} {xs : List Int} (h : Num z n xs) : xs.getLast? ≠ some 0 := by
  rw [h.2.2]; exact parts_last _
end Go.Proofs.YtcmocjfnmfiieaaGreatDoor

/- A region that draws its order, by one relation that each operation keeps, whatever came up before it: a goal an operation, in the place of one for each order. -/
namespace Go.Proofs.YtcmocjfnmfiieaaGreatDoor
open Go Go.RowKit

/-- The frame with the slots ds filled by us. -/
def fillA (a : Act) : List (Option Tmp) → List Value → Act
  | d :: ds, v :: vs => fillA (a.put d v) ds vs
  | _, _ => a
theorem put_twice (a : Act) (d : Option Tmp) (u v : Value) : (a.put d u).put d v = a.put d v := by
  cases d with
  | none => rfl
  | some t => simp [Act.put]
theorem fillA_put : ∀ (ds : List (Option Tmp)) (us : List Value) (a : Act) (d : Option Tmp) (v : Value), (∀ t, d = some t → some t ∉ ds) → fillA (a.put d v) ds us = (fillA a ds us).put d v
  | [], _, _, _, _, _ => rfl
  | _ :: _, [], _, _, _, _ => rfl
  | d' :: ds, u :: us, a, d, v, h => by
    show fillA ((a.put d v).put d' u) ds us = (fillA (a.put d' u) ds us).put d v
    rw [← fillA_put ds us (a.put d' u) d v (fun t ht hm => h t ht (List.mem_cons_of_mem _ hm)), Act.put_comm a v u (fun t ht hd => h t ht (by rw [hd]; exact List.mem_cons_self))]
/-- No slot is written by two operations. -/
def ApartD : List (Option Tmp) → Bool
  | [] => true
  | none :: ds => ApartD ds
  | some t :: ds => !(ds.contains (some t)) && ApartD ds
theorem fillA_set : ∀ (ds : List (Option Tmp)) (us : List Value) (a : Act) (i : Nat) (d : Option Tmp) (v : Value), ApartD ds = true → ds[i]? = some d → i < us.length → (fillA a ds us).put d v = fillA a ds (us.set i v)
  | [], _, _, _, _, _, _, h, _ => by simp at h
  | _ :: _, [], _, _, _, _, _, _, h => by simp at h
  | d' :: ds, u :: us, a, 0, d, v, hA, h, _ => by
    simp only [List.length_cons, Nat.zero_lt_succ, getElem?_pos, List.getElem_cons_zero, Option.some.injEq] at h
    subst h
    have hn : ∀ t, d' = some t → some t ∉ ds := by
      intro t ht hm
      subst ht
      simp [ApartD, hm] at hA
    show (fillA (a.put d' u) ds us).put d' v = fillA (a.put d' v) ds us
    rw [← fillA_put ds us _ d' v hn, put_twice]
  | d' :: ds, u :: us, a, i + 1, d, v, hA, h, hl => by
    have hA' : ApartD ds = true := by
      cases d' with
      | none => exact hA
      | some t => simp [ApartD] at hA; exact hA.2
    exact fillA_set ds us (a.put d' u) i d v hA' (by simpa using h) (by simpa using hl)
/-- What the slots ds hold. -/
def heldIn (a : Act) (ds : List (Option Tmp)) : List Value := ds.map fun d => match d with | some t => a.tmps.getD t undef | none => undef
theorem put_held (a : Act) (d : Option Tmp) : a.put d (match d with | some t => a.tmps.getD t undef | none => undef) = a := by
  cases d with
  | none => rfl
  | some t =>
    show ({ a with tmps := a.tmps.setIfInBounds t (a.tmps.getD t undef) } : Act) = a
    have : a.tmps.setIfInBounds t (a.tmps.getD t undef) = a.tmps := by
      apply Array.ext (by simp)
      intro j h1 h2
      rw [Array.getElem_setIfInBounds]
      split
      · rename_i h; subst h; simp [Array.getD, h2]
      · rfl
    rw [this]
theorem fillA_held : ∀ (ds : List (Option Tmp)) (a : Act), fillA a ds (heldIn a ds) = a
  | [], _ => rfl
  | d :: ds, a => by
    show fillA (a.put d _) ds (heldIn a ds) = a
    rw [put_held]; exact fillA_held ds a

/-- What an operation waits for has come up. -/
def Met (L : Nat → Bool) : List Edge → Prop
  | [] => True
  | e :: r => (Region.binds .any e = true → L e.on = true) ∧ Met L r
theorem Met.of {L : Nat → Bool} : ∀ {l : List Edge}, (∀ e ∈ l, Region.binds .any e = true → L e.on = true) → Met L l
  | [], _ => trivial
  | _ :: _, h => ⟨h _ List.mem_cons_self, Met.of fun e he => h e (List.mem_cons_of_mem _ he)⟩
/-- i has come up too. -/
def more (L : Nat → Bool) (i j : Nat) : Bool := if j = i then true else L j
/-- Operation i has yielded v. -/
def upd (U : Nat → Value) (i : Nat) (v : Value) (j : Nat) : Value := if j = i then v else U j
theorem map_upd (U : Nat → Value) (n i : Nat) (v : Value) : ((List.range n).map U).set i v = (List.range n).map (upd U i v) := by
  apply List.ext_getElem (by simp)
  intro j h1 h2
  simp only [List.getElem_set, List.getElem_map, List.getElem_range, upd]
  by_cases h : i = j
  · rw [if_pos h, if_pos h.symm]
  · rw [if_neg h, if_neg (Ne.symm h)]
theorem fillA_size : ∀ (ds : List (Option Tmp)) (us : List Value) (a : Act), (fillA a ds us).tmps.size = a.tmps.size
  | [], _, _ => rfl
  | _ :: _, [], _ => rfl
  | d :: ds, u :: us, a => by
    show (fillA (a.put d u) ds us).tmps.size = _
    rw [fillA_size ds us]
    cases d with
    | none => rfl
    | some t => simp [Act.put]
theorem fillA_other : ∀ (ds : List (Option Tmp)) (us : List Value) (a : Act) (t : Tmp), ds.contains (some t) = false → (fillA a ds us).tmps.getD t undef = a.tmps.getD t undef
  | [], _, _, _, _ => rfl
  | _ :: _, [], _, _, _ => rfl
  | d :: ds, u :: us, a, t, h => by
    simp only [List.contains_cons, Bool.or_eq_false_iff] at h
    show (fillA (a.put d u) ds us).tmps.getD t undef = _
    rw [fillA_other ds us _ t h.2]
    cases d with
    | none => rfl
    | some s =>
      have hs : s ≠ t := by
        intro hh; subst hh; simp at h
      simp only [Act.put, Array.getD_eq_getD_getElem?]
      rw [Array.getElem?_setIfInBounds_ne hs]
theorem fillA_get : ∀ (ds : List (Option Tmp)) (us : List Value) (a : Act) (j : Nat) (t : Tmp) (v : Value), ApartD ds = true → ds[j]? = some (some t) → us[j]? = some v → t < a.tmps.size → (fillA a ds us).tmps.getD t undef = v
  | [], _, _, _, _, _, _, h, _, _ => by simp at h
  | _ :: _, [], _, _, _, _, _, _, h, _ => by simp at h
  | d :: ds, u :: us, a, 0, t, v, hA, h, hu, hlt => by
    simp at h hu
    subst h; subst hu
    have hn : ds.contains (some t) = false := by
      simp [ApartD] at hA; simp; exact hA.1
    show (fillA (a.put (some t) u) ds us).tmps.getD t undef = u
    rw [fillA_other ds us _ t hn]
    simp [Act.put, hlt]
  | d :: ds, u :: us, a, j + 1, t, v, hA, h, hu, hlt => by
    have hA' : ApartD ds = true := by
      cases d with
      | none => exact hA
      | some t => simp [ApartD] at hA; exact hA.2
    refine fillA_get ds us (a.put d u) j t v hA' (by simpa using h) (by simpa using hu) ?_
    cases d with
    | none => exact hlt
    | some t => simpa [Act.put] using hlt
/-- Each slot of ds is one of the frame's. -/
def SizedD (m : Nat) (ds : List (Option Tmp)) : Bool := ds.all fun d => match d with | some t => decide (t < m) | none => true
/-- f of each operation and its number. -/
def EachO (f : Nat → Oper → Prop) : Nat → List Oper → Prop
  | _, [] => True
  | k, o :: r => f k o ∧ EachO f (k + 1) r
theorem EachO.get {f : Nat → Oper → Prop} : ∀ {l : List Oper} {k : Nat}, EachO f k l → ∀ {i : Nat} {o : Oper}, l[i]? = some o → f (k + i) o
  | [], _, _, _, _, h => by simp at h
  | o' :: r, k, hE, 0, o, h => by
    simp at h; subst h; exact hE.1
  | o' :: r, k, hE, i + 1, o, h => by
    have := hE.2.get (i := i) (o := o) (by simpa using h)
    rwa [show k + 1 + i = k + (i + 1) by omega] at this
/-- Each operation waits for earlier ones alone. -/
def BackB (ops : Array Oper) : Bool := (List.range ops.size).all fun i => ((ops[i]?).map fun o => o.after.all fun e => !Region.binds .any e || decide (e.on < i)).getD true

section
variable {P : Program} {ops : Array Oper} {Q : Exit → Act → World → Prop}

theorem all_met {l : Array Bool} (hb : BackB ops = true) (hsz : l.size = ops.size) (hr : Region.ready .any ops l = []) : ∀ (n i : Nat), i ≤ n → i < ops.size → l.getD i false = true := by
  intro n
  induction n with
  | zero =>
    intro i hi hlt
    obtain rfl : i = 0 := by omega
    cases hc : l.getD 0 false with
    | true => rfl
    | false =>
      have hm : 0 ∈ Region.ready .any ops l := by
        rw [mem_ready]
        refine ⟨?_, ops[0], by simp [hlt], fun e he hbd => ?_⟩
        · have h0 : 0 < l.size := by omega
          simp only [Array.getD, h0, dif_pos] at hc ⊢; exact hc
        · have h1 := List.all_eq_true.1 hb 0 (List.mem_range.2 hlt)
          rw [show ops[0]? = some ops[0] by simp [hlt]] at h1
          simp only [Option.map_some, Option.getD_some] at h1
          have h2 := Array.all_eq_true'.1 h1 e he
          rw [hbd] at h2
          simp at h2
      rw [hr] at hm; cases hm
  | succ n ih =>
    intro i hi hlt
    rcases Nat.lt_or_ge i (n + 1) with h | h
    · exact ih i (by omega) hlt
    obtain rfl : i = n + 1 := by omega
    cases hc : l.getD (n + 1) false with
    | true => rfl
    | false =>
      have hm : n + 1 ∈ Region.ready .any ops l := by
        rw [mem_ready]
        refine ⟨?_, ops[n + 1], by simp [hlt], fun e he hbd => ?_⟩
        · have h0 : n + 1 < l.size := by omega
          simp only [Array.getD, h0, dif_pos] at hc ⊢; exact hc
        · have h1 := List.all_eq_true.1 hb (n + 1) (List.mem_range.2 hlt)
          rw [show ops[n + 1]? = some ops[n + 1] by simp [hlt]] at h1
          simp only [Option.map_some, Option.getD_some] at h1
          have h2 := Array.all_eq_true'.1 h1 e he
          rw [hbd] at h2
          simp only [Bool.not_true, Bool.false_or, decide_eq_true_eq] at h2
          exact ih e.on (by omega) (by omega)
      rw [hr] at hm; cases hm

theorem keep_any {I : Array Bool → Act → World → Prop} (hb : BackB ops = true)
    (hs : ∀ i l a w, l.size = ops.size → I l a w → i ∈ Region.ready .any ops l → wpOp P ops Q i (I (l.setIfInBounds i true)) a w)
    (he : ∀ l a w, l.size = ops.size → I l a w → (∀ i, i < ops.size → l.getD i false = true) → Q .normal a w) :
    ∀ (k : Nat) (l : Array Bool) (a : Act) (w : World), l.size = ops.size → l.toList.count false ≤ k → I l a w → wpAny P .any ops Q k l a w
  | 0, l, a, w, hz, hk, h => by
    have hr : Region.ready .any ops l = [] := by
      rcases hh : Region.ready .any ops l with _ | ⟨i, r⟩
      · rfl
      · exfalso
        have hi : i ∈ Region.ready .any ops l := by rw [hh]; exact List.mem_cons_self
        have h1 := (mem_ready.1 hi).1
        have h2 : i < l.size := by
          rcases Nat.lt_or_ge i l.size with h' | h'
          · exact h'
          · simp [Array.getElem?_eq_none h'] at h1
        have h3 : false ∈ l.toList := by
          have : l[i] = false := by simpa [Array.getD, h2] using h1
          rw [← this]; simp
        have := List.count_pos_iff.2 h3
        omega
    exact ⟨hr, he l a w hz h fun i hi => all_met hb hz hr i i (Nat.le_refl _) hi⟩
  | k + 1, l, a, w, hz, hk, h => by
    refine ⟨fun hr => he l a w hz h fun i hi => all_met hb hz hr i i (Nat.le_refl _) hi, fun i hi => ?_⟩
    have h1 := (mem_ready.1 hi).1
    have h2 : i < l.size := by
      rcases Nat.lt_or_ge i l.size with h' | h'
      · exact h'
      · simp [Array.getElem?_eq_none h'] at h1
    have h3 : l[i] = false := by simpa [Array.getD, h2] using h1
    have h4 : (l.setIfInBounds i true).toList.count false ≤ k := by
      have h5 : (l.setIfInBounds i true).toList = l.toList.set i true := by simp
      rw [h5, List.count_set (by simpa using h2), if_pos (by simp [h3]), if_neg (by decide)]
      omega
    exact wpOp_mono (fun a' w' h' => keep_any hb hs he k _ a' w' (by simp [hz]) h4 h') (hs i l a w hz h hi)

/-- A region that draws its order: F (which operations have come up, what each has yielded, the world) is kept by each of them, whatever the frame, if it holds what they have yielded. -/
theorem region_kept {id : Nat} {a : Act} {w : World} (n : Nat) (ds : List (Option Tmp)) (vs : (Nat → Value) → List Value) (F : (Nat → Bool) → (Nat → Value) → World → Prop) (hn : ops.size = n) (hds : ops.toList.map (·.dst) = ds) (hvs : ∀ U, vs U = (List.range n).map U) (hm : P.follows .mixedOrders = true)
    (hb : BackB ops = true) (hap : ApartD ds = true) (hsz : SizedD a.tmps.size ds = true)
    (start : ∀ U, F (fun _ => false) U w.drew)
    (step : EachO (fun i o => ∀ (L : Nat → Bool) (U : Nat → Value) (w : World) (b : Act), F L U w → L i = false → Met L o.after.toList →
      (∀ (j : Nat) (t : Tmp), ds[j]? = some (some t) → b.tmps.getD t undef = U j) → (∀ t : Tmp, ds.contains (some t) = false → b.tmps.getD t undef = a.tmps.getD t undef) →
      ∀ K : Act → World → Prop, Shut (∀ v w', F (more L i) (upd U i v) w' → K (b.put o.dst v) w') →
        if Region.wanted o (yielded ops b.tmps) = true then Oper.wp P o b w K Q else K (b.put o.dst undef) w) 0 ops.toList)
    (fin : ∀ (L : Nat → Bool) (U : Nat → Value) (w : World), F L U w → (∀ i, i < n → L i = true) → Q .normal (fillA a ds (vs U)) w) :
    (Code.region id ops true).wp P Q a w := by
  subst hn; subst hds
  refine wp_region_any hm ?_
  refine keep_any (I := fun l b w => ∃ U : Nat → Value, b = fillA a (ops.toList.map (·.dst)) ((List.range ops.size).map U) ∧ F (fun i => l.getD i false) U w) hb ?_ ?_ _ _ _ _ (by simp) ?_ ?_
  · rintro i l b w hz ⟨U, rfl, hF⟩ hi
    obtain ⟨h1, o, ho, hmet⟩ := mem_ready.1 hi
    have h2 : i < l.size := by
      rcases Nat.lt_or_ge i l.size with h' | h'
      · exact h'
      · simp [Array.getElem?_eq_none h'] at h1
    have h3 : l.getD i false = false := by
      simp only [Array.getD, h2, dif_pos] at h1 ⊢; exact h1
    have hst := step.get (i := i) (o := o) (by simpa using ho)
    rw [Nat.zero_add] at hst
    refine wpOp_step ho fun K' hK => hst _ U w _ hF h3 (Met.of fun e he hbd => hmet e (by simpa using he) hbd) (fun j t hj => ?_) (fun t ht => fillA_other _ _ a t ht) K' ?_
    · have hlt : t < a.tmps.size := by
        have := List.all_eq_true.1 hsz (some t) (List.mem_of_getElem? hj)
        simpa using this
      have hj' : j < ops.size := by
        have h := (List.getElem?_eq_some_iff.1 hj).1
        simpa using h
      exact fillA_get _ _ a j t (U j) hap hj (by simp [hj']) hlt
    intro v w' hF'
    refine hK _ _ ⟨upd U i v, ?_, ?_⟩
    · rw [← map_upd]
      exact fillA_set _ _ a i o.dst v hap (by simp [ho]) (by simp; omega)
    · have hL : (fun j => (l.setIfInBounds i true).getD j false) = more (fun j => l.getD j false) i := by
        funext j
        unfold more
        by_cases hj : j = i
        · subst hj; simp [h2]
        · rw [_root_.Go.getD_set_ne false (Ne.symm hj), if_neg hj]
      rw [hL]; exact hF'
  · rintro l b w hz ⟨U, rfl, hF⟩ hall
    have := fin _ U w hF hall
    rwa [hvs] at this
  · simp
  · refine ⟨fun j => (heldIn a (ops.toList.map (·.dst))).getD j undef, ?_, ?_⟩
    · have e : (List.range ops.size).map (fun j => (heldIn a (ops.toList.map (·.dst))).getD j undef) = heldIn a (ops.toList.map (·.dst)) := by
        apply List.ext_getElem (by simp [heldIn])
        intro j h1 h2
        simp [h2]
      rw [e]; exact (fillA_held _ _).symm
    · have : (fun i => (Array.replicate ops.size false).getD i false) = fun _ => false := by
        funext i
        rcases Nat.lt_or_ge i ops.size with h | h
        · simp [h]
        · simp [h]
      rw [this]; exact start _
end
end Go.Proofs.YtcmocjfnmfiieaaGreatDoor

/- What a drawn region makes: pairs of a number and an error, boxes of such pairs; what a store into a box that is new leaves as it was. -/
namespace Go.Proofs.YtcmocjfnmfiieaaGreatDoor
open Go.RowKit

/-- u is the pair of a sign, parts and an error. -/
def HasP (w : World) (u : Value) (n : Bool) (xs : List Int) (e : Int) : Prop := ∃ ap lp cp, u = .agg #[.bool n, .slice ap lp cp, .int .i64 e] ∧ Sl w ap lp cp xs
theorem HasP.below {w w' : World} {u : Value} {n : Bool} {xs : List Int} {e : Int} (h : HasP w u n xs e) (hb : Below w.heap.size w w') : HasP w' u n xs e := by
  obtain ⟨a, l, c, h1, h2⟩ := h
  exact ⟨a, l, c, h1, h2.below hb⟩
/-- u points to a box, at B or above, that holds the zero pair till the pair is stored into it. -/
def PBox (B : Nat) (w : World) (u : Value) (st : Bool) (n : Bool) (xs : List Int) (e : Int) : Prop :=
  ∃ g, u = .pointer (some ⟨g, 0, none⟩) ∧ B ≤ g ∧ g < w.heap.size ∧ (st = false → Zr w g) ∧ (st = true → ∃ a l c, Box3 w g n a l c e ∧ Sl w a l c xs)
theorem PBox.below {B : Nat} {w w' : World} {u : Value} {st n : Bool} {xs : List Int} {e : Int} (h : PBox B w u st n xs e) (hb : Below w.heap.size w w') : PBox B w' u st n xs e := by
  obtain ⟨g, h1, h2, h3, h4, h5⟩ := h
  refine ⟨g, h1, h2, Nat.lt_of_lt_of_le h3 hb.size, fun h => (h4 h).below hb, fun h => ?_⟩
  obtain ⟨a, l, c, h6, h7⟩ := h5 h
  exact ⟨a, l, c, h6.below hb, h7.below hb⟩
theorem PBox.new {B : Nat} {w : World} {n : Bool} {xs : List Int} {e : Int} {st : Bool} (hB : B ≤ w.heap.size) (hst : st = false) : PBox B (w.alloc (.cells #[.bool false, .slice none 0 0, .int .i64 0] 38)) (.pointer (some ⟨w.heap.size, 0, none⟩)) st n xs e := by
  subst hst
  exact ⟨w.heap.size, rfl, hB, by simp, fun _ => heap_new w _, (fun h => by cases h)⟩
theorem PBox.fresh {B : Nat} {w : World} {u : Value} {st n : Bool} {xs : List Int} {e : Int} (h : PBox B w u st n xs e) : u ≠ .pointer (some ⟨w.heap.size, 0, none⟩) := by
  obtain ⟨g, rfl, _, h3, _⟩ := h
  intro hh
  injection hh with hh
  injection hh with hh
  injection hh with hh
  omega
theorem HasP.set {w : World} {u : Value} {n : Bool} {xs : List Int} {e : Int} (h : HasP w u n xs e) (hl : xs.getLast? ≠ some 0) {g : Nat} (z : Zr w g) (n' : Bool) (a' : Option Addr) (l' c' : Nat) (e' : Int) :
    HasP (((w.setCell ⟨g, 0, none⟩ (.bool n')).setCell ⟨g, 1, none⟩ (.slice a' l' c')).setCell ⟨g, 2, none⟩ (.int .i64 e')) u n xs e := by
  obtain ⟨a, l, c, h1, h2⟩ := h
  exact ⟨a, l, c, h1, h2.pair hl z _ _ _ _ _⟩
theorem PBox.other {B : Nat} {w : World} {u : Value} {st n : Bool} {xs : List Int} {e : Int} (h : PBox B w u st n xs e) (hl : xs.getLast? ≠ some 0) {g : Nat} (z : Zr w g) (hne : u ≠ .pointer (some ⟨g, 0, none⟩)) (n' : Bool) (a' : Option Addr) (l' c' : Nat) (e' : Int) :
    PBox B (((w.setCell ⟨g, 0, none⟩ (.bool n')).setCell ⟨g, 1, none⟩ (.slice a' l' c')).setCell ⟨g, 2, none⟩ (.int .i64 e')) u st n xs e := by
  obtain ⟨k, rfl, h2, h3, h4, h5⟩ := h
  have hk : k ≠ g := fun h => hne (by rw [h])
  have hh := heap_set3 (w := w) hk (.bool n') (.slice a' l' c') (.int .i64 e')
  refine ⟨k, rfl, h2, by simpa using h3, fun h => hh.trans (h4 h), fun h => ?_⟩
  obtain ⟨a, l, c, h6, h7⟩ := h5 h
  exact ⟨a, l, c, hh.trans h6, h7.pair hl z _ _ _ _ _⟩
theorem PBox.self {B : Nat} {w : World} {n : Bool} {xs : List Int} {e : Int} {g : Nat} (z : Zr w g) (hB : B ≤ g) {a : Option Addr} {l c : Nat} (s : Sl w a l c xs) (hl : xs.getLast? ≠ some 0) :
    PBox B (((w.setCell ⟨g, 0, none⟩ (.bool n)).setCell ⟨g, 1, none⟩ (.slice a l c)).setCell ⟨g, 2, none⟩ (.int .i64 e)) (.pointer (some ⟨g, 0, none⟩)) true n xs e :=
  ⟨g, rfl, hB, by simpa using Box3.lt z, (fun h => by cases h), fun _ => ⟨a, l, c, Box3.set z, s.pair hl z _ _ _ _ _⟩⟩
theorem PBox.selfOf {B : Nat} {w : World} {n : Bool} {xs : List Int} {e : Int} {g : Nat} {u : Value} (hu : u = .pointer (some ⟨g, 0, none⟩)) (z : Zr w g) (hB : B ≤ g) {a : Option Addr} {l c : Nat} (s : Sl w a l c xs) (hl : xs.getLast? ≠ some 0) :
    PBox B (((w.setCell ⟨g, 0, none⟩ (.bool n)).setCell ⟨g, 1, none⟩ (.slice a l c)).setCell ⟨g, 2, none⟩ (.int .i64 e)) u true n xs e := by
  subst hu; exact PBox.self z hB s hl
/-- u is the integer of a sign and parts; the same with an error, as two results. -/
def HasI (w : World) (u : Value) (n : Bool) (xs : List Int) : Prop := ∃ ap lp cp, u = .agg #[.bool n, .slice ap lp cp] ∧ Sl w ap lp cp xs
theorem HasI.below {w w' : World} {u : Value} {n : Bool} {xs : List Int} (h : HasI w u n xs) (hb : Below w.heap.size w w') : HasI w' u n xs := by
  obtain ⟨a, l, c, h1, h2⟩ := h
  exact ⟨a, l, c, h1, h2.below hb⟩
def HasT (w : World) (u : Value) (n : Bool) (xs : List Int) (e : Int) : Prop := ∃ ap lp cp, u = .tuple #[.agg #[.bool n, .slice ap lp cp], .int .i64 e] ∧ Sl w ap lp cp xs
theorem HasT.below {w w' : World} {u : Value} {n : Bool} {xs : List Int} {e : Int} (h : HasT w u n xs e) (hb : Below w.heap.size w w') : HasT w' u n xs e := by
  obtain ⟨a, l, c, h1, h2⟩ := h
  exact ⟨a, l, c, h1, h2.below hb⟩
theorem yielded_of {ops : Array Oper} {tmps : Array Value} {j : Nat} {t : Tmp} {v : Bool} (ho : (ops[j]?).bind (·.dst) = some t) (h : tmps.getD t undef = .bool v) : yielded ops tmps j = some v := by
  unfold yielded
  rw [ho]
  have h1 : tmps[t]? = some (.bool v) := by
    rw [Array.getD_eq_getD_getElem?] at h
    cases hh : tmps[t]? with
    | none => rw [hh] at h; cases h
    | some x => rw [hh] at h; simp at h; rw [h]
  simp [h1]
theorem wants {o : Oper} {ops : Array Oper} {tmps : Array Value} {j : Nat} {t : Tmp} {v : Bool} (hg : o.guard = some (j, v)) (ho : (ops[j]?).bind (·.dst) = some t) (h : tmps.getD t undef = .bool v) : Region.wanted o (yielded ops tmps) = true := by
  unfold Region.wanted
  rw [hg]
  simp [yielded_of ho h]
theorem wants_not {o : Oper} {ops : Array Oper} {tmps : Array Value} {j : Nat} {t : Tmp} {v u : Bool} (hg : o.guard = some (j, v)) (ho : (ops[j]?).bind (·.dst) = some t) (h : tmps.getD t undef = .bool u) (hu : u ≠ v) : ¬ Region.wanted o (yielded ops tmps) = true := by
  unfold Region.wanted
  rw [hg]
  simp [yielded_of ho h, hu]
theorem wants_none {o : Oper} {ops : Array Oper} {tmps : Array Value} {j : Nat} {t : Tmp} {v : Bool} (hg : o.guard = some (j, v)) (ho : (ops[j]?).bind (·.dst) = some t) (h : tmps.getD t undef = undef) : ¬ Region.wanted o (yielded ops tmps) = true := by
  have h1 : yielded ops tmps j = none := by
    unfold yielded
    rw [ho]
    rw [Array.getD_eq_getD_getElem?] at h
    cases hh : tmps[t]? with
    | none => simp [hh]
    | some x => rw [hh] at h; simp at h; subst h; simp [hh, undef]
  unfold Region.wanted
  rw [hg]
  simp [h1]
theorem not_yet {L : Nat → Bool} {i j : Nat} (h : L i = true → L j = true) (hj : L j = false) : L i = false := by
  cases hi : L i with
  | false => rfl
  | true => rw [h hi] at hj; cases hj
end Go.Proofs.YtcmocjfnmfiieaaGreatDoor

/- The walk of NumFractions. -/
namespace Go.Proofs.YtcmocjfnmfiieaaGreatDoor
open Go.RowKit

/-- What a piece leaves: the integers in their boxes. -/
def FracCut (w0 : World) (ga gb gc gd gk : Nat) (na : Bool) (aa : Option Addr) (la ca : Nat) (xa : List Int) (nb : Bool) (ab : Option Addr) (lb cb : Nat) (xb : List Int) (nc : Bool) (ac : Option Addr) (lc cc : Nat) (xc : List Int) (nd : Bool) (ad : Option Addr) (ld cd : Nat) (xd : List Int) (nk : Bool) (ak : Option Addr) (lk ck : Nat) (xk : List Int) (wx : World) : Prop :=
  BoxI wx ga na aa la ca ∧ Sl wx aa la ca xa ∧ BoxI wx gb nb ab lb cb ∧ Sl wx ab lb cb xb ∧ BoxI wx gc nc ac lc cc ∧ Sl wx ac lc cc xc ∧ BoxI wx gd nd ad ld cd ∧ Sl wx ad ld cd xd ∧ BoxI wx gk nk ak lk ck ∧ Sl wx ak lk ck xk ∧ Below w0.heap.size w0 wx
/-- The same, and two products in boxes of their own. -/
def FracCut2 (w0 : World) (ga gb gc gd gk : Nat) (na : Bool) (aa : Option Addr) (la ca : Nat) (xa : List Int) (nb : Bool) (ab : Option Addr) (lb cb : Nat) (xb : List Int) (nc : Bool) (ac : Option Addr) (lc cc : Nat) (xc : List Int) (nd : Bool) (ad : Option Addr) (ld cd : Nat) (xd : List Int) (nk : Bool) (ak : Option Addr) (lk ck : Nat) (xk : List Int) (n1 : Bool) (x1 : List Int) (e1 : Int) (n2 : Bool) (x2 : List Int) (e2 : Int) (s t : Value) (wx : World) : Prop :=
  ∃ g h a1 l1 c1 a2 l2 c2, s = .pointer (some ⟨g, 0, none⟩) ∧ t = .pointer (some ⟨h, 0, none⟩) ∧ Box3 wx g n1 a1 l1 c1 e1 ∧ Sl wx a1 l1 c1 x1 ∧ Box3 wx h n2 a2 l2 c2 e2 ∧ Sl wx a2 l2 c2 x2 ∧ FracCut w0 ga gb gc gd gk na aa la ca xa nb ab lb cb xb nc ac lc cc xc nd ad ld cd xd nk ak lk ck xk wx

set_option maxRecDepth 100000 in
set_option maxHeartbeats 16000000 in
theorem frac_wrong (na : Bool) (aa : Option Addr) (la ca : Nat) (xa : List Int) (nb : Bool) (ab : Option Addr) (lb cb : Nat) (xb : List Int) (nc : Bool) (ac : Option Addr) (lc cc : Nat) (xc : List Int) (nd : Bool) (ad : Option Addr) (ld cd : Nat) (xd : List Int) (ne : Bool) (ae : Option Addr) (le ce : Nat) (xe : List Int) (nf : Bool) (af : Option Addr) (lf cf : Nat) (xf : List Int) (nk : Bool) (ak : Option Addr) (lk ck : Nat) (xk : List Int) (w : World) (ht : Tab w) (sa : Sl w aa la ca xa) (sb : Sl w ab lb cb xb) (sc : Sl w ac lc cc xc) (sd : Sl w ad ld cd xd) (se : Sl w ae le ce xe) (sf : Sl w af lf cf xf) (sk : Sl w ak lk ck xk) (hr : (!(wrong ⟨na, aa, la, ca, xa⟩ || (wrong ⟨nb, ab, lb, cb, xb⟩ || (wrong ⟨nc, ac, lc, cc, xc⟩ || (wrong ⟨nd, ad, ld, cd, xd⟩ || (wrong ⟨ne, ae, le, ce, xe⟩ || (wrong ⟨nf, af, lf, cf, xf⟩ || wrong ⟨nk, ak, lk, ck, xk⟩))))))) = false) : Calls Tryz.prog 13 #[.agg #[.bool na, .slice aa la ca], .agg #[.bool nb, .slice ab lb cb], .agg #[.bool nc, .slice ac lc cc], .agg #[.bool nd, .slice ad ld cd], .agg #[.bool ne, .slice ae le ce], .agg #[.bool nf, .slice af lf cf], .agg #[.bool nk, .slice ak lk ck]] w (RetBool true w) := by
  have Hr := Lib.hid (fun w g hg h1 h2 h3 h4 h5 h6 h7 => right7 na aa la ca xa nb ab lb cb xb nc ac lc cc xc nd ad ld cd xd ne ae le ce xe nf af lf cf xf nk ak lk ck xk w g hg h1 h2 h3 h4 h5 h6 h7 false hr)
  clear hr
  go_enter Tryz.func13, Tryz.ntmps13
  have U0 := Below.refl w.heap.size w
  go_wp2_with fail
  replace U0 := U0.alloc U0.size (.cells #[.bool na, .slice aa la ca] 24)
  replace ht := ht.alloc (.cells #[.bool na, .slice aa la ca] 24)
  replace sa := sa.alloc (.cells #[.bool na, .slice aa la ca] 24)
  replace sb := sb.alloc (.cells #[.bool na, .slice aa la ca] 24)
  replace sc := sc.alloc (.cells #[.bool na, .slice aa la ca] 24)
  replace sd := sd.alloc (.cells #[.bool na, .slice aa la ca] 24)
  replace se := se.alloc (.cells #[.bool na, .slice aa la ca] 24)
  replace sf := sf.alloc (.cells #[.bool na, .slice aa la ca] 24)
  replace sk := sk.alloc (.cells #[.bool na, .slice aa la ca] 24)
  have Ta := BoxI.new w (w.heap.size) (by first | rfl | simp) na aa la ca
  have cTa0 := Ta.cells.1
  have cTa1 := Ta.cells.2
  have zTa := Ta.lt
  replace U0 := U0.alloc U0.size (.cells #[.bool nb, .slice ab lb cb] 24)
  replace ht := ht.alloc (.cells #[.bool nb, .slice ab lb cb] 24)
  replace sa := sa.alloc (.cells #[.bool nb, .slice ab lb cb] 24)
  replace sb := sb.alloc (.cells #[.bool nb, .slice ab lb cb] 24)
  replace sc := sc.alloc (.cells #[.bool nb, .slice ab lb cb] 24)
  replace sd := sd.alloc (.cells #[.bool nb, .slice ab lb cb] 24)
  replace se := se.alloc (.cells #[.bool nb, .slice ab lb cb] 24)
  replace sf := sf.alloc (.cells #[.bool nb, .slice ab lb cb] 24)
  replace sk := sk.alloc (.cells #[.bool nb, .slice ab lb cb] 24)
  replace Ta := Ta.alloc (.cells #[.bool nb, .slice ab lb cb] 24)
  replace cTa0 := Ta.cells.1
  replace cTa1 := Ta.cells.2
  replace zTa := Ta.lt
  have Tb := BoxI.new (w.alloc (.cells #[.bool na, .slice aa la ca] 24)) (w.heap.size + 1) (by first | rfl | simp) nb ab lb cb
  have cTb0 := Tb.cells.1
  have cTb1 := Tb.cells.2
  have zTb := Tb.lt
  replace U0 := U0.alloc U0.size (.cells #[.bool nc, .slice ac lc cc] 24)
  replace ht := ht.alloc (.cells #[.bool nc, .slice ac lc cc] 24)
  replace sa := sa.alloc (.cells #[.bool nc, .slice ac lc cc] 24)
  replace sb := sb.alloc (.cells #[.bool nc, .slice ac lc cc] 24)
  replace sc := sc.alloc (.cells #[.bool nc, .slice ac lc cc] 24)
  replace sd := sd.alloc (.cells #[.bool nc, .slice ac lc cc] 24)
  replace se := se.alloc (.cells #[.bool nc, .slice ac lc cc] 24)
  replace sf := sf.alloc (.cells #[.bool nc, .slice ac lc cc] 24)
  replace sk := sk.alloc (.cells #[.bool nc, .slice ac lc cc] 24)
  replace Ta := Ta.alloc (.cells #[.bool nc, .slice ac lc cc] 24)
  replace Tb := Tb.alloc (.cells #[.bool nc, .slice ac lc cc] 24)
  replace cTa0 := Ta.cells.1
  replace cTa1 := Ta.cells.2
  replace zTa := Ta.lt
  replace cTb0 := Tb.cells.1
  replace cTb1 := Tb.cells.2
  replace zTb := Tb.lt
  have Tc := BoxI.new ((w.alloc (.cells #[.bool na, .slice aa la ca] 24)).alloc (.cells #[.bool nb, .slice ab lb cb] 24)) (w.heap.size + 1 + 1) (by first | rfl | simp) nc ac lc cc
  have cTc0 := Tc.cells.1
  have cTc1 := Tc.cells.2
  have zTc := Tc.lt
  replace U0 := U0.alloc U0.size (.cells #[.bool nd, .slice ad ld cd] 24)
  replace ht := ht.alloc (.cells #[.bool nd, .slice ad ld cd] 24)
  replace sa := sa.alloc (.cells #[.bool nd, .slice ad ld cd] 24)
  replace sb := sb.alloc (.cells #[.bool nd, .slice ad ld cd] 24)
  replace sc := sc.alloc (.cells #[.bool nd, .slice ad ld cd] 24)
  replace sd := sd.alloc (.cells #[.bool nd, .slice ad ld cd] 24)
  replace se := se.alloc (.cells #[.bool nd, .slice ad ld cd] 24)
  replace sf := sf.alloc (.cells #[.bool nd, .slice ad ld cd] 24)
  replace sk := sk.alloc (.cells #[.bool nd, .slice ad ld cd] 24)
  replace Ta := Ta.alloc (.cells #[.bool nd, .slice ad ld cd] 24)
  replace Tb := Tb.alloc (.cells #[.bool nd, .slice ad ld cd] 24)
  replace Tc := Tc.alloc (.cells #[.bool nd, .slice ad ld cd] 24)
  replace cTa0 := Ta.cells.1
  replace cTa1 := Ta.cells.2
  replace zTa := Ta.lt
  replace cTb0 := Tb.cells.1
  replace cTb1 := Tb.cells.2
  replace zTb := Tb.lt
  replace cTc0 := Tc.cells.1
  replace cTc1 := Tc.cells.2
  replace zTc := Tc.lt
  have Td := BoxI.new (((w.alloc (.cells #[.bool na, .slice aa la ca] 24)).alloc (.cells #[.bool nb, .slice ab lb cb] 24)).alloc (.cells #[.bool nc, .slice ac lc cc] 24)) (w.heap.size + 1 + 1 + 1) (by first | rfl | simp) nd ad ld cd
  have cTd0 := Td.cells.1
  have cTd1 := Td.cells.2
  have zTd := Td.lt
  replace U0 := U0.alloc U0.size (.cells #[.bool ne, .slice ae le ce] 24)
  replace ht := ht.alloc (.cells #[.bool ne, .slice ae le ce] 24)
  replace sa := sa.alloc (.cells #[.bool ne, .slice ae le ce] 24)
  replace sb := sb.alloc (.cells #[.bool ne, .slice ae le ce] 24)
  replace sc := sc.alloc (.cells #[.bool ne, .slice ae le ce] 24)
  replace sd := sd.alloc (.cells #[.bool ne, .slice ae le ce] 24)
  replace se := se.alloc (.cells #[.bool ne, .slice ae le ce] 24)
  replace sf := sf.alloc (.cells #[.bool ne, .slice ae le ce] 24)
  replace sk := sk.alloc (.cells #[.bool ne, .slice ae le ce] 24)
  replace Ta := Ta.alloc (.cells #[.bool ne, .slice ae le ce] 24)
  replace Tb := Tb.alloc (.cells #[.bool ne, .slice ae le ce] 24)
  replace Tc := Tc.alloc (.cells #[.bool ne, .slice ae le ce] 24)
  replace Td := Td.alloc (.cells #[.bool ne, .slice ae le ce] 24)
  replace cTa0 := Ta.cells.1
  replace cTa1 := Ta.cells.2
  replace zTa := Ta.lt
  replace cTb0 := Tb.cells.1
  replace cTb1 := Tb.cells.2
  replace zTb := Tb.lt
  replace cTc0 := Tc.cells.1
  replace cTc1 := Tc.cells.2
  replace zTc := Tc.lt
  replace cTd0 := Td.cells.1
  replace cTd1 := Td.cells.2
  replace zTd := Td.lt
  have Te := BoxI.new ((((w.alloc (.cells #[.bool na, .slice aa la ca] 24)).alloc (.cells #[.bool nb, .slice ab lb cb] 24)).alloc (.cells #[.bool nc, .slice ac lc cc] 24)).alloc (.cells #[.bool nd, .slice ad ld cd] 24)) (w.heap.size + 1 + 1 + 1 + 1) (by first | rfl | simp) ne ae le ce
  have cTe0 := Te.cells.1
  have cTe1 := Te.cells.2
  have zTe := Te.lt
  replace U0 := U0.alloc U0.size (.cells #[.bool nf, .slice af lf cf] 24)
  replace ht := ht.alloc (.cells #[.bool nf, .slice af lf cf] 24)
  replace sa := sa.alloc (.cells #[.bool nf, .slice af lf cf] 24)
  replace sb := sb.alloc (.cells #[.bool nf, .slice af lf cf] 24)
  replace sc := sc.alloc (.cells #[.bool nf, .slice af lf cf] 24)
  replace sd := sd.alloc (.cells #[.bool nf, .slice af lf cf] 24)
  replace se := se.alloc (.cells #[.bool nf, .slice af lf cf] 24)
  replace sf := sf.alloc (.cells #[.bool nf, .slice af lf cf] 24)
  replace sk := sk.alloc (.cells #[.bool nf, .slice af lf cf] 24)
  replace Ta := Ta.alloc (.cells #[.bool nf, .slice af lf cf] 24)
  replace Tb := Tb.alloc (.cells #[.bool nf, .slice af lf cf] 24)
  replace Tc := Tc.alloc (.cells #[.bool nf, .slice af lf cf] 24)
  replace Td := Td.alloc (.cells #[.bool nf, .slice af lf cf] 24)
  replace Te := Te.alloc (.cells #[.bool nf, .slice af lf cf] 24)
  replace cTa0 := Ta.cells.1
  replace cTa1 := Ta.cells.2
  replace zTa := Ta.lt
  replace cTb0 := Tb.cells.1
  replace cTb1 := Tb.cells.2
  replace zTb := Tb.lt
  replace cTc0 := Tc.cells.1
  replace cTc1 := Tc.cells.2
  replace zTc := Tc.lt
  replace cTd0 := Td.cells.1
  replace cTd1 := Td.cells.2
  replace zTd := Td.lt
  replace cTe0 := Te.cells.1
  replace cTe1 := Te.cells.2
  replace zTe := Te.lt
  have Tf := BoxI.new (((((w.alloc (.cells #[.bool na, .slice aa la ca] 24)).alloc (.cells #[.bool nb, .slice ab lb cb] 24)).alloc (.cells #[.bool nc, .slice ac lc cc] 24)).alloc (.cells #[.bool nd, .slice ad ld cd] 24)).alloc (.cells #[.bool ne, .slice ae le ce] 24)) (w.heap.size + 1 + 1 + 1 + 1 + 1) (by first | rfl | simp) nf af lf cf
  have cTf0 := Tf.cells.1
  have cTf1 := Tf.cells.2
  have zTf := Tf.lt
  replace U0 := U0.alloc U0.size (.cells #[.bool nk, .slice ak lk ck] 24)
  replace ht := ht.alloc (.cells #[.bool nk, .slice ak lk ck] 24)
  replace sa := sa.alloc (.cells #[.bool nk, .slice ak lk ck] 24)
  replace sb := sb.alloc (.cells #[.bool nk, .slice ak lk ck] 24)
  replace sc := sc.alloc (.cells #[.bool nk, .slice ak lk ck] 24)
  replace sd := sd.alloc (.cells #[.bool nk, .slice ak lk ck] 24)
  replace se := se.alloc (.cells #[.bool nk, .slice ak lk ck] 24)
  replace sf := sf.alloc (.cells #[.bool nk, .slice ak lk ck] 24)
  replace sk := sk.alloc (.cells #[.bool nk, .slice ak lk ck] 24)
  replace Ta := Ta.alloc (.cells #[.bool nk, .slice ak lk ck] 24)
  replace Tb := Tb.alloc (.cells #[.bool nk, .slice ak lk ck] 24)
  replace Tc := Tc.alloc (.cells #[.bool nk, .slice ak lk ck] 24)
  replace Td := Td.alloc (.cells #[.bool nk, .slice ak lk ck] 24)
  replace Te := Te.alloc (.cells #[.bool nk, .slice ak lk ck] 24)
  replace Tf := Tf.alloc (.cells #[.bool nk, .slice ak lk ck] 24)
  replace cTa0 := Ta.cells.1
  replace cTa1 := Ta.cells.2
  replace zTa := Ta.lt
  replace cTb0 := Tb.cells.1
  replace cTb1 := Tb.cells.2
  replace zTb := Tb.lt
  replace cTc0 := Tc.cells.1
  replace cTc1 := Tc.cells.2
  replace zTc := Tc.lt
  replace cTd0 := Td.cells.1
  replace cTd1 := Td.cells.2
  replace zTd := Td.lt
  replace cTe0 := Te.cells.1
  replace cTe1 := Te.cells.2
  replace zTe := Te.lt
  replace cTf0 := Tf.cells.1
  replace cTf1 := Tf.cells.2
  replace zTf := Tf.lt
  have Tk := BoxI.new ((((((w.alloc (.cells #[.bool na, .slice aa la ca] 24)).alloc (.cells #[.bool nb, .slice ab lb cb] 24)).alloc (.cells #[.bool nc, .slice ac lc cc] 24)).alloc (.cells #[.bool nd, .slice ad ld cd] 24)).alloc (.cells #[.bool ne, .slice ae le ce] 24)).alloc (.cells #[.bool nf, .slice af lf cf] 24)) (w.heap.size + 1 + 1 + 1 + 1 + 1 + 1) (by first | rfl | simp) nk ak lk ck
  have cTk0 := Tk.cells.1
  have cTk1 := Tk.cells.2
  have zTk := Tk.lt
  (with_reducible refine (sane_any _ (by exact ht)).mono ?_)
  rintro e w1 ⟨rfl, b1⟩
  replace U0 := U0.trans (b1.mono U0.size)
  replace ht := ht.below b1
  replace sa := sa.below b1
  replace sb := sb.below b1
  replace sc := sc.below b1
  replace sd := sd.below b1
  replace se := se.below b1
  replace sf := sf.below b1
  replace sk := sk.below b1
  replace Ta := Ta.below b1
  replace Tb := Tb.below b1
  replace Tc := Tc.below b1
  replace Td := Td.below b1
  replace Te := Te.below b1
  replace Tf := Tf.below b1
  replace Tk := Tk.below b1
  replace cTa0 := Ta.cells.1
  replace cTa1 := Ta.cells.2
  replace zTa := Ta.lt
  replace cTb0 := Tb.cells.1
  replace cTb1 := Tb.cells.2
  replace zTb := Tb.lt
  replace cTc0 := Tc.cells.1
  replace cTc1 := Tc.cells.2
  replace zTc := Tc.lt
  replace cTd0 := Td.cells.1
  replace cTd1 := Td.cells.2
  replace zTd := Td.lt
  replace cTe0 := Te.cells.1
  replace cTe1 := Te.cells.2
  replace zTe := Te.lt
  replace cTf0 := Tf.cells.1
  replace cTf1 := Tf.cells.2
  replace zTf := Tf.lt
  replace cTk0 := Tk.cells.1
  replace cTk1 := Tk.cells.2
  replace zTk := Tk.lt
  clear b1
  clear ht
  go_wp2_with fail
  replace U0 := U0.alloc U0.size (.cells #[.bool na, .slice aa la ca, .bool nb, .slice ab lb cb, .bool nc, .slice ac lc cc, .bool nd, .slice ad ld cd, .bool ne, .slice ae le ce, .bool nf, .slice af lf cf, .bool nk, .slice ak lk ck] 24)
  replace sa := sa.alloc (.cells #[.bool na, .slice aa la ca, .bool nb, .slice ab lb cb, .bool nc, .slice ac lc cc, .bool nd, .slice ad ld cd, .bool ne, .slice ae le ce, .bool nf, .slice af lf cf, .bool nk, .slice ak lk ck] 24)
  replace sb := sb.alloc (.cells #[.bool na, .slice aa la ca, .bool nb, .slice ab lb cb, .bool nc, .slice ac lc cc, .bool nd, .slice ad ld cd, .bool ne, .slice ae le ce, .bool nf, .slice af lf cf, .bool nk, .slice ak lk ck] 24)
  replace sc := sc.alloc (.cells #[.bool na, .slice aa la ca, .bool nb, .slice ab lb cb, .bool nc, .slice ac lc cc, .bool nd, .slice ad ld cd, .bool ne, .slice ae le ce, .bool nf, .slice af lf cf, .bool nk, .slice ak lk ck] 24)
  replace sd := sd.alloc (.cells #[.bool na, .slice aa la ca, .bool nb, .slice ab lb cb, .bool nc, .slice ac lc cc, .bool nd, .slice ad ld cd, .bool ne, .slice ae le ce, .bool nf, .slice af lf cf, .bool nk, .slice ak lk ck] 24)
  replace se := se.alloc (.cells #[.bool na, .slice aa la ca, .bool nb, .slice ab lb cb, .bool nc, .slice ac lc cc, .bool nd, .slice ad ld cd, .bool ne, .slice ae le ce, .bool nf, .slice af lf cf, .bool nk, .slice ak lk ck] 24)
  replace sf := sf.alloc (.cells #[.bool na, .slice aa la ca, .bool nb, .slice ab lb cb, .bool nc, .slice ac lc cc, .bool nd, .slice ad ld cd, .bool ne, .slice ae le ce, .bool nf, .slice af lf cf, .bool nk, .slice ak lk ck] 24)
  replace sk := sk.alloc (.cells #[.bool na, .slice aa la ca, .bool nb, .slice ab lb cb, .bool nc, .slice ac lc cc, .bool nd, .slice ad ld cd, .bool ne, .slice ae le ce, .bool nf, .slice af lf cf, .bool nk, .slice ak lk ck] 24)
  replace Ta := Ta.alloc (.cells #[.bool na, .slice aa la ca, .bool nb, .slice ab lb cb, .bool nc, .slice ac lc cc, .bool nd, .slice ad ld cd, .bool ne, .slice ae le ce, .bool nf, .slice af lf cf, .bool nk, .slice ak lk ck] 24)
  replace Tb := Tb.alloc (.cells #[.bool na, .slice aa la ca, .bool nb, .slice ab lb cb, .bool nc, .slice ac lc cc, .bool nd, .slice ad ld cd, .bool ne, .slice ae le ce, .bool nf, .slice af lf cf, .bool nk, .slice ak lk ck] 24)
  replace Tc := Tc.alloc (.cells #[.bool na, .slice aa la ca, .bool nb, .slice ab lb cb, .bool nc, .slice ac lc cc, .bool nd, .slice ad ld cd, .bool ne, .slice ae le ce, .bool nf, .slice af lf cf, .bool nk, .slice ak lk ck] 24)
  replace Td := Td.alloc (.cells #[.bool na, .slice aa la ca, .bool nb, .slice ab lb cb, .bool nc, .slice ac lc cc, .bool nd, .slice ad ld cd, .bool ne, .slice ae le ce, .bool nf, .slice af lf cf, .bool nk, .slice ak lk ck] 24)
  replace Te := Te.alloc (.cells #[.bool na, .slice aa la ca, .bool nb, .slice ab lb cb, .bool nc, .slice ac lc cc, .bool nd, .slice ad ld cd, .bool ne, .slice ae le ce, .bool nf, .slice af lf cf, .bool nk, .slice ak lk ck] 24)
  replace Tf := Tf.alloc (.cells #[.bool na, .slice aa la ca, .bool nb, .slice ab lb cb, .bool nc, .slice ac lc cc, .bool nd, .slice ad ld cd, .bool ne, .slice ae le ce, .bool nf, .slice af lf cf, .bool nk, .slice ak lk ck] 24)
  replace Tk := Tk.alloc (.cells #[.bool na, .slice aa la ca, .bool nb, .slice ab lb cb, .bool nc, .slice ac lc cc, .bool nd, .slice ad ld cd, .bool ne, .slice ae le ce, .bool nf, .slice af lf cf, .bool nk, .slice ak lk ck] 24)
  replace cTa0 := Ta.cells.1
  replace cTa1 := Ta.cells.2
  replace zTa := Ta.lt
  replace cTb0 := Tb.cells.1
  replace cTb1 := Tb.cells.2
  replace zTb := Tb.lt
  replace cTc0 := Tc.cells.1
  replace cTc1 := Tc.cells.2
  replace zTc := Tc.lt
  replace cTd0 := Td.cells.1
  replace cTd1 := Td.cells.2
  replace zTd := Td.lt
  replace cTe0 := Te.cells.1
  replace cTe1 := Te.cells.2
  replace zTe := Te.lt
  replace cTf0 := Tf.cells.1
  replace cTf1 := Tf.cells.2
  replace zTf := Tf.lt
  replace cTk0 := Tk.cells.1
  replace cTk1 := Tk.cells.2
  replace zTk := Tk.lt
  (with_reducible refine (Hr.out _ _ (heap_new _ _) (by exact sa) (by exact sb) (by exact sc) (by exact sd) (by exact se) (by exact sf) (by exact sk)).mono ?_)
  rintro e w2 ⟨rfl, b2⟩
  replace U0 := U0.trans (b2.mono U0.size)
  replace sa := sa.below b2
  replace sb := sb.below b2
  replace sc := sc.below b2
  replace sd := sd.below b2
  replace se := se.below b2
  replace sf := sf.below b2
  replace sk := sk.below b2
  replace Ta := Ta.below b2
  replace Tb := Tb.below b2
  replace Tc := Tc.below b2
  replace Td := Td.below b2
  replace Te := Te.below b2
  replace Tf := Tf.below b2
  replace Tk := Tk.below b2
  replace cTa0 := Ta.cells.1
  replace cTa1 := Ta.cells.2
  replace zTa := Ta.lt
  replace cTb0 := Tb.cells.1
  replace cTb1 := Tb.cells.2
  replace zTb := Tb.lt
  replace cTc0 := Tc.cells.1
  replace cTc1 := Tc.cells.2
  replace zTc := Tc.lt
  replace cTd0 := Td.cells.1
  replace cTd1 := Td.cells.2
  replace zTd := Td.lt
  replace cTe0 := Te.cells.1
  replace cTe1 := Te.cells.2
  replace zTe := Te.lt
  replace cTf0 := Tf.cells.1
  replace cTf1 := Tf.cells.2
  replace zTf := Tf.lt
  replace cTk0 := Tk.cells.1
  replace cTk1 := Tk.cells.2
  replace zTk := Tk.lt
  clear b2
  go_wp2
  go_ret
  exact ⟨rfl, U0⟩

set_option maxRecDepth 100000 in
set_option maxHeartbeats 16000000 in
theorem frac_nob (na : Bool) (aa : Option Addr) (la ca : Nat) (xa : List Int) (nb : Bool) (ab : Option Addr) (lb cb : Nat) (xb : List Int) (nc : Bool) (ac : Option Addr) (lc cc : Nat) (xc : List Int) (nd : Bool) (ad : Option Addr) (ld cd : Nat) (xd : List Int) (ne : Bool) (ae : Option Addr) (le ce : Nat) (xe : List Int) (nf : Bool) (af : Option Addr) (lf cf : Nat) (xf : List Int) (nk : Bool) (ak : Option Addr) (lk ck : Nat) (xk : List Int) (w : World) (ht : Tab w) (sa : Sl w aa la ca xa) (sb : Sl w ab lb cb xb) (sc : Sl w ac lc cc xc) (sd : Sl w ad ld cd xd) (se : Sl w ae le ce xe) (sf : Sl w af lf cf xf) (sk : Sl w ak lk ck xk) (zb : Int) (Nb : Num zb nb xb) (vb : Int) (hb : cmp3 zb 0 = vb) (qb : decide (vb ≤ 0) = true) (hr : (!(wrong ⟨na, aa, la, ca, xa⟩ || (wrong ⟨nb, ab, lb, cb, xb⟩ || (wrong ⟨nc, ac, lc, cc, xc⟩ || (wrong ⟨nd, ad, ld, cd, xd⟩ || (wrong ⟨ne, ae, le, ce, xe⟩ || (wrong ⟨nf, af, lf, cf, xf⟩ || wrong ⟨nk, ak, lk, ck, xk⟩))))))) = true) : Calls Tryz.prog 13 #[.agg #[.bool na, .slice aa la ca], .agg #[.bool nb, .slice ab lb cb], .agg #[.bool nc, .slice ac lc cc], .agg #[.bool nd, .slice ad ld cd], .agg #[.bool ne, .slice ae le ce], .agg #[.bool nf, .slice af lf cf], .agg #[.bool nk, .slice ak lk ck]] w (RetBool true w) := by
  have Hr := Lib.hid (fun w g hg h1 h2 h3 h4 h5 h6 h7 => right7 na aa la ca xa nb ab lb cb xb nc ac lc cc xc nd ad ld cd xd ne ae le ce xe nf af lf cf xf nk ak lk ck xk w g hg h1 h2 h3 h4 h5 h6 h7 true hr)
  have Sb := Lib.hid (fun ao len cap w hs => signQ Nb hb ao len cap w hs)
  clear hr hb Nb
  go_enter Tryz.func13, Tryz.ntmps13
  have U0 := Below.refl w.heap.size w
  go_wp2_with fail
  replace U0 := U0.alloc U0.size (.cells #[.bool na, .slice aa la ca] 24)
  replace ht := ht.alloc (.cells #[.bool na, .slice aa la ca] 24)
  replace sa := sa.alloc (.cells #[.bool na, .slice aa la ca] 24)
  replace sb := sb.alloc (.cells #[.bool na, .slice aa la ca] 24)
  replace sc := sc.alloc (.cells #[.bool na, .slice aa la ca] 24)
  replace sd := sd.alloc (.cells #[.bool na, .slice aa la ca] 24)
  replace se := se.alloc (.cells #[.bool na, .slice aa la ca] 24)
  replace sf := sf.alloc (.cells #[.bool na, .slice aa la ca] 24)
  replace sk := sk.alloc (.cells #[.bool na, .slice aa la ca] 24)
  have Ta := BoxI.new w (w.heap.size) (by first | rfl | simp) na aa la ca
  have cTa0 := Ta.cells.1
  have cTa1 := Ta.cells.2
  have zTa := Ta.lt
  replace U0 := U0.alloc U0.size (.cells #[.bool nb, .slice ab lb cb] 24)
  replace ht := ht.alloc (.cells #[.bool nb, .slice ab lb cb] 24)
  replace sa := sa.alloc (.cells #[.bool nb, .slice ab lb cb] 24)
  replace sb := sb.alloc (.cells #[.bool nb, .slice ab lb cb] 24)
  replace sc := sc.alloc (.cells #[.bool nb, .slice ab lb cb] 24)
  replace sd := sd.alloc (.cells #[.bool nb, .slice ab lb cb] 24)
  replace se := se.alloc (.cells #[.bool nb, .slice ab lb cb] 24)
  replace sf := sf.alloc (.cells #[.bool nb, .slice ab lb cb] 24)
  replace sk := sk.alloc (.cells #[.bool nb, .slice ab lb cb] 24)
  replace Ta := Ta.alloc (.cells #[.bool nb, .slice ab lb cb] 24)
  replace cTa0 := Ta.cells.1
  replace cTa1 := Ta.cells.2
  replace zTa := Ta.lt
  have Tb := BoxI.new (w.alloc (.cells #[.bool na, .slice aa la ca] 24)) (w.heap.size + 1) (by first | rfl | simp) nb ab lb cb
  have cTb0 := Tb.cells.1
  have cTb1 := Tb.cells.2
  have zTb := Tb.lt
  replace U0 := U0.alloc U0.size (.cells #[.bool nc, .slice ac lc cc] 24)
  replace ht := ht.alloc (.cells #[.bool nc, .slice ac lc cc] 24)
  replace sa := sa.alloc (.cells #[.bool nc, .slice ac lc cc] 24)
  replace sb := sb.alloc (.cells #[.bool nc, .slice ac lc cc] 24)
  replace sc := sc.alloc (.cells #[.bool nc, .slice ac lc cc] 24)
  replace sd := sd.alloc (.cells #[.bool nc, .slice ac lc cc] 24)
  replace se := se.alloc (.cells #[.bool nc, .slice ac lc cc] 24)
  replace sf := sf.alloc (.cells #[.bool nc, .slice ac lc cc] 24)
  replace sk := sk.alloc (.cells #[.bool nc, .slice ac lc cc] 24)
  replace Ta := Ta.alloc (.cells #[.bool nc, .slice ac lc cc] 24)
  replace Tb := Tb.alloc (.cells #[.bool nc, .slice ac lc cc] 24)
  replace cTa0 := Ta.cells.1
  replace cTa1 := Ta.cells.2
  replace zTa := Ta.lt
  replace cTb0 := Tb.cells.1
  replace cTb1 := Tb.cells.2
  replace zTb := Tb.lt
  have Tc := BoxI.new ((w.alloc (.cells #[.bool na, .slice aa la ca] 24)).alloc (.cells #[.bool nb, .slice ab lb cb] 24)) (w.heap.size + 1 + 1) (by first | rfl | simp) nc ac lc cc
  have cTc0 := Tc.cells.1
  have cTc1 := Tc.cells.2
  have zTc := Tc.lt
  replace U0 := U0.alloc U0.size (.cells #[.bool nd, .slice ad ld cd] 24)
  replace ht := ht.alloc (.cells #[.bool nd, .slice ad ld cd] 24)
  replace sa := sa.alloc (.cells #[.bool nd, .slice ad ld cd] 24)
  replace sb := sb.alloc (.cells #[.bool nd, .slice ad ld cd] 24)
  replace sc := sc.alloc (.cells #[.bool nd, .slice ad ld cd] 24)
  replace sd := sd.alloc (.cells #[.bool nd, .slice ad ld cd] 24)
  replace se := se.alloc (.cells #[.bool nd, .slice ad ld cd] 24)
  replace sf := sf.alloc (.cells #[.bool nd, .slice ad ld cd] 24)
  replace sk := sk.alloc (.cells #[.bool nd, .slice ad ld cd] 24)
  replace Ta := Ta.alloc (.cells #[.bool nd, .slice ad ld cd] 24)
  replace Tb := Tb.alloc (.cells #[.bool nd, .slice ad ld cd] 24)
  replace Tc := Tc.alloc (.cells #[.bool nd, .slice ad ld cd] 24)
  replace cTa0 := Ta.cells.1
  replace cTa1 := Ta.cells.2
  replace zTa := Ta.lt
  replace cTb0 := Tb.cells.1
  replace cTb1 := Tb.cells.2
  replace zTb := Tb.lt
  replace cTc0 := Tc.cells.1
  replace cTc1 := Tc.cells.2
  replace zTc := Tc.lt
  have Td := BoxI.new (((w.alloc (.cells #[.bool na, .slice aa la ca] 24)).alloc (.cells #[.bool nb, .slice ab lb cb] 24)).alloc (.cells #[.bool nc, .slice ac lc cc] 24)) (w.heap.size + 1 + 1 + 1) (by first | rfl | simp) nd ad ld cd
  have cTd0 := Td.cells.1
  have cTd1 := Td.cells.2
  have zTd := Td.lt
  replace U0 := U0.alloc U0.size (.cells #[.bool ne, .slice ae le ce] 24)
  replace ht := ht.alloc (.cells #[.bool ne, .slice ae le ce] 24)
  replace sa := sa.alloc (.cells #[.bool ne, .slice ae le ce] 24)
  replace sb := sb.alloc (.cells #[.bool ne, .slice ae le ce] 24)
  replace sc := sc.alloc (.cells #[.bool ne, .slice ae le ce] 24)
  replace sd := sd.alloc (.cells #[.bool ne, .slice ae le ce] 24)
  replace se := se.alloc (.cells #[.bool ne, .slice ae le ce] 24)
  replace sf := sf.alloc (.cells #[.bool ne, .slice ae le ce] 24)
  replace sk := sk.alloc (.cells #[.bool ne, .slice ae le ce] 24)
  replace Ta := Ta.alloc (.cells #[.bool ne, .slice ae le ce] 24)
  replace Tb := Tb.alloc (.cells #[.bool ne, .slice ae le ce] 24)
  replace Tc := Tc.alloc (.cells #[.bool ne, .slice ae le ce] 24)
  replace Td := Td.alloc (.cells #[.bool ne, .slice ae le ce] 24)
  replace cTa0 := Ta.cells.1
  replace cTa1 := Ta.cells.2
  replace zTa := Ta.lt
  replace cTb0 := Tb.cells.1
  replace cTb1 := Tb.cells.2
  replace zTb := Tb.lt
  replace cTc0 := Tc.cells.1
  replace cTc1 := Tc.cells.2
  replace zTc := Tc.lt
  replace cTd0 := Td.cells.1
  replace cTd1 := Td.cells.2
  replace zTd := Td.lt
  have Te := BoxI.new ((((w.alloc (.cells #[.bool na, .slice aa la ca] 24)).alloc (.cells #[.bool nb, .slice ab lb cb] 24)).alloc (.cells #[.bool nc, .slice ac lc cc] 24)).alloc (.cells #[.bool nd, .slice ad ld cd] 24)) (w.heap.size + 1 + 1 + 1 + 1) (by first | rfl | simp) ne ae le ce
  have cTe0 := Te.cells.1
  have cTe1 := Te.cells.2
  have zTe := Te.lt
  replace U0 := U0.alloc U0.size (.cells #[.bool nf, .slice af lf cf] 24)
  replace ht := ht.alloc (.cells #[.bool nf, .slice af lf cf] 24)
  replace sa := sa.alloc (.cells #[.bool nf, .slice af lf cf] 24)
  replace sb := sb.alloc (.cells #[.bool nf, .slice af lf cf] 24)
  replace sc := sc.alloc (.cells #[.bool nf, .slice af lf cf] 24)
  replace sd := sd.alloc (.cells #[.bool nf, .slice af lf cf] 24)
  replace se := se.alloc (.cells #[.bool nf, .slice af lf cf] 24)
  replace sf := sf.alloc (.cells #[.bool nf, .slice af lf cf] 24)
  replace sk := sk.alloc (.cells #[.bool nf, .slice af lf cf] 24)
  replace Ta := Ta.alloc (.cells #[.bool nf, .slice af lf cf] 24)
  replace Tb := Tb.alloc (.cells #[.bool nf, .slice af lf cf] 24)
  replace Tc := Tc.alloc (.cells #[.bool nf, .slice af lf cf] 24)
  replace Td := Td.alloc (.cells #[.bool nf, .slice af lf cf] 24)
  replace Te := Te.alloc (.cells #[.bool nf, .slice af lf cf] 24)
  replace cTa0 := Ta.cells.1
  replace cTa1 := Ta.cells.2
  replace zTa := Ta.lt
  replace cTb0 := Tb.cells.1
  replace cTb1 := Tb.cells.2
  replace zTb := Tb.lt
  replace cTc0 := Tc.cells.1
  replace cTc1 := Tc.cells.2
  replace zTc := Tc.lt
  replace cTd0 := Td.cells.1
  replace cTd1 := Td.cells.2
  replace zTd := Td.lt
  replace cTe0 := Te.cells.1
  replace cTe1 := Te.cells.2
  replace zTe := Te.lt
  have Tf := BoxI.new (((((w.alloc (.cells #[.bool na, .slice aa la ca] 24)).alloc (.cells #[.bool nb, .slice ab lb cb] 24)).alloc (.cells #[.bool nc, .slice ac lc cc] 24)).alloc (.cells #[.bool nd, .slice ad ld cd] 24)).alloc (.cells #[.bool ne, .slice ae le ce] 24)) (w.heap.size + 1 + 1 + 1 + 1 + 1) (by first | rfl | simp) nf af lf cf
  have cTf0 := Tf.cells.1
  have cTf1 := Tf.cells.2
  have zTf := Tf.lt
  replace U0 := U0.alloc U0.size (.cells #[.bool nk, .slice ak lk ck] 24)
  replace ht := ht.alloc (.cells #[.bool nk, .slice ak lk ck] 24)
  replace sa := sa.alloc (.cells #[.bool nk, .slice ak lk ck] 24)
  replace sb := sb.alloc (.cells #[.bool nk, .slice ak lk ck] 24)
  replace sc := sc.alloc (.cells #[.bool nk, .slice ak lk ck] 24)
  replace sd := sd.alloc (.cells #[.bool nk, .slice ak lk ck] 24)
  replace se := se.alloc (.cells #[.bool nk, .slice ak lk ck] 24)
  replace sf := sf.alloc (.cells #[.bool nk, .slice ak lk ck] 24)
  replace sk := sk.alloc (.cells #[.bool nk, .slice ak lk ck] 24)
  replace Ta := Ta.alloc (.cells #[.bool nk, .slice ak lk ck] 24)
  replace Tb := Tb.alloc (.cells #[.bool nk, .slice ak lk ck] 24)
  replace Tc := Tc.alloc (.cells #[.bool nk, .slice ak lk ck] 24)
  replace Td := Td.alloc (.cells #[.bool nk, .slice ak lk ck] 24)
  replace Te := Te.alloc (.cells #[.bool nk, .slice ak lk ck] 24)
  replace Tf := Tf.alloc (.cells #[.bool nk, .slice ak lk ck] 24)
  replace cTa0 := Ta.cells.1
  replace cTa1 := Ta.cells.2
  replace zTa := Ta.lt
  replace cTb0 := Tb.cells.1
  replace cTb1 := Tb.cells.2
  replace zTb := Tb.lt
  replace cTc0 := Tc.cells.1
  replace cTc1 := Tc.cells.2
  replace zTc := Tc.lt
  replace cTd0 := Td.cells.1
  replace cTd1 := Td.cells.2
  replace zTd := Td.lt
  replace cTe0 := Te.cells.1
  replace cTe1 := Te.cells.2
  replace zTe := Te.lt
  replace cTf0 := Tf.cells.1
  replace cTf1 := Tf.cells.2
  replace zTf := Tf.lt
  have Tk := BoxI.new ((((((w.alloc (.cells #[.bool na, .slice aa la ca] 24)).alloc (.cells #[.bool nb, .slice ab lb cb] 24)).alloc (.cells #[.bool nc, .slice ac lc cc] 24)).alloc (.cells #[.bool nd, .slice ad ld cd] 24)).alloc (.cells #[.bool ne, .slice ae le ce] 24)).alloc (.cells #[.bool nf, .slice af lf cf] 24)) (w.heap.size + 1 + 1 + 1 + 1 + 1 + 1) (by first | rfl | simp) nk ak lk ck
  have cTk0 := Tk.cells.1
  have cTk1 := Tk.cells.2
  have zTk := Tk.lt
  (with_reducible refine (sane_any _ (by exact ht)).mono ?_)
  rintro e w1 ⟨rfl, b1⟩
  replace U0 := U0.trans (b1.mono U0.size)
  replace ht := ht.below b1
  replace sa := sa.below b1
  replace sb := sb.below b1
  replace sc := sc.below b1
  replace sd := sd.below b1
  replace se := se.below b1
  replace sf := sf.below b1
  replace sk := sk.below b1
  replace Ta := Ta.below b1
  replace Tb := Tb.below b1
  replace Tc := Tc.below b1
  replace Td := Td.below b1
  replace Te := Te.below b1
  replace Tf := Tf.below b1
  replace Tk := Tk.below b1
  replace cTa0 := Ta.cells.1
  replace cTa1 := Ta.cells.2
  replace zTa := Ta.lt
  replace cTb0 := Tb.cells.1
  replace cTb1 := Tb.cells.2
  replace zTb := Tb.lt
  replace cTc0 := Tc.cells.1
  replace cTc1 := Tc.cells.2
  replace zTc := Tc.lt
  replace cTd0 := Td.cells.1
  replace cTd1 := Td.cells.2
  replace zTd := Td.lt
  replace cTe0 := Te.cells.1
  replace cTe1 := Te.cells.2
  replace zTe := Te.lt
  replace cTf0 := Tf.cells.1
  replace cTf1 := Tf.cells.2
  replace zTf := Tf.lt
  replace cTk0 := Tk.cells.1
  replace cTk1 := Tk.cells.2
  replace zTk := Tk.lt
  clear b1
  clear ht
  go_wp2_with fail
  replace U0 := U0.alloc U0.size (.cells #[.bool na, .slice aa la ca, .bool nb, .slice ab lb cb, .bool nc, .slice ac lc cc, .bool nd, .slice ad ld cd, .bool ne, .slice ae le ce, .bool nf, .slice af lf cf, .bool nk, .slice ak lk ck] 24)
  replace sa := sa.alloc (.cells #[.bool na, .slice aa la ca, .bool nb, .slice ab lb cb, .bool nc, .slice ac lc cc, .bool nd, .slice ad ld cd, .bool ne, .slice ae le ce, .bool nf, .slice af lf cf, .bool nk, .slice ak lk ck] 24)
  replace sb := sb.alloc (.cells #[.bool na, .slice aa la ca, .bool nb, .slice ab lb cb, .bool nc, .slice ac lc cc, .bool nd, .slice ad ld cd, .bool ne, .slice ae le ce, .bool nf, .slice af lf cf, .bool nk, .slice ak lk ck] 24)
  replace sc := sc.alloc (.cells #[.bool na, .slice aa la ca, .bool nb, .slice ab lb cb, .bool nc, .slice ac lc cc, .bool nd, .slice ad ld cd, .bool ne, .slice ae le ce, .bool nf, .slice af lf cf, .bool nk, .slice ak lk ck] 24)
  replace sd := sd.alloc (.cells #[.bool na, .slice aa la ca, .bool nb, .slice ab lb cb, .bool nc, .slice ac lc cc, .bool nd, .slice ad ld cd, .bool ne, .slice ae le ce, .bool nf, .slice af lf cf, .bool nk, .slice ak lk ck] 24)
  replace se := se.alloc (.cells #[.bool na, .slice aa la ca, .bool nb, .slice ab lb cb, .bool nc, .slice ac lc cc, .bool nd, .slice ad ld cd, .bool ne, .slice ae le ce, .bool nf, .slice af lf cf, .bool nk, .slice ak lk ck] 24)
  replace sf := sf.alloc (.cells #[.bool na, .slice aa la ca, .bool nb, .slice ab lb cb, .bool nc, .slice ac lc cc, .bool nd, .slice ad ld cd, .bool ne, .slice ae le ce, .bool nf, .slice af lf cf, .bool nk, .slice ak lk ck] 24)
  replace sk := sk.alloc (.cells #[.bool na, .slice aa la ca, .bool nb, .slice ab lb cb, .bool nc, .slice ac lc cc, .bool nd, .slice ad ld cd, .bool ne, .slice ae le ce, .bool nf, .slice af lf cf, .bool nk, .slice ak lk ck] 24)
  replace Ta := Ta.alloc (.cells #[.bool na, .slice aa la ca, .bool nb, .slice ab lb cb, .bool nc, .slice ac lc cc, .bool nd, .slice ad ld cd, .bool ne, .slice ae le ce, .bool nf, .slice af lf cf, .bool nk, .slice ak lk ck] 24)
  replace Tb := Tb.alloc (.cells #[.bool na, .slice aa la ca, .bool nb, .slice ab lb cb, .bool nc, .slice ac lc cc, .bool nd, .slice ad ld cd, .bool ne, .slice ae le ce, .bool nf, .slice af lf cf, .bool nk, .slice ak lk ck] 24)
  replace Tc := Tc.alloc (.cells #[.bool na, .slice aa la ca, .bool nb, .slice ab lb cb, .bool nc, .slice ac lc cc, .bool nd, .slice ad ld cd, .bool ne, .slice ae le ce, .bool nf, .slice af lf cf, .bool nk, .slice ak lk ck] 24)
  replace Td := Td.alloc (.cells #[.bool na, .slice aa la ca, .bool nb, .slice ab lb cb, .bool nc, .slice ac lc cc, .bool nd, .slice ad ld cd, .bool ne, .slice ae le ce, .bool nf, .slice af lf cf, .bool nk, .slice ak lk ck] 24)
  replace Te := Te.alloc (.cells #[.bool na, .slice aa la ca, .bool nb, .slice ab lb cb, .bool nc, .slice ac lc cc, .bool nd, .slice ad ld cd, .bool ne, .slice ae le ce, .bool nf, .slice af lf cf, .bool nk, .slice ak lk ck] 24)
  replace Tf := Tf.alloc (.cells #[.bool na, .slice aa la ca, .bool nb, .slice ab lb cb, .bool nc, .slice ac lc cc, .bool nd, .slice ad ld cd, .bool ne, .slice ae le ce, .bool nf, .slice af lf cf, .bool nk, .slice ak lk ck] 24)
  replace Tk := Tk.alloc (.cells #[.bool na, .slice aa la ca, .bool nb, .slice ab lb cb, .bool nc, .slice ac lc cc, .bool nd, .slice ad ld cd, .bool ne, .slice ae le ce, .bool nf, .slice af lf cf, .bool nk, .slice ak lk ck] 24)
  replace cTa0 := Ta.cells.1
  replace cTa1 := Ta.cells.2
  replace zTa := Ta.lt
  replace cTb0 := Tb.cells.1
  replace cTb1 := Tb.cells.2
  replace zTb := Tb.lt
  replace cTc0 := Tc.cells.1
  replace cTc1 := Tc.cells.2
  replace zTc := Tc.lt
  replace cTd0 := Td.cells.1
  replace cTd1 := Td.cells.2
  replace zTd := Td.lt
  replace cTe0 := Te.cells.1
  replace cTe1 := Te.cells.2
  replace zTe := Te.lt
  replace cTf0 := Tf.cells.1
  replace cTf1 := Tf.cells.2
  replace zTf := Tf.lt
  replace cTk0 := Tk.cells.1
  replace cTk1 := Tk.cells.2
  replace zTk := Tk.lt
  (with_reducible refine (Hr.out _ _ (heap_new _ _) (by exact sa) (by exact sb) (by exact sc) (by exact sd) (by exact se) (by exact sf) (by exact sk)).mono ?_)
  rintro e w2 ⟨rfl, b2⟩
  replace U0 := U0.trans (b2.mono U0.size)
  replace sa := sa.below b2
  replace sb := sb.below b2
  replace sc := sc.below b2
  replace sd := sd.below b2
  replace se := se.below b2
  replace sf := sf.below b2
  replace sk := sk.below b2
  replace Ta := Ta.below b2
  replace Tb := Tb.below b2
  replace Tc := Tc.below b2
  replace Td := Td.below b2
  replace Te := Te.below b2
  replace Tf := Tf.below b2
  replace Tk := Tk.below b2
  replace cTa0 := Ta.cells.1
  replace cTa1 := Ta.cells.2
  replace zTa := Ta.lt
  replace cTb0 := Tb.cells.1
  replace cTb1 := Tb.cells.2
  replace zTb := Tb.lt
  replace cTc0 := Tc.cells.1
  replace cTc1 := Tc.cells.2
  replace zTc := Tc.lt
  replace cTd0 := Td.cells.1
  replace cTd1 := Td.cells.2
  replace zTd := Td.lt
  replace cTe0 := Te.cells.1
  replace cTe1 := Te.cells.2
  replace zTe := Te.lt
  replace cTf0 := Tf.cells.1
  replace cTf1 := Tf.cells.2
  replace zTf := Tf.lt
  replace cTk0 := Tk.cells.1
  replace cTk1 := Tk.cells.2
  replace zTk := Tk.lt
  clear b2
  go_wp2_with fail
  (with_reducible refine (Sb.out _ _ _ _ (by exact sb)).mono ?_)
  rintro e w3 ⟨rfl, b3⟩
  replace U0 := U0.trans (b3.mono U0.size)
  replace sa := sa.below b3
  replace sb := sb.below b3
  replace sc := sc.below b3
  replace sd := sd.below b3
  replace se := se.below b3
  replace sf := sf.below b3
  replace sk := sk.below b3
  replace Ta := Ta.below b3
  replace Tb := Tb.below b3
  replace Tc := Tc.below b3
  replace Td := Td.below b3
  replace Te := Te.below b3
  replace Tf := Tf.below b3
  replace Tk := Tk.below b3
  replace cTa0 := Ta.cells.1
  replace cTa1 := Ta.cells.2
  replace zTa := Ta.lt
  replace cTb0 := Tb.cells.1
  replace cTb1 := Tb.cells.2
  replace zTb := Tb.lt
  replace cTc0 := Tc.cells.1
  replace cTc1 := Tc.cells.2
  replace zTc := Tc.lt
  replace cTd0 := Td.cells.1
  replace cTd1 := Td.cells.2
  replace zTd := Td.lt
  replace cTe0 := Te.cells.1
  replace cTe1 := Te.cells.2
  replace zTe := Te.lt
  replace cTf0 := Tf.cells.1
  replace cTf1 := Tf.cells.2
  replace zTf := Tf.lt
  replace cTk0 := Tk.cells.1
  replace cTk1 := Tk.cells.2
  replace zTk := Tk.lt
  clear b3
  go_wp2
  go_ret
  exact ⟨rfl, U0⟩

set_option maxRecDepth 100000 in
set_option maxHeartbeats 16000000 in
theorem frac_nod (na : Bool) (aa : Option Addr) (la ca : Nat) (xa : List Int) (nb : Bool) (ab : Option Addr) (lb cb : Nat) (xb : List Int) (nc : Bool) (ac : Option Addr) (lc cc : Nat) (xc : List Int) (nd : Bool) (ad : Option Addr) (ld cd : Nat) (xd : List Int) (ne : Bool) (ae : Option Addr) (le ce : Nat) (xe : List Int) (nf : Bool) (af : Option Addr) (lf cf : Nat) (xf : List Int) (nk : Bool) (ak : Option Addr) (lk ck : Nat) (xk : List Int) (w : World) (ht : Tab w) (sa : Sl w aa la ca xa) (sb : Sl w ab lb cb xb) (sc : Sl w ac lc cc xc) (sd : Sl w ad ld cd xd) (se : Sl w ae le ce xe) (sf : Sl w af lf cf xf) (sk : Sl w ak lk ck xk) (zb : Int) (Nb : Num zb nb xb) (vb : Int) (hb : cmp3 zb 0 = vb) (qb : decide (vb ≤ 0) = false) (zd : Int) (Nd : Num zd nd xd) (vd : Int) (hd : cmp3 zd 0 = vd) (qd : decide (vd ≤ 0) = true) (hr : (!(wrong ⟨na, aa, la, ca, xa⟩ || (wrong ⟨nb, ab, lb, cb, xb⟩ || (wrong ⟨nc, ac, lc, cc, xc⟩ || (wrong ⟨nd, ad, ld, cd, xd⟩ || (wrong ⟨ne, ae, le, ce, xe⟩ || (wrong ⟨nf, af, lf, cf, xf⟩ || wrong ⟨nk, ak, lk, ck, xk⟩))))))) = true) : Calls Tryz.prog 13 #[.agg #[.bool na, .slice aa la ca], .agg #[.bool nb, .slice ab lb cb], .agg #[.bool nc, .slice ac lc cc], .agg #[.bool nd, .slice ad ld cd], .agg #[.bool ne, .slice ae le ce], .agg #[.bool nf, .slice af lf cf], .agg #[.bool nk, .slice ak lk ck]] w (RetBool true w) := by
  have Hr := Lib.hid (fun w g hg h1 h2 h3 h4 h5 h6 h7 => right7 na aa la ca xa nb ab lb cb xb nc ac lc cc xc nd ad ld cd xd ne ae le ce xe nf af lf cf xf nk ak lk ck xk w g hg h1 h2 h3 h4 h5 h6 h7 true hr)
  have Sb := Lib.hid (fun ao len cap w hs => signQ Nb hb ao len cap w hs)
  have Sd := Lib.hid (fun ao len cap w hs => signQ Nd hd ao len cap w hs)
  clear hr hb Nb hd Nd
  go_enter Tryz.func13, Tryz.ntmps13
  have U0 := Below.refl w.heap.size w
  go_wp2_with fail
  replace U0 := U0.alloc U0.size (.cells #[.bool na, .slice aa la ca] 24)
  replace ht := ht.alloc (.cells #[.bool na, .slice aa la ca] 24)
  replace sa := sa.alloc (.cells #[.bool na, .slice aa la ca] 24)
  replace sb := sb.alloc (.cells #[.bool na, .slice aa la ca] 24)
  replace sc := sc.alloc (.cells #[.bool na, .slice aa la ca] 24)
  replace sd := sd.alloc (.cells #[.bool na, .slice aa la ca] 24)
  replace se := se.alloc (.cells #[.bool na, .slice aa la ca] 24)
  replace sf := sf.alloc (.cells #[.bool na, .slice aa la ca] 24)
  replace sk := sk.alloc (.cells #[.bool na, .slice aa la ca] 24)
  have Ta := BoxI.new w (w.heap.size) (by first | rfl | simp) na aa la ca
  have cTa0 := Ta.cells.1
  have cTa1 := Ta.cells.2
  have zTa := Ta.lt
  replace U0 := U0.alloc U0.size (.cells #[.bool nb, .slice ab lb cb] 24)
  replace ht := ht.alloc (.cells #[.bool nb, .slice ab lb cb] 24)
  replace sa := sa.alloc (.cells #[.bool nb, .slice ab lb cb] 24)
  replace sb := sb.alloc (.cells #[.bool nb, .slice ab lb cb] 24)
  replace sc := sc.alloc (.cells #[.bool nb, .slice ab lb cb] 24)
  replace sd := sd.alloc (.cells #[.bool nb, .slice ab lb cb] 24)
  replace se := se.alloc (.cells #[.bool nb, .slice ab lb cb] 24)
  replace sf := sf.alloc (.cells #[.bool nb, .slice ab lb cb] 24)
  replace sk := sk.alloc (.cells #[.bool nb, .slice ab lb cb] 24)
  replace Ta := Ta.alloc (.cells #[.bool nb, .slice ab lb cb] 24)
  replace cTa0 := Ta.cells.1
  replace cTa1 := Ta.cells.2
  replace zTa := Ta.lt
  have Tb := BoxI.new (w.alloc (.cells #[.bool na, .slice aa la ca] 24)) (w.heap.size + 1) (by first | rfl | simp) nb ab lb cb
  have cTb0 := Tb.cells.1
  have cTb1 := Tb.cells.2
  have zTb := Tb.lt
  replace U0 := U0.alloc U0.size (.cells #[.bool nc, .slice ac lc cc] 24)
  replace ht := ht.alloc (.cells #[.bool nc, .slice ac lc cc] 24)
  replace sa := sa.alloc (.cells #[.bool nc, .slice ac lc cc] 24)
  replace sb := sb.alloc (.cells #[.bool nc, .slice ac lc cc] 24)
  replace sc := sc.alloc (.cells #[.bool nc, .slice ac lc cc] 24)
  replace sd := sd.alloc (.cells #[.bool nc, .slice ac lc cc] 24)
  replace se := se.alloc (.cells #[.bool nc, .slice ac lc cc] 24)
  replace sf := sf.alloc (.cells #[.bool nc, .slice ac lc cc] 24)
  replace sk := sk.alloc (.cells #[.bool nc, .slice ac lc cc] 24)
  replace Ta := Ta.alloc (.cells #[.bool nc, .slice ac lc cc] 24)
  replace Tb := Tb.alloc (.cells #[.bool nc, .slice ac lc cc] 24)
  replace cTa0 := Ta.cells.1
  replace cTa1 := Ta.cells.2
  replace zTa := Ta.lt
  replace cTb0 := Tb.cells.1
  replace cTb1 := Tb.cells.2
  replace zTb := Tb.lt
  have Tc := BoxI.new ((w.alloc (.cells #[.bool na, .slice aa la ca] 24)).alloc (.cells #[.bool nb, .slice ab lb cb] 24)) (w.heap.size + 1 + 1) (by first | rfl | simp) nc ac lc cc
  have cTc0 := Tc.cells.1
  have cTc1 := Tc.cells.2
  have zTc := Tc.lt
  replace U0 := U0.alloc U0.size (.cells #[.bool nd, .slice ad ld cd] 24)
  replace ht := ht.alloc (.cells #[.bool nd, .slice ad ld cd] 24)
  replace sa := sa.alloc (.cells #[.bool nd, .slice ad ld cd] 24)
  replace sb := sb.alloc (.cells #[.bool nd, .slice ad ld cd] 24)
  replace sc := sc.alloc (.cells #[.bool nd, .slice ad ld cd] 24)
  replace sd := sd.alloc (.cells #[.bool nd, .slice ad ld cd] 24)
  replace se := se.alloc (.cells #[.bool nd, .slice ad ld cd] 24)
  replace sf := sf.alloc (.cells #[.bool nd, .slice ad ld cd] 24)
  replace sk := sk.alloc (.cells #[.bool nd, .slice ad ld cd] 24)
  replace Ta := Ta.alloc (.cells #[.bool nd, .slice ad ld cd] 24)
  replace Tb := Tb.alloc (.cells #[.bool nd, .slice ad ld cd] 24)
  replace Tc := Tc.alloc (.cells #[.bool nd, .slice ad ld cd] 24)
  replace cTa0 := Ta.cells.1
  replace cTa1 := Ta.cells.2
  replace zTa := Ta.lt
  replace cTb0 := Tb.cells.1
  replace cTb1 := Tb.cells.2
  replace zTb := Tb.lt
  replace cTc0 := Tc.cells.1
  replace cTc1 := Tc.cells.2
  replace zTc := Tc.lt
  have Td := BoxI.new (((w.alloc (.cells #[.bool na, .slice aa la ca] 24)).alloc (.cells #[.bool nb, .slice ab lb cb] 24)).alloc (.cells #[.bool nc, .slice ac lc cc] 24)) (w.heap.size + 1 + 1 + 1) (by first | rfl | simp) nd ad ld cd
  have cTd0 := Td.cells.1
  have cTd1 := Td.cells.2
  have zTd := Td.lt
  replace U0 := U0.alloc U0.size (.cells #[.bool ne, .slice ae le ce] 24)
  replace ht := ht.alloc (.cells #[.bool ne, .slice ae le ce] 24)
  replace sa := sa.alloc (.cells #[.bool ne, .slice ae le ce] 24)
  replace sb := sb.alloc (.cells #[.bool ne, .slice ae le ce] 24)
  replace sc := sc.alloc (.cells #[.bool ne, .slice ae le ce] 24)
  replace sd := sd.alloc (.cells #[.bool ne, .slice ae le ce] 24)
  replace se := se.alloc (.cells #[.bool ne, .slice ae le ce] 24)
  replace sf := sf.alloc (.cells #[.bool ne, .slice ae le ce] 24)
  replace sk := sk.alloc (.cells #[.bool ne, .slice ae le ce] 24)
  replace Ta := Ta.alloc (.cells #[.bool ne, .slice ae le ce] 24)
  replace Tb := Tb.alloc (.cells #[.bool ne, .slice ae le ce] 24)
  replace Tc := Tc.alloc (.cells #[.bool ne, .slice ae le ce] 24)
  replace Td := Td.alloc (.cells #[.bool ne, .slice ae le ce] 24)
  replace cTa0 := Ta.cells.1
  replace cTa1 := Ta.cells.2
  replace zTa := Ta.lt
  replace cTb0 := Tb.cells.1
  replace cTb1 := Tb.cells.2
  replace zTb := Tb.lt
  replace cTc0 := Tc.cells.1
  replace cTc1 := Tc.cells.2
  replace zTc := Tc.lt
  replace cTd0 := Td.cells.1
  replace cTd1 := Td.cells.2
  replace zTd := Td.lt
  have Te := BoxI.new ((((w.alloc (.cells #[.bool na, .slice aa la ca] 24)).alloc (.cells #[.bool nb, .slice ab lb cb] 24)).alloc (.cells #[.bool nc, .slice ac lc cc] 24)).alloc (.cells #[.bool nd, .slice ad ld cd] 24)) (w.heap.size + 1 + 1 + 1 + 1) (by first | rfl | simp) ne ae le ce
  have cTe0 := Te.cells.1
  have cTe1 := Te.cells.2
  have zTe := Te.lt
  replace U0 := U0.alloc U0.size (.cells #[.bool nf, .slice af lf cf] 24)
  replace ht := ht.alloc (.cells #[.bool nf, .slice af lf cf] 24)
  replace sa := sa.alloc (.cells #[.bool nf, .slice af lf cf] 24)
  replace sb := sb.alloc (.cells #[.bool nf, .slice af lf cf] 24)
  replace sc := sc.alloc (.cells #[.bool nf, .slice af lf cf] 24)
  replace sd := sd.alloc (.cells #[.bool nf, .slice af lf cf] 24)
  replace se := se.alloc (.cells #[.bool nf, .slice af lf cf] 24)
  replace sf := sf.alloc (.cells #[.bool nf, .slice af lf cf] 24)
  replace sk := sk.alloc (.cells #[.bool nf, .slice af lf cf] 24)
  replace Ta := Ta.alloc (.cells #[.bool nf, .slice af lf cf] 24)
  replace Tb := Tb.alloc (.cells #[.bool nf, .slice af lf cf] 24)
  replace Tc := Tc.alloc (.cells #[.bool nf, .slice af lf cf] 24)
  replace Td := Td.alloc (.cells #[.bool nf, .slice af lf cf] 24)
  replace Te := Te.alloc (.cells #[.bool nf, .slice af lf cf] 24)
  replace cTa0 := Ta.cells.1
  replace cTa1 := Ta.cells.2
  replace zTa := Ta.lt
  replace cTb0 := Tb.cells.1
  replace cTb1 := Tb.cells.2
  replace zTb := Tb.lt
  replace cTc0 := Tc.cells.1
  replace cTc1 := Tc.cells.2
  replace zTc := Tc.lt
  replace cTd0 := Td.cells.1
  replace cTd1 := Td.cells.2
  replace zTd := Td.lt
  replace cTe0 := Te.cells.1
  replace cTe1 := Te.cells.2
  replace zTe := Te.lt
  have Tf := BoxI.new (((((w.alloc (.cells #[.bool na, .slice aa la ca] 24)).alloc (.cells #[.bool nb, .slice ab lb cb] 24)).alloc (.cells #[.bool nc, .slice ac lc cc] 24)).alloc (.cells #[.bool nd, .slice ad ld cd] 24)).alloc (.cells #[.bool ne, .slice ae le ce] 24)) (w.heap.size + 1 + 1 + 1 + 1 + 1) (by first | rfl | simp) nf af lf cf
  have cTf0 := Tf.cells.1
  have cTf1 := Tf.cells.2
  have zTf := Tf.lt
  replace U0 := U0.alloc U0.size (.cells #[.bool nk, .slice ak lk ck] 24)
  replace ht := ht.alloc (.cells #[.bool nk, .slice ak lk ck] 24)
  replace sa := sa.alloc (.cells #[.bool nk, .slice ak lk ck] 24)
  replace sb := sb.alloc (.cells #[.bool nk, .slice ak lk ck] 24)
  replace sc := sc.alloc (.cells #[.bool nk, .slice ak lk ck] 24)
  replace sd := sd.alloc (.cells #[.bool nk, .slice ak lk ck] 24)
  replace se := se.alloc (.cells #[.bool nk, .slice ak lk ck] 24)
  replace sf := sf.alloc (.cells #[.bool nk, .slice ak lk ck] 24)
  replace sk := sk.alloc (.cells #[.bool nk, .slice ak lk ck] 24)
  replace Ta := Ta.alloc (.cells #[.bool nk, .slice ak lk ck] 24)
  replace Tb := Tb.alloc (.cells #[.bool nk, .slice ak lk ck] 24)
  replace Tc := Tc.alloc (.cells #[.bool nk, .slice ak lk ck] 24)
  replace Td := Td.alloc (.cells #[.bool nk, .slice ak lk ck] 24)
  replace Te := Te.alloc (.cells #[.bool nk, .slice ak lk ck] 24)
  replace Tf := Tf.alloc (.cells #[.bool nk, .slice ak lk ck] 24)
  replace cTa0 := Ta.cells.1
  replace cTa1 := Ta.cells.2
  replace zTa := Ta.lt
  replace cTb0 := Tb.cells.1
  replace cTb1 := Tb.cells.2
  replace zTb := Tb.lt
  replace cTc0 := Tc.cells.1
  replace cTc1 := Tc.cells.2
  replace zTc := Tc.lt
  replace cTd0 := Td.cells.1
  replace cTd1 := Td.cells.2
  replace zTd := Td.lt
  replace cTe0 := Te.cells.1
  replace cTe1 := Te.cells.2
  replace zTe := Te.lt
  replace cTf0 := Tf.cells.1
  replace cTf1 := Tf.cells.2
  replace zTf := Tf.lt
  have Tk := BoxI.new ((((((w.alloc (.cells #[.bool na, .slice aa la ca] 24)).alloc (.cells #[.bool nb, .slice ab lb cb] 24)).alloc (.cells #[.bool nc, .slice ac lc cc] 24)).alloc (.cells #[.bool nd, .slice ad ld cd] 24)).alloc (.cells #[.bool ne, .slice ae le ce] 24)).alloc (.cells #[.bool nf, .slice af lf cf] 24)) (w.heap.size + 1 + 1 + 1 + 1 + 1 + 1) (by first | rfl | simp) nk ak lk ck
  have cTk0 := Tk.cells.1
  have cTk1 := Tk.cells.2
  have zTk := Tk.lt
  (with_reducible refine (sane_any _ (by exact ht)).mono ?_)
  rintro e w1 ⟨rfl, b1⟩
  replace U0 := U0.trans (b1.mono U0.size)
  replace ht := ht.below b1
  replace sa := sa.below b1
  replace sb := sb.below b1
  replace sc := sc.below b1
  replace sd := sd.below b1
  replace se := se.below b1
  replace sf := sf.below b1
  replace sk := sk.below b1
  replace Ta := Ta.below b1
  replace Tb := Tb.below b1
  replace Tc := Tc.below b1
  replace Td := Td.below b1
  replace Te := Te.below b1
  replace Tf := Tf.below b1
  replace Tk := Tk.below b1
  replace cTa0 := Ta.cells.1
  replace cTa1 := Ta.cells.2
  replace zTa := Ta.lt
  replace cTb0 := Tb.cells.1
  replace cTb1 := Tb.cells.2
  replace zTb := Tb.lt
  replace cTc0 := Tc.cells.1
  replace cTc1 := Tc.cells.2
  replace zTc := Tc.lt
  replace cTd0 := Td.cells.1
  replace cTd1 := Td.cells.2
  replace zTd := Td.lt
  replace cTe0 := Te.cells.1
  replace cTe1 := Te.cells.2
  replace zTe := Te.lt
  replace cTf0 := Tf.cells.1
  replace cTf1 := Tf.cells.2
  replace zTf := Tf.lt
  replace cTk0 := Tk.cells.1
  replace cTk1 := Tk.cells.2
  replace zTk := Tk.lt
  clear b1
  clear ht
  go_wp2_with fail
  replace U0 := U0.alloc U0.size (.cells #[.bool na, .slice aa la ca, .bool nb, .slice ab lb cb, .bool nc, .slice ac lc cc, .bool nd, .slice ad ld cd, .bool ne, .slice ae le ce, .bool nf, .slice af lf cf, .bool nk, .slice ak lk ck] 24)
  replace sa := sa.alloc (.cells #[.bool na, .slice aa la ca, .bool nb, .slice ab lb cb, .bool nc, .slice ac lc cc, .bool nd, .slice ad ld cd, .bool ne, .slice ae le ce, .bool nf, .slice af lf cf, .bool nk, .slice ak lk ck] 24)
  replace sb := sb.alloc (.cells #[.bool na, .slice aa la ca, .bool nb, .slice ab lb cb, .bool nc, .slice ac lc cc, .bool nd, .slice ad ld cd, .bool ne, .slice ae le ce, .bool nf, .slice af lf cf, .bool nk, .slice ak lk ck] 24)
  replace sc := sc.alloc (.cells #[.bool na, .slice aa la ca, .bool nb, .slice ab lb cb, .bool nc, .slice ac lc cc, .bool nd, .slice ad ld cd, .bool ne, .slice ae le ce, .bool nf, .slice af lf cf, .bool nk, .slice ak lk ck] 24)
  replace sd := sd.alloc (.cells #[.bool na, .slice aa la ca, .bool nb, .slice ab lb cb, .bool nc, .slice ac lc cc, .bool nd, .slice ad ld cd, .bool ne, .slice ae le ce, .bool nf, .slice af lf cf, .bool nk, .slice ak lk ck] 24)
  replace se := se.alloc (.cells #[.bool na, .slice aa la ca, .bool nb, .slice ab lb cb, .bool nc, .slice ac lc cc, .bool nd, .slice ad ld cd, .bool ne, .slice ae le ce, .bool nf, .slice af lf cf, .bool nk, .slice ak lk ck] 24)
  replace sf := sf.alloc (.cells #[.bool na, .slice aa la ca, .bool nb, .slice ab lb cb, .bool nc, .slice ac lc cc, .bool nd, .slice ad ld cd, .bool ne, .slice ae le ce, .bool nf, .slice af lf cf, .bool nk, .slice ak lk ck] 24)
  replace sk := sk.alloc (.cells #[.bool na, .slice aa la ca, .bool nb, .slice ab lb cb, .bool nc, .slice ac lc cc, .bool nd, .slice ad ld cd, .bool ne, .slice ae le ce, .bool nf, .slice af lf cf, .bool nk, .slice ak lk ck] 24)
  replace Ta := Ta.alloc (.cells #[.bool na, .slice aa la ca, .bool nb, .slice ab lb cb, .bool nc, .slice ac lc cc, .bool nd, .slice ad ld cd, .bool ne, .slice ae le ce, .bool nf, .slice af lf cf, .bool nk, .slice ak lk ck] 24)
  replace Tb := Tb.alloc (.cells #[.bool na, .slice aa la ca, .bool nb, .slice ab lb cb, .bool nc, .slice ac lc cc, .bool nd, .slice ad ld cd, .bool ne, .slice ae le ce, .bool nf, .slice af lf cf, .bool nk, .slice ak lk ck] 24)
  replace Tc := Tc.alloc (.cells #[.bool na, .slice aa la ca, .bool nb, .slice ab lb cb, .bool nc, .slice ac lc cc, .bool nd, .slice ad ld cd, .bool ne, .slice ae le ce, .bool nf, .slice af lf cf, .bool nk, .slice ak lk ck] 24)
  replace Td := Td.alloc (.cells #[.bool na, .slice aa la ca, .bool nb, .slice ab lb cb, .bool nc, .slice ac lc cc, .bool nd, .slice ad ld cd, .bool ne, .slice ae le ce, .bool nf, .slice af lf cf, .bool nk, .slice ak lk ck] 24)
  replace Te := Te.alloc (.cells #[.bool na, .slice aa la ca, .bool nb, .slice ab lb cb, .bool nc, .slice ac lc cc, .bool nd, .slice ad ld cd, .bool ne, .slice ae le ce, .bool nf, .slice af lf cf, .bool nk, .slice ak lk ck] 24)
  replace Tf := Tf.alloc (.cells #[.bool na, .slice aa la ca, .bool nb, .slice ab lb cb, .bool nc, .slice ac lc cc, .bool nd, .slice ad ld cd, .bool ne, .slice ae le ce, .bool nf, .slice af lf cf, .bool nk, .slice ak lk ck] 24)
  replace Tk := Tk.alloc (.cells #[.bool na, .slice aa la ca, .bool nb, .slice ab lb cb, .bool nc, .slice ac lc cc, .bool nd, .slice ad ld cd, .bool ne, .slice ae le ce, .bool nf, .slice af lf cf, .bool nk, .slice ak lk ck] 24)
  replace cTa0 := Ta.cells.1
  replace cTa1 := Ta.cells.2
  replace zTa := Ta.lt
  replace cTb0 := Tb.cells.1
  replace cTb1 := Tb.cells.2
  replace zTb := Tb.lt
  replace cTc0 := Tc.cells.1
  replace cTc1 := Tc.cells.2
  replace zTc := Tc.lt
  replace cTd0 := Td.cells.1
  replace cTd1 := Td.cells.2
  replace zTd := Td.lt
  replace cTe0 := Te.cells.1
  replace cTe1 := Te.cells.2
  replace zTe := Te.lt
  replace cTf0 := Tf.cells.1
  replace cTf1 := Tf.cells.2
  replace zTf := Tf.lt
  replace cTk0 := Tk.cells.1
  replace cTk1 := Tk.cells.2
  replace zTk := Tk.lt
  (with_reducible refine (Hr.out _ _ (heap_new _ _) (by exact sa) (by exact sb) (by exact sc) (by exact sd) (by exact se) (by exact sf) (by exact sk)).mono ?_)
  rintro e w2 ⟨rfl, b2⟩
  replace U0 := U0.trans (b2.mono U0.size)
  replace sa := sa.below b2
  replace sb := sb.below b2
  replace sc := sc.below b2
  replace sd := sd.below b2
  replace se := se.below b2
  replace sf := sf.below b2
  replace sk := sk.below b2
  replace Ta := Ta.below b2
  replace Tb := Tb.below b2
  replace Tc := Tc.below b2
  replace Td := Td.below b2
  replace Te := Te.below b2
  replace Tf := Tf.below b2
  replace Tk := Tk.below b2
  replace cTa0 := Ta.cells.1
  replace cTa1 := Ta.cells.2
  replace zTa := Ta.lt
  replace cTb0 := Tb.cells.1
  replace cTb1 := Tb.cells.2
  replace zTb := Tb.lt
  replace cTc0 := Tc.cells.1
  replace cTc1 := Tc.cells.2
  replace zTc := Tc.lt
  replace cTd0 := Td.cells.1
  replace cTd1 := Td.cells.2
  replace zTd := Td.lt
  replace cTe0 := Te.cells.1
  replace cTe1 := Te.cells.2
  replace zTe := Te.lt
  replace cTf0 := Tf.cells.1
  replace cTf1 := Tf.cells.2
  replace zTf := Tf.lt
  replace cTk0 := Tk.cells.1
  replace cTk1 := Tk.cells.2
  replace zTk := Tk.lt
  clear b2
  go_wp2_with fail
  (with_reducible refine (Sb.out _ _ _ _ (by exact sb)).mono ?_)
  rintro e w3 ⟨rfl, b3⟩
  replace U0 := U0.trans (b3.mono U0.size)
  replace sa := sa.below b3
  replace sb := sb.below b3
  replace sc := sc.below b3
  replace sd := sd.below b3
  replace se := se.below b3
  replace sf := sf.below b3
  replace sk := sk.below b3
  replace Ta := Ta.below b3
  replace Tb := Tb.below b3
  replace Tc := Tc.below b3
  replace Td := Td.below b3
  replace Te := Te.below b3
  replace Tf := Tf.below b3
  replace Tk := Tk.below b3
  replace cTa0 := Ta.cells.1
  replace cTa1 := Ta.cells.2
  replace zTa := Ta.lt
  replace cTb0 := Tb.cells.1
  replace cTb1 := Tb.cells.2
  replace zTb := Tb.lt
  replace cTc0 := Tc.cells.1
  replace cTc1 := Tc.cells.2
  replace zTc := Tc.lt
  replace cTd0 := Td.cells.1
  replace cTd1 := Td.cells.2
  replace zTd := Td.lt
  replace cTe0 := Te.cells.1
  replace cTe1 := Te.cells.2
  replace zTe := Te.lt
  replace cTf0 := Tf.cells.1
  replace cTf1 := Tf.cells.2
  replace zTf := Tf.lt
  replace cTk0 := Tk.cells.1
  replace cTk1 := Tk.cells.2
  replace zTk := Tk.lt
  clear b3
  go_wp2_with fail
  (with_reducible refine (Sd.out _ _ _ _ (by exact sd)).mono ?_)
  rintro e w4 ⟨rfl, b4⟩
  replace U0 := U0.trans (b4.mono U0.size)
  replace sa := sa.below b4
  replace sb := sb.below b4
  replace sc := sc.below b4
  replace sd := sd.below b4
  replace se := se.below b4
  replace sf := sf.below b4
  replace sk := sk.below b4
  replace Ta := Ta.below b4
  replace Tb := Tb.below b4
  replace Tc := Tc.below b4
  replace Td := Td.below b4
  replace Te := Te.below b4
  replace Tf := Tf.below b4
  replace Tk := Tk.below b4
  replace cTa0 := Ta.cells.1
  replace cTa1 := Ta.cells.2
  replace zTa := Ta.lt
  replace cTb0 := Tb.cells.1
  replace cTb1 := Tb.cells.2
  replace zTb := Tb.lt
  replace cTc0 := Tc.cells.1
  replace cTc1 := Tc.cells.2
  replace zTc := Tc.lt
  replace cTd0 := Td.cells.1
  replace cTd1 := Td.cells.2
  replace zTd := Td.lt
  replace cTe0 := Te.cells.1
  replace cTe1 := Te.cells.2
  replace zTe := Te.lt
  replace cTf0 := Tf.cells.1
  replace cTf1 := Tf.cells.2
  replace zTf := Tf.lt
  replace cTk0 := Tk.cells.1
  replace cTk1 := Tk.cells.2
  replace zTk := Tk.lt
  clear b4
  go_wp2
  go_ret
  exact ⟨rfl, U0⟩

set_option maxRecDepth 100000 in
set_option maxHeartbeats 16000000 in
theorem frac_nof (na : Bool) (aa : Option Addr) (la ca : Nat) (xa : List Int) (nb : Bool) (ab : Option Addr) (lb cb : Nat) (xb : List Int) (nc : Bool) (ac : Option Addr) (lc cc : Nat) (xc : List Int) (nd : Bool) (ad : Option Addr) (ld cd : Nat) (xd : List Int) (ne : Bool) (ae : Option Addr) (le ce : Nat) (xe : List Int) (nf : Bool) (af : Option Addr) (lf cf : Nat) (xf : List Int) (nk : Bool) (ak : Option Addr) (lk ck : Nat) (xk : List Int) (w : World) (ht : Tab w) (sa : Sl w aa la ca xa) (sb : Sl w ab lb cb xb) (sc : Sl w ac lc cc xc) (sd : Sl w ad ld cd xd) (se : Sl w ae le ce xe) (sf : Sl w af lf cf xf) (sk : Sl w ak lk ck xk) (zb : Int) (Nb : Num zb nb xb) (vb : Int) (hb : cmp3 zb 0 = vb) (qb : decide (vb ≤ 0) = false) (zd : Int) (Nd : Num zd nd xd) (vd : Int) (hd : cmp3 zd 0 = vd) (qd : decide (vd ≤ 0) = false) (zf : Int) (Nf : Num zf nf xf) (vf : Int) (hf : cmp3 zf 0 = vf) (qf : decide (vf ≤ 0) = true) (hr : (!(wrong ⟨na, aa, la, ca, xa⟩ || (wrong ⟨nb, ab, lb, cb, xb⟩ || (wrong ⟨nc, ac, lc, cc, xc⟩ || (wrong ⟨nd, ad, ld, cd, xd⟩ || (wrong ⟨ne, ae, le, ce, xe⟩ || (wrong ⟨nf, af, lf, cf, xf⟩ || wrong ⟨nk, ak, lk, ck, xk⟩))))))) = true) : Calls Tryz.prog 13 #[.agg #[.bool na, .slice aa la ca], .agg #[.bool nb, .slice ab lb cb], .agg #[.bool nc, .slice ac lc cc], .agg #[.bool nd, .slice ad ld cd], .agg #[.bool ne, .slice ae le ce], .agg #[.bool nf, .slice af lf cf], .agg #[.bool nk, .slice ak lk ck]] w (RetBool true w) := by
  have Hr := Lib.hid (fun w g hg h1 h2 h3 h4 h5 h6 h7 => right7 na aa la ca xa nb ab lb cb xb nc ac lc cc xc nd ad ld cd xd ne ae le ce xe nf af lf cf xf nk ak lk ck xk w g hg h1 h2 h3 h4 h5 h6 h7 true hr)
  have Sb := Lib.hid (fun ao len cap w hs => signQ Nb hb ao len cap w hs)
  have Sd := Lib.hid (fun ao len cap w hs => signQ Nd hd ao len cap w hs)
  have Sf := Lib.hid (fun ao len cap w hs => signQ Nf hf ao len cap w hs)
  clear hr hb Nb hd Nd hf Nf
  go_enter Tryz.func13, Tryz.ntmps13
  have U0 := Below.refl w.heap.size w
  go_wp2_with fail
  replace U0 := U0.alloc U0.size (.cells #[.bool na, .slice aa la ca] 24)
  replace ht := ht.alloc (.cells #[.bool na, .slice aa la ca] 24)
  replace sa := sa.alloc (.cells #[.bool na, .slice aa la ca] 24)
  replace sb := sb.alloc (.cells #[.bool na, .slice aa la ca] 24)
  replace sc := sc.alloc (.cells #[.bool na, .slice aa la ca] 24)
  replace sd := sd.alloc (.cells #[.bool na, .slice aa la ca] 24)
  replace se := se.alloc (.cells #[.bool na, .slice aa la ca] 24)
  replace sf := sf.alloc (.cells #[.bool na, .slice aa la ca] 24)
  replace sk := sk.alloc (.cells #[.bool na, .slice aa la ca] 24)
  have Ta := BoxI.new w (w.heap.size) (by first | rfl | simp) na aa la ca
  have cTa0 := Ta.cells.1
  have cTa1 := Ta.cells.2
  have zTa := Ta.lt
  replace U0 := U0.alloc U0.size (.cells #[.bool nb, .slice ab lb cb] 24)
  replace ht := ht.alloc (.cells #[.bool nb, .slice ab lb cb] 24)
  replace sa := sa.alloc (.cells #[.bool nb, .slice ab lb cb] 24)
  replace sb := sb.alloc (.cells #[.bool nb, .slice ab lb cb] 24)
  replace sc := sc.alloc (.cells #[.bool nb, .slice ab lb cb] 24)
  replace sd := sd.alloc (.cells #[.bool nb, .slice ab lb cb] 24)
  replace se := se.alloc (.cells #[.bool nb, .slice ab lb cb] 24)
  replace sf := sf.alloc (.cells #[.bool nb, .slice ab lb cb] 24)
  replace sk := sk.alloc (.cells #[.bool nb, .slice ab lb cb] 24)
  replace Ta := Ta.alloc (.cells #[.bool nb, .slice ab lb cb] 24)
  replace cTa0 := Ta.cells.1
  replace cTa1 := Ta.cells.2
  replace zTa := Ta.lt
  have Tb := BoxI.new (w.alloc (.cells #[.bool na, .slice aa la ca] 24)) (w.heap.size + 1) (by first | rfl | simp) nb ab lb cb
  have cTb0 := Tb.cells.1
  have cTb1 := Tb.cells.2
  have zTb := Tb.lt
  replace U0 := U0.alloc U0.size (.cells #[.bool nc, .slice ac lc cc] 24)
  replace ht := ht.alloc (.cells #[.bool nc, .slice ac lc cc] 24)
  replace sa := sa.alloc (.cells #[.bool nc, .slice ac lc cc] 24)
  replace sb := sb.alloc (.cells #[.bool nc, .slice ac lc cc] 24)
  replace sc := sc.alloc (.cells #[.bool nc, .slice ac lc cc] 24)
  replace sd := sd.alloc (.cells #[.bool nc, .slice ac lc cc] 24)
  replace se := se.alloc (.cells #[.bool nc, .slice ac lc cc] 24)
  replace sf := sf.alloc (.cells #[.bool nc, .slice ac lc cc] 24)
  replace sk := sk.alloc (.cells #[.bool nc, .slice ac lc cc] 24)
  replace Ta := Ta.alloc (.cells #[.bool nc, .slice ac lc cc] 24)
  replace Tb := Tb.alloc (.cells #[.bool nc, .slice ac lc cc] 24)
  replace cTa0 := Ta.cells.1
  replace cTa1 := Ta.cells.2
  replace zTa := Ta.lt
  replace cTb0 := Tb.cells.1
  replace cTb1 := Tb.cells.2
  replace zTb := Tb.lt
  have Tc := BoxI.new ((w.alloc (.cells #[.bool na, .slice aa la ca] 24)).alloc (.cells #[.bool nb, .slice ab lb cb] 24)) (w.heap.size + 1 + 1) (by first | rfl | simp) nc ac lc cc
  have cTc0 := Tc.cells.1
  have cTc1 := Tc.cells.2
  have zTc := Tc.lt
  replace U0 := U0.alloc U0.size (.cells #[.bool nd, .slice ad ld cd] 24)
  replace ht := ht.alloc (.cells #[.bool nd, .slice ad ld cd] 24)
  replace sa := sa.alloc (.cells #[.bool nd, .slice ad ld cd] 24)
  replace sb := sb.alloc (.cells #[.bool nd, .slice ad ld cd] 24)
  replace sc := sc.alloc (.cells #[.bool nd, .slice ad ld cd] 24)
  replace sd := sd.alloc (.cells #[.bool nd, .slice ad ld cd] 24)
  replace se := se.alloc (.cells #[.bool nd, .slice ad ld cd] 24)
  replace sf := sf.alloc (.cells #[.bool nd, .slice ad ld cd] 24)
  replace sk := sk.alloc (.cells #[.bool nd, .slice ad ld cd] 24)
  replace Ta := Ta.alloc (.cells #[.bool nd, .slice ad ld cd] 24)
  replace Tb := Tb.alloc (.cells #[.bool nd, .slice ad ld cd] 24)
  replace Tc := Tc.alloc (.cells #[.bool nd, .slice ad ld cd] 24)
  replace cTa0 := Ta.cells.1
  replace cTa1 := Ta.cells.2
  replace zTa := Ta.lt
  replace cTb0 := Tb.cells.1
  replace cTb1 := Tb.cells.2
  replace zTb := Tb.lt
  replace cTc0 := Tc.cells.1
  replace cTc1 := Tc.cells.2
  replace zTc := Tc.lt
  have Td := BoxI.new (((w.alloc (.cells #[.bool na, .slice aa la ca] 24)).alloc (.cells #[.bool nb, .slice ab lb cb] 24)).alloc (.cells #[.bool nc, .slice ac lc cc] 24)) (w.heap.size + 1 + 1 + 1) (by first | rfl | simp) nd ad ld cd
  have cTd0 := Td.cells.1
  have cTd1 := Td.cells.2
  have zTd := Td.lt
  replace U0 := U0.alloc U0.size (.cells #[.bool ne, .slice ae le ce] 24)
  replace ht := ht.alloc (.cells #[.bool ne, .slice ae le ce] 24)
  replace sa := sa.alloc (.cells #[.bool ne, .slice ae le ce] 24)
  replace sb := sb.alloc (.cells #[.bool ne, .slice ae le ce] 24)
  replace sc := sc.alloc (.cells #[.bool ne, .slice ae le ce] 24)
  replace sd := sd.alloc (.cells #[.bool ne, .slice ae le ce] 24)
  replace se := se.alloc (.cells #[.bool ne, .slice ae le ce] 24)
  replace sf := sf.alloc (.cells #[.bool ne, .slice ae le ce] 24)
  replace sk := sk.alloc (.cells #[.bool ne, .slice ae le ce] 24)
  replace Ta := Ta.alloc (.cells #[.bool ne, .slice ae le ce] 24)
  replace Tb := Tb.alloc (.cells #[.bool ne, .slice ae le ce] 24)
  replace Tc := Tc.alloc (.cells #[.bool ne, .slice ae le ce] 24)
  replace Td := Td.alloc (.cells #[.bool ne, .slice ae le ce] 24)
  replace cTa0 := Ta.cells.1
  replace cTa1 := Ta.cells.2
  replace zTa := Ta.lt
  replace cTb0 := Tb.cells.1
  replace cTb1 := Tb.cells.2
  replace zTb := Tb.lt
  replace cTc0 := Tc.cells.1
  replace cTc1 := Tc.cells.2
  replace zTc := Tc.lt
  replace cTd0 := Td.cells.1
  replace cTd1 := Td.cells.2
  replace zTd := Td.lt
  have Te := BoxI.new ((((w.alloc (.cells #[.bool na, .slice aa la ca] 24)).alloc (.cells #[.bool nb, .slice ab lb cb] 24)).alloc (.cells #[.bool nc, .slice ac lc cc] 24)).alloc (.cells #[.bool nd, .slice ad ld cd] 24)) (w.heap.size + 1 + 1 + 1 + 1) (by first | rfl | simp) ne ae le ce
  have cTe0 := Te.cells.1
  have cTe1 := Te.cells.2
  have zTe := Te.lt
  replace U0 := U0.alloc U0.size (.cells #[.bool nf, .slice af lf cf] 24)
  replace ht := ht.alloc (.cells #[.bool nf, .slice af lf cf] 24)
  replace sa := sa.alloc (.cells #[.bool nf, .slice af lf cf] 24)
  replace sb := sb.alloc (.cells #[.bool nf, .slice af lf cf] 24)
  replace sc := sc.alloc (.cells #[.bool nf, .slice af lf cf] 24)
  replace sd := sd.alloc (.cells #[.bool nf, .slice af lf cf] 24)
  replace se := se.alloc (.cells #[.bool nf, .slice af lf cf] 24)
  replace sf := sf.alloc (.cells #[.bool nf, .slice af lf cf] 24)
  replace sk := sk.alloc (.cells #[.bool nf, .slice af lf cf] 24)
  replace Ta := Ta.alloc (.cells #[.bool nf, .slice af lf cf] 24)
  replace Tb := Tb.alloc (.cells #[.bool nf, .slice af lf cf] 24)
  replace Tc := Tc.alloc (.cells #[.bool nf, .slice af lf cf] 24)
  replace Td := Td.alloc (.cells #[.bool nf, .slice af lf cf] 24)
  replace Te := Te.alloc (.cells #[.bool nf, .slice af lf cf] 24)
  replace cTa0 := Ta.cells.1
  replace cTa1 := Ta.cells.2
  replace zTa := Ta.lt
  replace cTb0 := Tb.cells.1
  replace cTb1 := Tb.cells.2
  replace zTb := Tb.lt
  replace cTc0 := Tc.cells.1
  replace cTc1 := Tc.cells.2
  replace zTc := Tc.lt
  replace cTd0 := Td.cells.1
  replace cTd1 := Td.cells.2
  replace zTd := Td.lt
  replace cTe0 := Te.cells.1
  replace cTe1 := Te.cells.2
  replace zTe := Te.lt
  have Tf := BoxI.new (((((w.alloc (.cells #[.bool na, .slice aa la ca] 24)).alloc (.cells #[.bool nb, .slice ab lb cb] 24)).alloc (.cells #[.bool nc, .slice ac lc cc] 24)).alloc (.cells #[.bool nd, .slice ad ld cd] 24)).alloc (.cells #[.bool ne, .slice ae le ce] 24)) (w.heap.size + 1 + 1 + 1 + 1 + 1) (by first | rfl | simp) nf af lf cf
  have cTf0 := Tf.cells.1
  have cTf1 := Tf.cells.2
  have zTf := Tf.lt
  replace U0 := U0.alloc U0.size (.cells #[.bool nk, .slice ak lk ck] 24)
  replace ht := ht.alloc (.cells #[.bool nk, .slice ak lk ck] 24)
  replace sa := sa.alloc (.cells #[.bool nk, .slice ak lk ck] 24)
  replace sb := sb.alloc (.cells #[.bool nk, .slice ak lk ck] 24)
  replace sc := sc.alloc (.cells #[.bool nk, .slice ak lk ck] 24)
  replace sd := sd.alloc (.cells #[.bool nk, .slice ak lk ck] 24)
  replace se := se.alloc (.cells #[.bool nk, .slice ak lk ck] 24)
  replace sf := sf.alloc (.cells #[.bool nk, .slice ak lk ck] 24)
  replace sk := sk.alloc (.cells #[.bool nk, .slice ak lk ck] 24)
  replace Ta := Ta.alloc (.cells #[.bool nk, .slice ak lk ck] 24)
  replace Tb := Tb.alloc (.cells #[.bool nk, .slice ak lk ck] 24)
  replace Tc := Tc.alloc (.cells #[.bool nk, .slice ak lk ck] 24)
  replace Td := Td.alloc (.cells #[.bool nk, .slice ak lk ck] 24)
  replace Te := Te.alloc (.cells #[.bool nk, .slice ak lk ck] 24)
  replace Tf := Tf.alloc (.cells #[.bool nk, .slice ak lk ck] 24)
  replace cTa0 := Ta.cells.1
  replace cTa1 := Ta.cells.2
  replace zTa := Ta.lt
  replace cTb0 := Tb.cells.1
  replace cTb1 := Tb.cells.2
  replace zTb := Tb.lt
  replace cTc0 := Tc.cells.1
  replace cTc1 := Tc.cells.2
  replace zTc := Tc.lt
  replace cTd0 := Td.cells.1
  replace cTd1 := Td.cells.2
  replace zTd := Td.lt
  replace cTe0 := Te.cells.1
  replace cTe1 := Te.cells.2
  replace zTe := Te.lt
  replace cTf0 := Tf.cells.1
  replace cTf1 := Tf.cells.2
  replace zTf := Tf.lt
  have Tk := BoxI.new ((((((w.alloc (.cells #[.bool na, .slice aa la ca] 24)).alloc (.cells #[.bool nb, .slice ab lb cb] 24)).alloc (.cells #[.bool nc, .slice ac lc cc] 24)).alloc (.cells #[.bool nd, .slice ad ld cd] 24)).alloc (.cells #[.bool ne, .slice ae le ce] 24)).alloc (.cells #[.bool nf, .slice af lf cf] 24)) (w.heap.size + 1 + 1 + 1 + 1 + 1 + 1) (by first | rfl | simp) nk ak lk ck
  have cTk0 := Tk.cells.1
  have cTk1 := Tk.cells.2
  have zTk := Tk.lt
  (with_reducible refine (sane_any _ (by exact ht)).mono ?_)
  rintro e w1 ⟨rfl, b1⟩
  replace U0 := U0.trans (b1.mono U0.size)
  replace ht := ht.below b1
  replace sa := sa.below b1
  replace sb := sb.below b1
  replace sc := sc.below b1
  replace sd := sd.below b1
  replace se := se.below b1
  replace sf := sf.below b1
  replace sk := sk.below b1
  replace Ta := Ta.below b1
  replace Tb := Tb.below b1
  replace Tc := Tc.below b1
  replace Td := Td.below b1
  replace Te := Te.below b1
  replace Tf := Tf.below b1
  replace Tk := Tk.below b1
  replace cTa0 := Ta.cells.1
  replace cTa1 := Ta.cells.2
  replace zTa := Ta.lt
  replace cTb0 := Tb.cells.1
  replace cTb1 := Tb.cells.2
  replace zTb := Tb.lt
  replace cTc0 := Tc.cells.1
  replace cTc1 := Tc.cells.2
  replace zTc := Tc.lt
  replace cTd0 := Td.cells.1
  replace cTd1 := Td.cells.2
  replace zTd := Td.lt
  replace cTe0 := Te.cells.1
  replace cTe1 := Te.cells.2
  replace zTe := Te.lt
  replace cTf0 := Tf.cells.1
  replace cTf1 := Tf.cells.2
  replace zTf := Tf.lt
  replace cTk0 := Tk.cells.1
  replace cTk1 := Tk.cells.2
  replace zTk := Tk.lt
  clear b1
  clear ht
  go_wp2_with fail
  replace U0 := U0.alloc U0.size (.cells #[.bool na, .slice aa la ca, .bool nb, .slice ab lb cb, .bool nc, .slice ac lc cc, .bool nd, .slice ad ld cd, .bool ne, .slice ae le ce, .bool nf, .slice af lf cf, .bool nk, .slice ak lk ck] 24)
  replace sa := sa.alloc (.cells #[.bool na, .slice aa la ca, .bool nb, .slice ab lb cb, .bool nc, .slice ac lc cc, .bool nd, .slice ad ld cd, .bool ne, .slice ae le ce, .bool nf, .slice af lf cf, .bool nk, .slice ak lk ck] 24)
  replace sb := sb.alloc (.cells #[.bool na, .slice aa la ca, .bool nb, .slice ab lb cb, .bool nc, .slice ac lc cc, .bool nd, .slice ad ld cd, .bool ne, .slice ae le ce, .bool nf, .slice af lf cf, .bool nk, .slice ak lk ck] 24)
  replace sc := sc.alloc (.cells #[.bool na, .slice aa la ca, .bool nb, .slice ab lb cb, .bool nc, .slice ac lc cc, .bool nd, .slice ad ld cd, .bool ne, .slice ae le ce, .bool nf, .slice af lf cf, .bool nk, .slice ak lk ck] 24)
  replace sd := sd.alloc (.cells #[.bool na, .slice aa la ca, .bool nb, .slice ab lb cb, .bool nc, .slice ac lc cc, .bool nd, .slice ad ld cd, .bool ne, .slice ae le ce, .bool nf, .slice af lf cf, .bool nk, .slice ak lk ck] 24)
  replace se := se.alloc (.cells #[.bool na, .slice aa la ca, .bool nb, .slice ab lb cb, .bool nc, .slice ac lc cc, .bool nd, .slice ad ld cd, .bool ne, .slice ae le ce, .bool nf, .slice af lf cf, .bool nk, .slice ak lk ck] 24)
  replace sf := sf.alloc (.cells #[.bool na, .slice aa la ca, .bool nb, .slice ab lb cb, .bool nc, .slice ac lc cc, .bool nd, .slice ad ld cd, .bool ne, .slice ae le ce, .bool nf, .slice af lf cf, .bool nk, .slice ak lk ck] 24)
  replace sk := sk.alloc (.cells #[.bool na, .slice aa la ca, .bool nb, .slice ab lb cb, .bool nc, .slice ac lc cc, .bool nd, .slice ad ld cd, .bool ne, .slice ae le ce, .bool nf, .slice af lf cf, .bool nk, .slice ak lk ck] 24)
  replace Ta := Ta.alloc (.cells #[.bool na, .slice aa la ca, .bool nb, .slice ab lb cb, .bool nc, .slice ac lc cc, .bool nd, .slice ad ld cd, .bool ne, .slice ae le ce, .bool nf, .slice af lf cf, .bool nk, .slice ak lk ck] 24)
  replace Tb := Tb.alloc (.cells #[.bool na, .slice aa la ca, .bool nb, .slice ab lb cb, .bool nc, .slice ac lc cc, .bool nd, .slice ad ld cd, .bool ne, .slice ae le ce, .bool nf, .slice af lf cf, .bool nk, .slice ak lk ck] 24)
  replace Tc := Tc.alloc (.cells #[.bool na, .slice aa la ca, .bool nb, .slice ab lb cb, .bool nc, .slice ac lc cc, .bool nd, .slice ad ld cd, .bool ne, .slice ae le ce, .bool nf, .slice af lf cf, .bool nk, .slice ak lk ck] 24)
  replace Td := Td.alloc (.cells #[.bool na, .slice aa la ca, .bool nb, .slice ab lb cb, .bool nc, .slice ac lc cc, .bool nd, .slice ad ld cd, .bool ne, .slice ae le ce, .bool nf, .slice af lf cf, .bool nk, .slice ak lk ck] 24)
  replace Te := Te.alloc (.cells #[.bool na, .slice aa la ca, .bool nb, .slice ab lb cb, .bool nc, .slice ac lc cc, .bool nd, .slice ad ld cd, .bool ne, .slice ae le ce, .bool nf, .slice af lf cf, .bool nk, .slice ak lk ck] 24)
  replace Tf := Tf.alloc (.cells #[.bool na, .slice aa la ca, .bool nb, .slice ab lb cb, .bool nc, .slice ac lc cc, .bool nd, .slice ad ld cd, .bool ne, .slice ae le ce, .bool nf, .slice af lf cf, .bool nk, .slice ak lk ck] 24)
  replace Tk := Tk.alloc (.cells #[.bool na, .slice aa la ca, .bool nb, .slice ab lb cb, .bool nc, .slice ac lc cc, .bool nd, .slice ad ld cd, .bool ne, .slice ae le ce, .bool nf, .slice af lf cf, .bool nk, .slice ak lk ck] 24)
  replace cTa0 := Ta.cells.1
  replace cTa1 := Ta.cells.2
  replace zTa := Ta.lt
  replace cTb0 := Tb.cells.1
  replace cTb1 := Tb.cells.2
  replace zTb := Tb.lt
  replace cTc0 := Tc.cells.1
  replace cTc1 := Tc.cells.2
  replace zTc := Tc.lt
  replace cTd0 := Td.cells.1
  replace cTd1 := Td.cells.2
  replace zTd := Td.lt
  replace cTe0 := Te.cells.1
  replace cTe1 := Te.cells.2
  replace zTe := Te.lt
  replace cTf0 := Tf.cells.1
  replace cTf1 := Tf.cells.2
  replace zTf := Tf.lt
  replace cTk0 := Tk.cells.1
  replace cTk1 := Tk.cells.2
  replace zTk := Tk.lt
  (with_reducible refine (Hr.out _ _ (heap_new _ _) (by exact sa) (by exact sb) (by exact sc) (by exact sd) (by exact se) (by exact sf) (by exact sk)).mono ?_)
  rintro e w2 ⟨rfl, b2⟩
  replace U0 := U0.trans (b2.mono U0.size)
  replace sa := sa.below b2
  replace sb := sb.below b2
  replace sc := sc.below b2
  replace sd := sd.below b2
  replace se := se.below b2
  replace sf := sf.below b2
  replace sk := sk.below b2
  replace Ta := Ta.below b2
  replace Tb := Tb.below b2
  replace Tc := Tc.below b2
  replace Td := Td.below b2
  replace Te := Te.below b2
  replace Tf := Tf.below b2
  replace Tk := Tk.below b2
  replace cTa0 := Ta.cells.1
  replace cTa1 := Ta.cells.2
  replace zTa := Ta.lt
  replace cTb0 := Tb.cells.1
  replace cTb1 := Tb.cells.2
  replace zTb := Tb.lt
  replace cTc0 := Tc.cells.1
  replace cTc1 := Tc.cells.2
  replace zTc := Tc.lt
  replace cTd0 := Td.cells.1
  replace cTd1 := Td.cells.2
  replace zTd := Td.lt
  replace cTe0 := Te.cells.1
  replace cTe1 := Te.cells.2
  replace zTe := Te.lt
  replace cTf0 := Tf.cells.1
  replace cTf1 := Tf.cells.2
  replace zTf := Tf.lt
  replace cTk0 := Tk.cells.1
  replace cTk1 := Tk.cells.2
  replace zTk := Tk.lt
  clear b2
  go_wp2_with fail
  (with_reducible refine (Sb.out _ _ _ _ (by exact sb)).mono ?_)
  rintro e w3 ⟨rfl, b3⟩
  replace U0 := U0.trans (b3.mono U0.size)
  replace sa := sa.below b3
  replace sb := sb.below b3
  replace sc := sc.below b3
  replace sd := sd.below b3
  replace se := se.below b3
  replace sf := sf.below b3
  replace sk := sk.below b3
  replace Ta := Ta.below b3
  replace Tb := Tb.below b3
  replace Tc := Tc.below b3
  replace Td := Td.below b3
  replace Te := Te.below b3
  replace Tf := Tf.below b3
  replace Tk := Tk.below b3
  replace cTa0 := Ta.cells.1
  replace cTa1 := Ta.cells.2
  replace zTa := Ta.lt
  replace cTb0 := Tb.cells.1
  replace cTb1 := Tb.cells.2
  replace zTb := Tb.lt
  replace cTc0 := Tc.cells.1
  replace cTc1 := Tc.cells.2
  replace zTc := Tc.lt
  replace cTd0 := Td.cells.1
  replace cTd1 := Td.cells.2
  replace zTd := Td.lt
  replace cTe0 := Te.cells.1
  replace cTe1 := Te.cells.2
  replace zTe := Te.lt
  replace cTf0 := Tf.cells.1
  replace cTf1 := Tf.cells.2
  replace zTf := Tf.lt
  replace cTk0 := Tk.cells.1
  replace cTk1 := Tk.cells.2
  replace zTk := Tk.lt
  clear b3
  go_wp2_with fail
  (with_reducible refine (Sd.out _ _ _ _ (by exact sd)).mono ?_)
  rintro e w4 ⟨rfl, b4⟩
  replace U0 := U0.trans (b4.mono U0.size)
  replace sa := sa.below b4
  replace sb := sb.below b4
  replace sc := sc.below b4
  replace sd := sd.below b4
  replace se := se.below b4
  replace sf := sf.below b4
  replace sk := sk.below b4
  replace Ta := Ta.below b4
  replace Tb := Tb.below b4
  replace Tc := Tc.below b4
  replace Td := Td.below b4
  replace Te := Te.below b4
  replace Tf := Tf.below b4
  replace Tk := Tk.below b4
  replace cTa0 := Ta.cells.1
  replace cTa1 := Ta.cells.2
  replace zTa := Ta.lt
  replace cTb0 := Tb.cells.1
  replace cTb1 := Tb.cells.2
  replace zTb := Tb.lt
  replace cTc0 := Tc.cells.1
  replace cTc1 := Tc.cells.2
  replace zTc := Tc.lt
  replace cTd0 := Td.cells.1
  replace cTd1 := Td.cells.2
  replace zTd := Td.lt
  replace cTe0 := Te.cells.1
  replace cTe1 := Te.cells.2
  replace zTe := Te.lt
  replace cTf0 := Tf.cells.1
  replace cTf1 := Tf.cells.2
  replace zTf := Tf.lt
  replace cTk0 := Tk.cells.1
  replace cTk1 := Tk.cells.2
  replace zTk := Tk.lt
  clear b4
  go_wp2_with fail
  (with_reducible refine (Sf.out _ _ _ _ (by exact sf)).mono ?_)
  rintro e w5 ⟨rfl, b5⟩
  replace U0 := U0.trans (b5.mono U0.size)
  replace sa := sa.below b5
  replace sb := sb.below b5
  replace sc := sc.below b5
  replace sd := sd.below b5
  replace se := se.below b5
  replace sf := sf.below b5
  replace sk := sk.below b5
  replace Ta := Ta.below b5
  replace Tb := Tb.below b5
  replace Tc := Tc.below b5
  replace Td := Td.below b5
  replace Te := Te.below b5
  replace Tf := Tf.below b5
  replace Tk := Tk.below b5
  replace cTa0 := Ta.cells.1
  replace cTa1 := Ta.cells.2
  replace zTa := Ta.lt
  replace cTb0 := Tb.cells.1
  replace cTb1 := Tb.cells.2
  replace zTb := Tb.lt
  replace cTc0 := Tc.cells.1
  replace cTc1 := Tc.cells.2
  replace zTc := Tc.lt
  replace cTd0 := Td.cells.1
  replace cTd1 := Td.cells.2
  replace zTd := Td.lt
  replace cTe0 := Te.cells.1
  replace cTe1 := Te.cells.2
  replace zTe := Te.lt
  replace cTf0 := Tf.cells.1
  replace cTf1 := Tf.cells.2
  replace zTf := Tf.lt
  replace cTk0 := Tk.cells.1
  replace cTk1 := Tk.cells.2
  replace zTk := Tk.lt
  clear b5
  go_wp2
  go_ret
  exact ⟨rfl, U0⟩

set_option maxRecDepth 100000 in
set_option maxHeartbeats 16000000 in
theorem frac_right (na : Bool) (aa : Option Addr) (la ca : Nat) (xa : List Int) (nb : Bool) (ab : Option Addr) (lb cb : Nat) (xb : List Int) (nc : Bool) (ac : Option Addr) (lc cc : Nat) (xc : List Int) (nd : Bool) (ad : Option Addr) (ld cd : Nat) (xd : List Int) (ne : Bool) (ae : Option Addr) (le ce : Nat) (xe : List Int) (nf : Bool) (af : Option Addr) (lf cf : Nat) (xf : List Int) (nk : Bool) (ak : Option Addr) (lk ck : Nat) (xk : List Int) (w : World) (ht : Tab w) (sa : Sl w aa la ca xa) (sb : Sl w ab lb cb xb) (sc : Sl w ac lc cc xc) (sd : Sl w ad ld cd xd) (se : Sl w ae le ce xe) (sf : Sl w af lf cf xf) (sk : Sl w ak lk ck xk) (za : Int) (Na : Num za na xa) (zb : Int) (Nb : Num zb nb xb) (zc : Int) (Nc : Num zc nc xc) (zd : Int) (Nd : Num zd nd xd) (ze : Int) (Ne : Num ze ne xe) (zf : Int) (Nf : Num zf nf xf) (zk : Int) (Nk : Num zk nk xk) (vb : Int) (hb : cmp3 zb 0 = vb) (qb : decide (vb ≤ 0) = false) (vd : Int) (hd : cmp3 zd 0 = vd) (qd : decide (vd ≤ 0) = false) (vf : Int) (hf : cmp3 zf 0 = vf) (qf : decide (vf ≤ 0) = false) (hr : (!(wrong ⟨na, aa, la, ca, xa⟩ || (wrong ⟨nb, ab, lb, cb, xb⟩ || (wrong ⟨nc, ac, lc, cc, xc⟩ || (wrong ⟨nd, ad, ld, cd, xd⟩ || (wrong ⟨ne, ae, le, ce, xe⟩ || (wrong ⟨nf, af, lf, cf, xf⟩ || wrong ⟨nk, ak, lk, ck, xk⟩))))))) = true) : Calls Tryz.prog 13 #[.agg #[.bool na, .slice aa la ca], .agg #[.bool nb, .slice ab lb cb], .agg #[.bool nc, .slice ac lc cc], .agg #[.bool nd, .slice ad ld cd], .agg #[.bool ne, .slice ae le ce], .agg #[.bool nf, .slice af lf cf], .agg #[.bool nk, .slice ak lk ck]] w (RetBool true w) := by
  have pb : 0 < zb := pos_of hb qb
  have pd : 0 < zd := pos_of hd qd
  have pf : 0 < zf := pos_of hf qf
  obtain ⟨x, hx⟩ : ∃ x, cmp3 (za * zd) (zc * zb) = x := ⟨_, rfl⟩
  obtain ⟨y, hy⟩ : ∃ y, cmp3 (zc * zb) (za * zd) = y := ⟨_, rfl⟩
  obtain ⟨z, hz⟩ : ∃ z, cmp3 (zc * zf) (ze * zd) = z := ⟨_, rfl⟩
  obtain ⟨v, hv⟩ : ∃ v, cmp3 (za * zf) (ze * zb) = v := ⟨_, rfl⟩
  obtain ⟨vk, hk⟩ : ∃ v, cmp3 zk 0 = v := ⟨_, rfl⟩
  have M9 := Lib.hid (frac_order pb pd pf hx hy hz hv)
  obtain ⟨p, ep, hp⟩ : ∃ v e, timesR (za, 0) (zk, 0) = (v, e) := ⟨_, _, rfl⟩
  have lp_ : Lim p := by have := timesR_lim (za, 0) (zk, 0); rw [hp] at this; exact this
  obtain ⟨np, xp, Np⟩ : ∃ n xs, Num p n xs := ⟨_, _, lp_, rfl, rfl⟩
  obtain ⟨q, eq, hq⟩ : ∃ v e, timesR (zb, 0) (zk, 0) = (v, e) := ⟨_, _, rfl⟩
  have lq_ : Lim q := by have := timesR_lim (zb, 0) (zk, 0); rw [hq] at this; exact this
  obtain ⟨nq, xq, Nq⟩ : ∃ n xs, Num q n xs := ⟨_, _, lq_, rfl, rfl⟩
  obtain ⟨nu, xu, Nu⟩ := quo_num Na pb
  obtain ⟨nv, xv, Nv⟩ := quo_num Nc pd
  obtain ⟨m, hm⟩ : ∃ m, cmp3 (flq za zb) (flq zc zd) = m := ⟨_, rfl⟩
  have MQ := Lib.hid (frac_quo pb pd hx hm)
  have Hr := Lib.hid (fun w g hg h1 h2 h3 h4 h5 h6 h7 => right7 na aa la ca xa nb ab lb cb xb nc ac lc cc xc nd ad ld cd xd ne ae le ce xe nf af lf cf xf nk ak lk ck xk w g hg h1 h2 h3 h4 h5 h6 h7 true hr)
  have Sb := Lib.hid (fun ao len cap w hs => signQ Nb hb ao len cap w hs)
  have Sd := Lib.hid (fun ao len cap w hs => signQ Nd hd ao len cap w hs)
  have Sf := Lib.hid (fun ao len cap w hs => signQ Nf hf ao len cap w hs)
  have Sk := Lib.hid (fun ao len cap w hs => signQ Nk hk ao len cap w hs)
  have X1 := Lib.hid (fun a1 l1 c1 a2 l2 c2 a3 l3 c3 a4 l4 c4 w h1 h2 h3 h4 => crossQ Na Nb Nc Nd pb pd hx a1 l1 c1 a2 l2 c2 a3 l3 c3 a4 l4 c4 w h1 h2 h3 h4)
  have X2 := Lib.hid (fun a1 l1 c1 a2 l2 c2 a3 l3 c3 a4 l4 c4 w h1 h2 h3 h4 => crossQ Nc Nd Na Nb pd pb hy a1 l1 c1 a2 l2 c2 a3 l3 c3 a4 l4 c4 w h1 h2 h3 h4)
  have X3 := Lib.hid (fun a1 l1 c1 a2 l2 c2 a3 l3 c3 a4 l4 c4 w h1 h2 h3 h4 => crossQ Nc Nd Ne Nf pd pf hz a1 l1 c1 a2 l2 c2 a3 l3 c3 a4 l4 c4 w h1 h2 h3 h4)
  have X4 := Lib.hid (fun a1 l1 c1 a2 l2 c2 a3 l3 c3 a4 l4 c4 w h1 h2 h3 h4 => crossQ Na Nb Ne Nf pb pf hv a1 l1 c1 a2 l2 c2 a3 l3 c3 a4 l4 c4 w h1 h2 h3 h4)
  have X5 := Lib.hid (fun (h : ep = 0 ∧ eq = 0 ∧ 0 < zk) a1 l1 c1 a2 l2 c2 a3 l3 c3 a4 l4 c4 w h1 h2 h3 h4 => crossQ Np Nq Nc Nd (frac_pos pb hp hq h) pd (frac_more pb pd hp hq h hx) a1 l1 c1 a2 l2 c2 a3 l3 c3 a4 l4 c4 w h1 h2 h3 h4)
  have Tp := Lib.hid (fun ax la ca ay lb cb w hx hy => lawTimes_any Na Nk Np hp ax la ca ay lb cb w hx hy)
  have Tq := Lib.hid (fun ax la ca ay lb cb w hx hy => lawTimes_any Nb Nk Nq hq ax la ca ay lb cb w hx hy)
  have Du := Lib.hid (fun ax la ca ay lb cb w hx hy => divP Na Nb Nu (by omega) rfl ax la ca ay lb cb w hx hy)
  have Dv := Lib.hid (fun ax la ca ay lb cb w hx hy => divP Nc Nd Nv (by omega) rfl ax la ca ay lb cb w hx hy)
  have Cm := Lib.hid (fun ax la ca ay lb cb w hx hy => compareP Nu Nv hm ax la ca ay lb cb w hx hy)
  have Lp := Lib.hid Np.last
  have Lq := Lib.hid Nq.last
  have HK := Lib.hid hk
  clear hr hb hd hf hx hy hz hv hk hp hq hm lp_ lq_ pb pd pf Na Nb Nc Nd Ne Nf Nk Np Nq Nu Nv
  go_enter Tryz.func13, Tryz.ntmps13
  have U0 := Below.refl w.heap.size w
  go_wp2_with fail
  replace U0 := U0.alloc U0.size (.cells #[.bool na, .slice aa la ca] 24)
  replace ht := ht.alloc (.cells #[.bool na, .slice aa la ca] 24)
  replace sa := sa.alloc (.cells #[.bool na, .slice aa la ca] 24)
  replace sb := sb.alloc (.cells #[.bool na, .slice aa la ca] 24)
  replace sc := sc.alloc (.cells #[.bool na, .slice aa la ca] 24)
  replace sd := sd.alloc (.cells #[.bool na, .slice aa la ca] 24)
  replace se := se.alloc (.cells #[.bool na, .slice aa la ca] 24)
  replace sf := sf.alloc (.cells #[.bool na, .slice aa la ca] 24)
  replace sk := sk.alloc (.cells #[.bool na, .slice aa la ca] 24)
  have Ta := BoxI.new w (w.heap.size) (by first | rfl | simp) na aa la ca
  have cTa0 := Ta.cells.1
  have cTa1 := Ta.cells.2
  have zTa := Ta.lt
  replace U0 := U0.alloc U0.size (.cells #[.bool nb, .slice ab lb cb] 24)
  replace ht := ht.alloc (.cells #[.bool nb, .slice ab lb cb] 24)
  replace sa := sa.alloc (.cells #[.bool nb, .slice ab lb cb] 24)
  replace sb := sb.alloc (.cells #[.bool nb, .slice ab lb cb] 24)
  replace sc := sc.alloc (.cells #[.bool nb, .slice ab lb cb] 24)
  replace sd := sd.alloc (.cells #[.bool nb, .slice ab lb cb] 24)
  replace se := se.alloc (.cells #[.bool nb, .slice ab lb cb] 24)
  replace sf := sf.alloc (.cells #[.bool nb, .slice ab lb cb] 24)
  replace sk := sk.alloc (.cells #[.bool nb, .slice ab lb cb] 24)
  replace Ta := Ta.alloc (.cells #[.bool nb, .slice ab lb cb] 24)
  replace cTa0 := Ta.cells.1
  replace cTa1 := Ta.cells.2
  replace zTa := Ta.lt
  have Tb := BoxI.new (w.alloc (.cells #[.bool na, .slice aa la ca] 24)) (w.heap.size + 1) (by first | rfl | simp) nb ab lb cb
  have cTb0 := Tb.cells.1
  have cTb1 := Tb.cells.2
  have zTb := Tb.lt
  replace U0 := U0.alloc U0.size (.cells #[.bool nc, .slice ac lc cc] 24)
  replace ht := ht.alloc (.cells #[.bool nc, .slice ac lc cc] 24)
  replace sa := sa.alloc (.cells #[.bool nc, .slice ac lc cc] 24)
  replace sb := sb.alloc (.cells #[.bool nc, .slice ac lc cc] 24)
  replace sc := sc.alloc (.cells #[.bool nc, .slice ac lc cc] 24)
  replace sd := sd.alloc (.cells #[.bool nc, .slice ac lc cc] 24)
  replace se := se.alloc (.cells #[.bool nc, .slice ac lc cc] 24)
  replace sf := sf.alloc (.cells #[.bool nc, .slice ac lc cc] 24)
  replace sk := sk.alloc (.cells #[.bool nc, .slice ac lc cc] 24)
  replace Ta := Ta.alloc (.cells #[.bool nc, .slice ac lc cc] 24)
  replace Tb := Tb.alloc (.cells #[.bool nc, .slice ac lc cc] 24)
  replace cTa0 := Ta.cells.1
  replace cTa1 := Ta.cells.2
  replace zTa := Ta.lt
  replace cTb0 := Tb.cells.1
  replace cTb1 := Tb.cells.2
  replace zTb := Tb.lt
  have Tc := BoxI.new ((w.alloc (.cells #[.bool na, .slice aa la ca] 24)).alloc (.cells #[.bool nb, .slice ab lb cb] 24)) (w.heap.size + 1 + 1) (by first | rfl | simp) nc ac lc cc
  have cTc0 := Tc.cells.1
  have cTc1 := Tc.cells.2
  have zTc := Tc.lt
  replace U0 := U0.alloc U0.size (.cells #[.bool nd, .slice ad ld cd] 24)
  replace ht := ht.alloc (.cells #[.bool nd, .slice ad ld cd] 24)
  replace sa := sa.alloc (.cells #[.bool nd, .slice ad ld cd] 24)
  replace sb := sb.alloc (.cells #[.bool nd, .slice ad ld cd] 24)
  replace sc := sc.alloc (.cells #[.bool nd, .slice ad ld cd] 24)
  replace sd := sd.alloc (.cells #[.bool nd, .slice ad ld cd] 24)
  replace se := se.alloc (.cells #[.bool nd, .slice ad ld cd] 24)
  replace sf := sf.alloc (.cells #[.bool nd, .slice ad ld cd] 24)
  replace sk := sk.alloc (.cells #[.bool nd, .slice ad ld cd] 24)
  replace Ta := Ta.alloc (.cells #[.bool nd, .slice ad ld cd] 24)
  replace Tb := Tb.alloc (.cells #[.bool nd, .slice ad ld cd] 24)
  replace Tc := Tc.alloc (.cells #[.bool nd, .slice ad ld cd] 24)
  replace cTa0 := Ta.cells.1
  replace cTa1 := Ta.cells.2
  replace zTa := Ta.lt
  replace cTb0 := Tb.cells.1
  replace cTb1 := Tb.cells.2
  replace zTb := Tb.lt
  replace cTc0 := Tc.cells.1
  replace cTc1 := Tc.cells.2
  replace zTc := Tc.lt
  have Td := BoxI.new (((w.alloc (.cells #[.bool na, .slice aa la ca] 24)).alloc (.cells #[.bool nb, .slice ab lb cb] 24)).alloc (.cells #[.bool nc, .slice ac lc cc] 24)) (w.heap.size + 1 + 1 + 1) (by first | rfl | simp) nd ad ld cd
  have cTd0 := Td.cells.1
  have cTd1 := Td.cells.2
  have zTd := Td.lt
  replace U0 := U0.alloc U0.size (.cells #[.bool ne, .slice ae le ce] 24)
  replace ht := ht.alloc (.cells #[.bool ne, .slice ae le ce] 24)
  replace sa := sa.alloc (.cells #[.bool ne, .slice ae le ce] 24)
  replace sb := sb.alloc (.cells #[.bool ne, .slice ae le ce] 24)
  replace sc := sc.alloc (.cells #[.bool ne, .slice ae le ce] 24)
  replace sd := sd.alloc (.cells #[.bool ne, .slice ae le ce] 24)
  replace se := se.alloc (.cells #[.bool ne, .slice ae le ce] 24)
  replace sf := sf.alloc (.cells #[.bool ne, .slice ae le ce] 24)
  replace sk := sk.alloc (.cells #[.bool ne, .slice ae le ce] 24)
  replace Ta := Ta.alloc (.cells #[.bool ne, .slice ae le ce] 24)
  replace Tb := Tb.alloc (.cells #[.bool ne, .slice ae le ce] 24)
  replace Tc := Tc.alloc (.cells #[.bool ne, .slice ae le ce] 24)
  replace Td := Td.alloc (.cells #[.bool ne, .slice ae le ce] 24)
  replace cTa0 := Ta.cells.1
  replace cTa1 := Ta.cells.2
  replace zTa := Ta.lt
  replace cTb0 := Tb.cells.1
  replace cTb1 := Tb.cells.2
  replace zTb := Tb.lt
  replace cTc0 := Tc.cells.1
  replace cTc1 := Tc.cells.2
  replace zTc := Tc.lt
  replace cTd0 := Td.cells.1
  replace cTd1 := Td.cells.2
  replace zTd := Td.lt
  have Te := BoxI.new ((((w.alloc (.cells #[.bool na, .slice aa la ca] 24)).alloc (.cells #[.bool nb, .slice ab lb cb] 24)).alloc (.cells #[.bool nc, .slice ac lc cc] 24)).alloc (.cells #[.bool nd, .slice ad ld cd] 24)) (w.heap.size + 1 + 1 + 1 + 1) (by first | rfl | simp) ne ae le ce
  have cTe0 := Te.cells.1
  have cTe1 := Te.cells.2
  have zTe := Te.lt
  replace U0 := U0.alloc U0.size (.cells #[.bool nf, .slice af lf cf] 24)
  replace ht := ht.alloc (.cells #[.bool nf, .slice af lf cf] 24)
  replace sa := sa.alloc (.cells #[.bool nf, .slice af lf cf] 24)
  replace sb := sb.alloc (.cells #[.bool nf, .slice af lf cf] 24)
  replace sc := sc.alloc (.cells #[.bool nf, .slice af lf cf] 24)
  replace sd := sd.alloc (.cells #[.bool nf, .slice af lf cf] 24)
  replace se := se.alloc (.cells #[.bool nf, .slice af lf cf] 24)
  replace sf := sf.alloc (.cells #[.bool nf, .slice af lf cf] 24)
  replace sk := sk.alloc (.cells #[.bool nf, .slice af lf cf] 24)
  replace Ta := Ta.alloc (.cells #[.bool nf, .slice af lf cf] 24)
  replace Tb := Tb.alloc (.cells #[.bool nf, .slice af lf cf] 24)
  replace Tc := Tc.alloc (.cells #[.bool nf, .slice af lf cf] 24)
  replace Td := Td.alloc (.cells #[.bool nf, .slice af lf cf] 24)
  replace Te := Te.alloc (.cells #[.bool nf, .slice af lf cf] 24)
  replace cTa0 := Ta.cells.1
  replace cTa1 := Ta.cells.2
  replace zTa := Ta.lt
  replace cTb0 := Tb.cells.1
  replace cTb1 := Tb.cells.2
  replace zTb := Tb.lt
  replace cTc0 := Tc.cells.1
  replace cTc1 := Tc.cells.2
  replace zTc := Tc.lt
  replace cTd0 := Td.cells.1
  replace cTd1 := Td.cells.2
  replace zTd := Td.lt
  replace cTe0 := Te.cells.1
  replace cTe1 := Te.cells.2
  replace zTe := Te.lt
  have Tf := BoxI.new (((((w.alloc (.cells #[.bool na, .slice aa la ca] 24)).alloc (.cells #[.bool nb, .slice ab lb cb] 24)).alloc (.cells #[.bool nc, .slice ac lc cc] 24)).alloc (.cells #[.bool nd, .slice ad ld cd] 24)).alloc (.cells #[.bool ne, .slice ae le ce] 24)) (w.heap.size + 1 + 1 + 1 + 1 + 1) (by first | rfl | simp) nf af lf cf
  have cTf0 := Tf.cells.1
  have cTf1 := Tf.cells.2
  have zTf := Tf.lt
  replace U0 := U0.alloc U0.size (.cells #[.bool nk, .slice ak lk ck] 24)
  replace ht := ht.alloc (.cells #[.bool nk, .slice ak lk ck] 24)
  replace sa := sa.alloc (.cells #[.bool nk, .slice ak lk ck] 24)
  replace sb := sb.alloc (.cells #[.bool nk, .slice ak lk ck] 24)
  replace sc := sc.alloc (.cells #[.bool nk, .slice ak lk ck] 24)
  replace sd := sd.alloc (.cells #[.bool nk, .slice ak lk ck] 24)
  replace se := se.alloc (.cells #[.bool nk, .slice ak lk ck] 24)
  replace sf := sf.alloc (.cells #[.bool nk, .slice ak lk ck] 24)
  replace sk := sk.alloc (.cells #[.bool nk, .slice ak lk ck] 24)
  replace Ta := Ta.alloc (.cells #[.bool nk, .slice ak lk ck] 24)
  replace Tb := Tb.alloc (.cells #[.bool nk, .slice ak lk ck] 24)
  replace Tc := Tc.alloc (.cells #[.bool nk, .slice ak lk ck] 24)
  replace Td := Td.alloc (.cells #[.bool nk, .slice ak lk ck] 24)
  replace Te := Te.alloc (.cells #[.bool nk, .slice ak lk ck] 24)
  replace Tf := Tf.alloc (.cells #[.bool nk, .slice ak lk ck] 24)
  replace cTa0 := Ta.cells.1
  replace cTa1 := Ta.cells.2
  replace zTa := Ta.lt
  replace cTb0 := Tb.cells.1
  replace cTb1 := Tb.cells.2
  replace zTb := Tb.lt
  replace cTc0 := Tc.cells.1
  replace cTc1 := Tc.cells.2
  replace zTc := Tc.lt
  replace cTd0 := Td.cells.1
  replace cTd1 := Td.cells.2
  replace zTd := Td.lt
  replace cTe0 := Te.cells.1
  replace cTe1 := Te.cells.2
  replace zTe := Te.lt
  replace cTf0 := Tf.cells.1
  replace cTf1 := Tf.cells.2
  replace zTf := Tf.lt
  have Tk := BoxI.new ((((((w.alloc (.cells #[.bool na, .slice aa la ca] 24)).alloc (.cells #[.bool nb, .slice ab lb cb] 24)).alloc (.cells #[.bool nc, .slice ac lc cc] 24)).alloc (.cells #[.bool nd, .slice ad ld cd] 24)).alloc (.cells #[.bool ne, .slice ae le ce] 24)).alloc (.cells #[.bool nf, .slice af lf cf] 24)) (w.heap.size + 1 + 1 + 1 + 1 + 1 + 1) (by first | rfl | simp) nk ak lk ck
  have cTk0 := Tk.cells.1
  have cTk1 := Tk.cells.2
  have zTk := Tk.lt
  (with_reducible refine (sane_any _ (by exact ht)).mono ?_)
  rintro e w1 ⟨rfl, b1⟩
  replace U0 := U0.trans (b1.mono U0.size)
  replace ht := ht.below b1
  replace sa := sa.below b1
  replace sb := sb.below b1
  replace sc := sc.below b1
  replace sd := sd.below b1
  replace se := se.below b1
  replace sf := sf.below b1
  replace sk := sk.below b1
  replace Ta := Ta.below b1
  replace Tb := Tb.below b1
  replace Tc := Tc.below b1
  replace Td := Td.below b1
  replace Te := Te.below b1
  replace Tf := Tf.below b1
  replace Tk := Tk.below b1
  replace cTa0 := Ta.cells.1
  replace cTa1 := Ta.cells.2
  replace zTa := Ta.lt
  replace cTb0 := Tb.cells.1
  replace cTb1 := Tb.cells.2
  replace zTb := Tb.lt
  replace cTc0 := Tc.cells.1
  replace cTc1 := Tc.cells.2
  replace zTc := Tc.lt
  replace cTd0 := Td.cells.1
  replace cTd1 := Td.cells.2
  replace zTd := Td.lt
  replace cTe0 := Te.cells.1
  replace cTe1 := Te.cells.2
  replace zTe := Te.lt
  replace cTf0 := Tf.cells.1
  replace cTf1 := Tf.cells.2
  replace zTf := Tf.lt
  replace cTk0 := Tk.cells.1
  replace cTk1 := Tk.cells.2
  replace zTk := Tk.lt
  clear b1
  clear ht
  go_wp2_with fail
  replace U0 := U0.alloc U0.size (.cells #[.bool na, .slice aa la ca, .bool nb, .slice ab lb cb, .bool nc, .slice ac lc cc, .bool nd, .slice ad ld cd, .bool ne, .slice ae le ce, .bool nf, .slice af lf cf, .bool nk, .slice ak lk ck] 24)
  replace sa := sa.alloc (.cells #[.bool na, .slice aa la ca, .bool nb, .slice ab lb cb, .bool nc, .slice ac lc cc, .bool nd, .slice ad ld cd, .bool ne, .slice ae le ce, .bool nf, .slice af lf cf, .bool nk, .slice ak lk ck] 24)
  replace sb := sb.alloc (.cells #[.bool na, .slice aa la ca, .bool nb, .slice ab lb cb, .bool nc, .slice ac lc cc, .bool nd, .slice ad ld cd, .bool ne, .slice ae le ce, .bool nf, .slice af lf cf, .bool nk, .slice ak lk ck] 24)
  replace sc := sc.alloc (.cells #[.bool na, .slice aa la ca, .bool nb, .slice ab lb cb, .bool nc, .slice ac lc cc, .bool nd, .slice ad ld cd, .bool ne, .slice ae le ce, .bool nf, .slice af lf cf, .bool nk, .slice ak lk ck] 24)
  replace sd := sd.alloc (.cells #[.bool na, .slice aa la ca, .bool nb, .slice ab lb cb, .bool nc, .slice ac lc cc, .bool nd, .slice ad ld cd, .bool ne, .slice ae le ce, .bool nf, .slice af lf cf, .bool nk, .slice ak lk ck] 24)
  replace se := se.alloc (.cells #[.bool na, .slice aa la ca, .bool nb, .slice ab lb cb, .bool nc, .slice ac lc cc, .bool nd, .slice ad ld cd, .bool ne, .slice ae le ce, .bool nf, .slice af lf cf, .bool nk, .slice ak lk ck] 24)
  replace sf := sf.alloc (.cells #[.bool na, .slice aa la ca, .bool nb, .slice ab lb cb, .bool nc, .slice ac lc cc, .bool nd, .slice ad ld cd, .bool ne, .slice ae le ce, .bool nf, .slice af lf cf, .bool nk, .slice ak lk ck] 24)
  replace sk := sk.alloc (.cells #[.bool na, .slice aa la ca, .bool nb, .slice ab lb cb, .bool nc, .slice ac lc cc, .bool nd, .slice ad ld cd, .bool ne, .slice ae le ce, .bool nf, .slice af lf cf, .bool nk, .slice ak lk ck] 24)
  replace Ta := Ta.alloc (.cells #[.bool na, .slice aa la ca, .bool nb, .slice ab lb cb, .bool nc, .slice ac lc cc, .bool nd, .slice ad ld cd, .bool ne, .slice ae le ce, .bool nf, .slice af lf cf, .bool nk, .slice ak lk ck] 24)
  replace Tb := Tb.alloc (.cells #[.bool na, .slice aa la ca, .bool nb, .slice ab lb cb, .bool nc, .slice ac lc cc, .bool nd, .slice ad ld cd, .bool ne, .slice ae le ce, .bool nf, .slice af lf cf, .bool nk, .slice ak lk ck] 24)
  replace Tc := Tc.alloc (.cells #[.bool na, .slice aa la ca, .bool nb, .slice ab lb cb, .bool nc, .slice ac lc cc, .bool nd, .slice ad ld cd, .bool ne, .slice ae le ce, .bool nf, .slice af lf cf, .bool nk, .slice ak lk ck] 24)
  replace Td := Td.alloc (.cells #[.bool na, .slice aa la ca, .bool nb, .slice ab lb cb, .bool nc, .slice ac lc cc, .bool nd, .slice ad ld cd, .bool ne, .slice ae le ce, .bool nf, .slice af lf cf, .bool nk, .slice ak lk ck] 24)
  replace Te := Te.alloc (.cells #[.bool na, .slice aa la ca, .bool nb, .slice ab lb cb, .bool nc, .slice ac lc cc, .bool nd, .slice ad ld cd, .bool ne, .slice ae le ce, .bool nf, .slice af lf cf, .bool nk, .slice ak lk ck] 24)
  replace Tf := Tf.alloc (.cells #[.bool na, .slice aa la ca, .bool nb, .slice ab lb cb, .bool nc, .slice ac lc cc, .bool nd, .slice ad ld cd, .bool ne, .slice ae le ce, .bool nf, .slice af lf cf, .bool nk, .slice ak lk ck] 24)
  replace Tk := Tk.alloc (.cells #[.bool na, .slice aa la ca, .bool nb, .slice ab lb cb, .bool nc, .slice ac lc cc, .bool nd, .slice ad ld cd, .bool ne, .slice ae le ce, .bool nf, .slice af lf cf, .bool nk, .slice ak lk ck] 24)
  replace cTa0 := Ta.cells.1
  replace cTa1 := Ta.cells.2
  replace zTa := Ta.lt
  replace cTb0 := Tb.cells.1
  replace cTb1 := Tb.cells.2
  replace zTb := Tb.lt
  replace cTc0 := Tc.cells.1
  replace cTc1 := Tc.cells.2
  replace zTc := Tc.lt
  replace cTd0 := Td.cells.1
  replace cTd1 := Td.cells.2
  replace zTd := Td.lt
  replace cTe0 := Te.cells.1
  replace cTe1 := Te.cells.2
  replace zTe := Te.lt
  replace cTf0 := Tf.cells.1
  replace cTf1 := Tf.cells.2
  replace zTf := Tf.lt
  replace cTk0 := Tk.cells.1
  replace cTk1 := Tk.cells.2
  replace zTk := Tk.lt
  (with_reducible refine (Hr.out _ _ (heap_new _ _) (by exact sa) (by exact sb) (by exact sc) (by exact sd) (by exact se) (by exact sf) (by exact sk)).mono ?_)
  rintro e w2 ⟨rfl, b2⟩
  replace U0 := U0.trans (b2.mono U0.size)
  replace sa := sa.below b2
  replace sb := sb.below b2
  replace sc := sc.below b2
  replace sd := sd.below b2
  replace se := se.below b2
  replace sf := sf.below b2
  replace sk := sk.below b2
  replace Ta := Ta.below b2
  replace Tb := Tb.below b2
  replace Tc := Tc.below b2
  replace Td := Td.below b2
  replace Te := Te.below b2
  replace Tf := Tf.below b2
  replace Tk := Tk.below b2
  replace cTa0 := Ta.cells.1
  replace cTa1 := Ta.cells.2
  replace zTa := Ta.lt
  replace cTb0 := Tb.cells.1
  replace cTb1 := Tb.cells.2
  replace zTb := Tb.lt
  replace cTc0 := Tc.cells.1
  replace cTc1 := Tc.cells.2
  replace zTc := Tc.lt
  replace cTd0 := Td.cells.1
  replace cTd1 := Td.cells.2
  replace zTd := Td.lt
  replace cTe0 := Te.cells.1
  replace cTe1 := Te.cells.2
  replace zTe := Te.lt
  replace cTf0 := Tf.cells.1
  replace cTf1 := Tf.cells.2
  replace zTf := Tf.lt
  replace cTk0 := Tk.cells.1
  replace cTk1 := Tk.cells.2
  replace zTk := Tk.lt
  clear b2
  go_wp2_with fail
  (with_reducible refine (Sb.out _ _ _ _ (by exact sb)).mono ?_)
  rintro e w3 ⟨rfl, b3⟩
  replace U0 := U0.trans (b3.mono U0.size)
  replace sa := sa.below b3
  replace sb := sb.below b3
  replace sc := sc.below b3
  replace sd := sd.below b3
  replace se := se.below b3
  replace sf := sf.below b3
  replace sk := sk.below b3
  replace Ta := Ta.below b3
  replace Tb := Tb.below b3
  replace Tc := Tc.below b3
  replace Td := Td.below b3
  replace Te := Te.below b3
  replace Tf := Tf.below b3
  replace Tk := Tk.below b3
  replace cTa0 := Ta.cells.1
  replace cTa1 := Ta.cells.2
  replace zTa := Ta.lt
  replace cTb0 := Tb.cells.1
  replace cTb1 := Tb.cells.2
  replace zTb := Tb.lt
  replace cTc0 := Tc.cells.1
  replace cTc1 := Tc.cells.2
  replace zTc := Tc.lt
  replace cTd0 := Td.cells.1
  replace cTd1 := Td.cells.2
  replace zTd := Td.lt
  replace cTe0 := Te.cells.1
  replace cTe1 := Te.cells.2
  replace zTe := Te.lt
  replace cTf0 := Tf.cells.1
  replace cTf1 := Tf.cells.2
  replace zTf := Tf.lt
  replace cTk0 := Tk.cells.1
  replace cTk1 := Tk.cells.2
  replace zTk := Tk.lt
  clear b3
  go_wp2_with fail
  (with_reducible refine (Sd.out _ _ _ _ (by exact sd)).mono ?_)
  rintro e w4 ⟨rfl, b4⟩
  replace U0 := U0.trans (b4.mono U0.size)
  replace sa := sa.below b4
  replace sb := sb.below b4
  replace sc := sc.below b4
  replace sd := sd.below b4
  replace se := se.below b4
  replace sf := sf.below b4
  replace sk := sk.below b4
  replace Ta := Ta.below b4
  replace Tb := Tb.below b4
  replace Tc := Tc.below b4
  replace Td := Td.below b4
  replace Te := Te.below b4
  replace Tf := Tf.below b4
  replace Tk := Tk.below b4
  replace cTa0 := Ta.cells.1
  replace cTa1 := Ta.cells.2
  replace zTa := Ta.lt
  replace cTb0 := Tb.cells.1
  replace cTb1 := Tb.cells.2
  replace zTb := Tb.lt
  replace cTc0 := Tc.cells.1
  replace cTc1 := Tc.cells.2
  replace zTc := Tc.lt
  replace cTd0 := Td.cells.1
  replace cTd1 := Td.cells.2
  replace zTd := Td.lt
  replace cTe0 := Te.cells.1
  replace cTe1 := Te.cells.2
  replace zTe := Te.lt
  replace cTf0 := Tf.cells.1
  replace cTf1 := Tf.cells.2
  replace zTf := Tf.lt
  replace cTk0 := Tk.cells.1
  replace cTk1 := Tk.cells.2
  replace zTk := Tk.lt
  clear b4
  go_wp2_with fail
  (with_reducible refine (Sf.out _ _ _ _ (by exact sf)).mono ?_)
  rintro e w5 ⟨rfl, b5⟩
  replace U0 := U0.trans (b5.mono U0.size)
  replace sa := sa.below b5
  replace sb := sb.below b5
  replace sc := sc.below b5
  replace sd := sd.below b5
  replace se := se.below b5
  replace sf := sf.below b5
  replace sk := sk.below b5
  replace Ta := Ta.below b5
  replace Tb := Tb.below b5
  replace Tc := Tc.below b5
  replace Td := Td.below b5
  replace Te := Te.below b5
  replace Tf := Tf.below b5
  replace Tk := Tk.below b5
  replace cTa0 := Ta.cells.1
  replace cTa1 := Ta.cells.2
  replace zTa := Ta.lt
  replace cTb0 := Tb.cells.1
  replace cTb1 := Tb.cells.2
  replace zTb := Tb.lt
  replace cTc0 := Tc.cells.1
  replace cTc1 := Tc.cells.2
  replace zTc := Tc.lt
  replace cTd0 := Td.cells.1
  replace cTd1 := Td.cells.2
  replace zTd := Td.lt
  replace cTe0 := Te.cells.1
  replace cTe1 := Te.cells.2
  replace zTe := Te.lt
  replace cTf0 := Tf.cells.1
  replace cTf1 := Tf.cells.2
  replace zTf := Tf.lt
  replace cTk0 := Tk.cells.1
  replace cTk1 := Tk.cells.2
  replace zTk := Tk.lt
  clear b5
  go_wp2_with fail
  (with_reducible refine (X1.out _ _ _ _ _ _ _ _ _ _ _ _ _ (by exact sa) (by exact sb) (by exact sc) (by exact sd)).mono ?_)
  rintro e w6 ⟨rfl, b6⟩
  replace U0 := U0.trans (b6.mono U0.size)
  replace sa := sa.below b6
  replace sb := sb.below b6
  replace sc := sc.below b6
  replace sd := sd.below b6
  replace se := se.below b6
  replace sf := sf.below b6
  replace sk := sk.below b6
  replace Ta := Ta.below b6
  replace Tb := Tb.below b6
  replace Tc := Tc.below b6
  replace Td := Td.below b6
  replace Te := Te.below b6
  replace Tf := Tf.below b6
  replace Tk := Tk.below b6
  replace cTa0 := Ta.cells.1
  replace cTa1 := Ta.cells.2
  replace zTa := Ta.lt
  replace cTb0 := Tb.cells.1
  replace cTb1 := Tb.cells.2
  replace zTb := Tb.lt
  replace cTc0 := Tc.cells.1
  replace cTc1 := Tc.cells.2
  replace zTc := Tc.lt
  replace cTd0 := Td.cells.1
  replace cTd1 := Td.cells.2
  replace zTd := Td.lt
  replace cTe0 := Te.cells.1
  replace cTe1 := Te.cells.2
  replace zTe := Te.lt
  replace cTf0 := Tf.cells.1
  replace cTf1 := Tf.cells.2
  replace zTf := Tf.lt
  replace cTk0 := Tk.cells.1
  replace cTk1 := Tk.cells.2
  replace zTk := Tk.lt
  clear b6
  go_wp2_with fail
  (with_reducible refine (X2.out _ _ _ _ _ _ _ _ _ _ _ _ _ (by exact sc) (by exact sd) (by exact sa) (by exact sb)).mono ?_)
  rintro e w7 ⟨rfl, b7⟩
  replace U0 := U0.trans (b7.mono U0.size)
  replace sa := sa.below b7
  replace sb := sb.below b7
  replace sc := sc.below b7
  replace sd := sd.below b7
  replace se := se.below b7
  replace sf := sf.below b7
  replace sk := sk.below b7
  replace Ta := Ta.below b7
  replace Tb := Tb.below b7
  replace Tc := Tc.below b7
  replace Td := Td.below b7
  replace Te := Te.below b7
  replace Tf := Tf.below b7
  replace Tk := Tk.below b7
  replace cTa0 := Ta.cells.1
  replace cTa1 := Ta.cells.2
  replace zTa := Ta.lt
  replace cTb0 := Tb.cells.1
  replace cTb1 := Tb.cells.2
  replace zTb := Tb.lt
  replace cTc0 := Tc.cells.1
  replace cTc1 := Tc.cells.2
  replace zTc := Tc.lt
  replace cTd0 := Td.cells.1
  replace cTd1 := Td.cells.2
  replace zTd := Td.lt
  replace cTe0 := Te.cells.1
  replace cTe1 := Te.cells.2
  replace zTe := Te.lt
  replace cTf0 := Tf.cells.1
  replace cTf1 := Tf.cells.2
  replace zTf := Tf.lt
  replace cTk0 := Tk.cells.1
  replace cTk1 := Tk.cells.2
  replace zTk := Tk.lt
  clear b7
  go_wp2_with fail
  (with_reducible refine (X3.out _ _ _ _ _ _ _ _ _ _ _ _ _ (by exact sc) (by exact sd) (by exact se) (by exact sf)).mono ?_)
  rintro e w8 ⟨rfl, b8⟩
  replace U0 := U0.trans (b8.mono U0.size)
  replace sa := sa.below b8
  replace sb := sb.below b8
  replace sc := sc.below b8
  replace sd := sd.below b8
  replace se := se.below b8
  replace sf := sf.below b8
  replace sk := sk.below b8
  replace Ta := Ta.below b8
  replace Tb := Tb.below b8
  replace Tc := Tc.below b8
  replace Td := Td.below b8
  replace Te := Te.below b8
  replace Tf := Tf.below b8
  replace Tk := Tk.below b8
  replace cTa0 := Ta.cells.1
  replace cTa1 := Ta.cells.2
  replace zTa := Ta.lt
  replace cTb0 := Tb.cells.1
  replace cTb1 := Tb.cells.2
  replace zTb := Tb.lt
  replace cTc0 := Tc.cells.1
  replace cTc1 := Tc.cells.2
  replace zTc := Tc.lt
  replace cTd0 := Td.cells.1
  replace cTd1 := Td.cells.2
  replace zTd := Td.lt
  replace cTe0 := Te.cells.1
  replace cTe1 := Te.cells.2
  replace zTe := Te.lt
  replace cTf0 := Tf.cells.1
  replace cTf1 := Tf.cells.2
  replace zTf := Tf.lt
  replace cTk0 := Tk.cells.1
  replace cTk1 := Tk.cells.2
  replace zTk := Tk.lt
  clear b8
  go_wp2_with fail
  (with_reducible refine (X4.out _ _ _ _ _ _ _ _ _ _ _ _ _ (by exact sa) (by exact sb) (by exact se) (by exact sf)).mono ?_)
  rintro e w9 ⟨rfl, b9⟩
  replace U0 := U0.trans (b9.mono U0.size)
  replace sa := sa.below b9
  replace sb := sb.below b9
  replace sc := sc.below b9
  replace sd := sd.below b9
  replace se := se.below b9
  replace sf := sf.below b9
  replace sk := sk.below b9
  replace Ta := Ta.below b9
  replace Tb := Tb.below b9
  replace Tc := Tc.below b9
  replace Td := Td.below b9
  replace Te := Te.below b9
  replace Tf := Tf.below b9
  replace Tk := Tk.below b9
  replace cTa0 := Ta.cells.1
  replace cTa1 := Ta.cells.2
  replace zTa := Ta.lt
  replace cTb0 := Tb.cells.1
  replace cTb1 := Tb.cells.2
  replace zTb := Tb.lt
  replace cTc0 := Tc.cells.1
  replace cTc1 := Tc.cells.2
  replace zTc := Tc.lt
  replace cTd0 := Td.cells.1
  replace cTd1 := Td.cells.2
  replace zTd := Td.lt
  replace cTe0 := Te.cells.1
  replace cTe1 := Te.cells.2
  replace zTe := Te.lt
  replace cTf0 := Tf.cells.1
  replace cTf1 := Tf.cells.2
  replace zTf := Tf.lt
  replace cTk0 := Tk.cells.1
  replace cTk1 := Tk.cells.2
  replace zTk := Tk.lt
  clear b9
  clear Te Tf se sf cTe0 cTe1 zTe cTf0 cTf1 zTf
  go_upto_region 9 with (fail)
  go_cut [130] (fun sl wx => sl = .bool false ∧ FracCut w (w.heap.size) (w.heap.size + 1) (w.heap.size + 1 + 1) (w.heap.size + 1 + 1 + 1) (w.heap.size + 1 + 1 + 1 + 1 + 1 + 1) na aa la ca xa nb ab lb cb xb nc ac lc cc xc nd ad ld cd xd nk ak lk ck xk wx)
  case first => as_aux_lemma =>
    clear Hr Sb Sd Sf Sk X1 X2 X3 X4 X5 Tp Tq Du Dv Cm Lp Lq MQ HK
    obtain ⟨hx3, hy_, hzv⟩ := M9.out
    clear M9; subst hy_
    have Hv := Lib.hid hzv; clear hzv
    rcases hx3 with rfl | rfl | rfl
    · by_cases z0 : z ≤ 0
      · have z1 : decide (z ≤ 0) = true := decide_eq_true z0
        have v1 : decide (0 < v) = false := decide_eq_false (Int.not_lt.2 (Hv.out (by decide) z0))
        clear z0 Hv; go_wp2_with fail; go_meet; exact ⟨rfl, Ta, sa, Tb, sb, Tc, sc, Td, sd, Tk, sk, U0⟩
      · have z1 : decide (z ≤ 0) = false := decide_eq_false z0
        clear z0 Hv; go_wp2_with fail; go_meet; exact ⟨rfl, Ta, sa, Tb, sb, Tc, sc, Td, sd, Tk, sk, U0⟩
    · by_cases z0 : z ≤ 0
      · have z1 : decide (z ≤ 0) = true := decide_eq_true z0
        have v1 : decide (0 < v) = false := decide_eq_false (Int.not_lt.2 (Hv.out (by decide) z0))
        clear z0 Hv; go_wp2_with fail; go_meet; exact ⟨rfl, Ta, sa, Tb, sb, Tc, sc, Td, sd, Tk, sk, U0⟩
      · have z1 : decide (z ≤ 0) = false := decide_eq_false z0
        clear z0 Hv; go_wp2_with fail; go_meet; exact ⟨rfl, Ta, sa, Tb, sb, Tc, sc, Td, sd, Tk, sk, U0⟩
    · clear Hv; go_wp2_with fail; go_meet; exact ⟨rfl, Ta, sa, Tb, sb, Tc, sc, Td, sd, Tk, sk, U0⟩
  case rest =>
    obtain ⟨rfl, Ta, sa, Tb, sb, Tc, sc, Td, sd, Tk, sk, U0⟩ := hcut
    have cTa0 := Ta.cells.1
    have cTa1 := Ta.cells.2
    have zTa := Ta.lt
    have cTb0 := Tb.cells.1
    have cTb1 := Tb.cells.2
    have zTb := Tb.lt
    have cTc0 := Tc.cells.1
    have cTc1 := Tc.cells.2
    have zTc := Tc.lt
    have cTd0 := Td.cells.1
    have cTd1 := Td.cells.2
    have zTd := Td.lt
    have cTk0 := Tk.cells.1
    have cTk1 := Tk.cells.2
    have zTk := Tk.lt
    clear Hr Sb Sd Sf X1 X2 X3 X4 M9
    go_upto_region 11 with (fail)
    go_cut [23, 24] (fun s23 s24 wx => FracCut2 w (w.heap.size) (w.heap.size + 1) (w.heap.size + 1 + 1) (w.heap.size + 1 + 1 + 1) (w.heap.size + 1 + 1 + 1 + 1 + 1 + 1) na aa la ca xa nb ab lb cb xb nc ac lc cc xc nd ad ld cd xd nk ak lk ck xk np xp ep nq xq eq s23 s24 wx)
    case first => as_aux_lemma =>
      clear cTa0 cTa1 zTa
      clear cTb0 cTb1 zTb
      clear cTc0 cTc1 zTc
      clear cTd0 cTd1 zTd
      clear cTk0 cTk1 zTk
      refine region_kept 14 [some 131, some 132, some 133, some 134, some 135, some 136, some 137, some 138, some 139, some 140, some 23, some 24, none, none] (fun U => [U 0, U 1, U 2, U 3, U 4, U 5, U 6, U 7, U 8, U 9, U 10, U 11, U 12, U 13]) (fun L U w' => Below (wc).heap.size (wc) w' ∧ (L 0 = true → U 0 = .agg #[.bool na, .slice aa la ca]) ∧ (L 1 = true → U 1 = .agg #[.bool na, .slice aa la ca, .int .i64 0]) ∧ (L 2 = true → U 2 = .agg #[.bool nk, .slice ak lk ck]) ∧ (L 3 = true → U 3 = .agg #[.bool nk, .slice ak lk ck, .int .i64 0]) ∧ (L 4 = true → HasP w' (U 4) (np) (xp) (ep)) ∧ (L 5 = true → U 5 = .agg #[.bool nb, .slice ab lb cb]) ∧ (L 6 = true → U 6 = .agg #[.bool nb, .slice ab lb cb, .int .i64 0]) ∧ (L 7 = true → U 7 = .agg #[.bool nk, .slice ak lk ck]) ∧ (L 8 = true → U 8 = .agg #[.bool nk, .slice ak lk ck, .int .i64 0]) ∧ (L 9 = true → HasP w' (U 9) (nq) (xq) (eq)) ∧ (L 10 = true → PBox (wc).heap.size w' (U 10) (L 12) (np) (xp) (ep)) ∧ (L 11 = true → PBox (wc).heap.size w' (U 11) (L 13) (nq) (xq) (eq)) ∧ (L 10 = true → L 11 = true → U 10 ≠ U 11) ∧ (L 12 = true → L 10 = true) ∧ (L 13 = true → L 11 = true)) rfl rfl (fun _ => rfl) rfl (by kernel_rfl) (by kernel_rfl) (by kernel_rfl) ?start ?step ?fin
      case start =>
        intro U
        exact ⟨(Below.refl _ _).drew, (by intro h; cases h), (by intro h; cases h), (by intro h; cases h), (by intro h; cases h), (by intro h; cases h), (by intro h; cases h), (by intro h; cases h), (by intro h; cases h), (by intro h; cases h), (by intro h; cases h), (by intro h; cases h), (by intro h; cases h), (by intro h; cases h), (by intro h; cases h), (by intro h; cases h)⟩
      case step =>
        refine ⟨?_, ?_, ?_, ?_, ?_, ?_, ?_, ?_, ?_, ?_, ?_, ?_, ?_, ?_, trivial⟩
        · intro L U w' b hF hLi hmet hb ho K hK
          obtain ⟨U1, k0, k1, k2, k3, k4, k5, k6, k7, k8, k9, k10, k11, d10x11, m12, m13⟩ := hF
          have t0_ := (Ta.below U1).cells.1
          have t1_ := (Ta.below U1).cells.2
          have s7 : b.tmps.getD 7 undef = .pointer (some ⟨w.heap.size, 0, none⟩) := (ho 7 rfl).trans rfl
          have r7 := s7; rw [Array.getD_eq_getD_getElem?] at r7
          clear hb ho hmet
          rw [if_pos (by rfl)]
          go_simp
          exact hK.out (.agg #[.bool na, .slice aa la ca]) w' ⟨U1, (fun _ => rfl), k1, k2, k3, k4, k5, k6, k7, k8, k9, k10, k11, d10x11, m12, m13⟩
        · intro L U w' b hF hLi hmet hb ho K hK
          obtain ⟨U1, k0, k1, k2, k3, k4, k5, k6, k7, k8, k9, k10, k11, d10x11, m12, m13⟩ := hF
          have s131 := (hb 0 131 rfl).trans (k0 (by (first | exact hmet.1 rfl | exact hmet.2.1 rfl | exact hmet.2.2.1 rfl | exact hmet.2.2.2.1 rfl)))
          have r131 := s131; rw [Array.getD_eq_getD_getElem?] at r131
          clear hb ho hmet
          rw [if_pos (by rfl)]
          go_simp
          go_at_call 65
          (with_reducible refine (lawVal_any _ _ _ _ _).mono ?_)
          rintro e_ wq ⟨rfl, bq⟩
          exact hK.out (.agg #[.bool na, .slice aa la ca, .int .i64 0]) wq ⟨(U1.trans (bq.mono U1.size)), k0, (fun _ => rfl), k2, k3, (fun h => (k4 h).below bq), k5, k6, k7, k8, (fun h => (k9 h).below bq), (fun h => (k10 h).below bq), (fun h => (k11 h).below bq), d10x11, m12, m13⟩
        · intro L U w' b hF hLi hmet hb ho K hK
          obtain ⟨U1, k0, k1, k2, k3, k4, k5, k6, k7, k8, k9, k10, k11, d10x11, m12, m13⟩ := hF
          have t0_ := (Tk.below U1).cells.1
          have t1_ := (Tk.below U1).cells.2
          have s13 : b.tmps.getD 13 undef = .pointer (some ⟨w.heap.size + 1 + 1 + 1 + 1 + 1 + 1, 0, none⟩) := (ho 13 rfl).trans rfl
          have r13 := s13; rw [Array.getD_eq_getD_getElem?] at r13
          clear hb ho hmet
          rw [if_pos (by rfl)]
          go_simp
          exact hK.out (.agg #[.bool nk, .slice ak lk ck]) w' ⟨U1, k0, k1, (fun _ => rfl), k3, k4, k5, k6, k7, k8, k9, k10, k11, d10x11, m12, m13⟩
        · intro L U w' b hF hLi hmet hb ho K hK
          obtain ⟨U1, k0, k1, k2, k3, k4, k5, k6, k7, k8, k9, k10, k11, d10x11, m12, m13⟩ := hF
          have s133 := (hb 2 133 rfl).trans (k2 (by (first | exact hmet.1 rfl | exact hmet.2.1 rfl | exact hmet.2.2.1 rfl | exact hmet.2.2.2.1 rfl)))
          have r133 := s133; rw [Array.getD_eq_getD_getElem?] at r133
          clear hb ho hmet
          rw [if_pos (by rfl)]
          go_simp
          go_at_call 65
          (with_reducible refine (lawVal_any _ _ _ _ _).mono ?_)
          rintro e_ wq ⟨rfl, bq⟩
          exact hK.out (.agg #[.bool nk, .slice ak lk ck, .int .i64 0]) wq ⟨(U1.trans (bq.mono U1.size)), k0, k1, k2, (fun _ => rfl), (fun h => (k4 h).below bq), k5, k6, k7, k8, (fun h => (k9 h).below bq), (fun h => (k10 h).below bq), (fun h => (k11 h).below bq), d10x11, m12, m13⟩
        · intro L U w' b hF hLi hmet hb ho K hK
          obtain ⟨U1, k0, k1, k2, k3, k4, k5, k6, k7, k8, k9, k10, k11, d10x11, m12, m13⟩ := hF
          have s132 := (hb 1 132 rfl).trans (k1 (by (first | exact hmet.1 rfl | exact hmet.2.1 rfl | exact hmet.2.2.1 rfl | exact hmet.2.2.2.1 rfl)))
          have r132 := s132; rw [Array.getD_eq_getD_getElem?] at r132
          have s134 := (hb 3 134 rfl).trans (k3 (by (first | exact hmet.1 rfl | exact hmet.2.1 rfl | exact hmet.2.2.1 rfl | exact hmet.2.2.2.1 rfl)))
          have r134 := s134; rw [Array.getD_eq_getD_getElem?] at r134
          clear hb ho hmet
          rw [if_pos (by rfl)]
          go_simp
          go_at_call 68
          (with_reducible refine (Tp.out _ _ _ _ _ _ _ (by exact sa.below U1) (by exact sk.below U1)).mono ?_)
          rintro e_ wq ⟨ra, rl, rc, rfl, rs, bq⟩
          exact hK.out (.agg #[.bool np, .slice ra rl rc, .int .i64 ep]) wq ⟨(U1.trans (bq.mono U1.size)), k0, k1, k2, k3, (fun _ => ⟨ra, rl, rc, rfl, rs⟩), k5, k6, k7, k8, (fun h => (k9 h).below bq), (fun h => (k10 h).below bq), (fun h => (k11 h).below bq), d10x11, m12, m13⟩
        · intro L U w' b hF hLi hmet hb ho K hK
          obtain ⟨U1, k0, k1, k2, k3, k4, k5, k6, k7, k8, k9, k10, k11, d10x11, m12, m13⟩ := hF
          have t0_ := (Tb.below U1).cells.1
          have t1_ := (Tb.below U1).cells.2
          have s8 : b.tmps.getD 8 undef = .pointer (some ⟨w.heap.size + 1, 0, none⟩) := (ho 8 rfl).trans rfl
          have r8 := s8; rw [Array.getD_eq_getD_getElem?] at r8
          clear hb ho hmet
          rw [if_pos (by rfl)]
          go_simp
          exact hK.out (.agg #[.bool nb, .slice ab lb cb]) w' ⟨U1, k0, k1, k2, k3, k4, (fun _ => rfl), k6, k7, k8, k9, k10, k11, d10x11, m12, m13⟩
        · intro L U w' b hF hLi hmet hb ho K hK
          obtain ⟨U1, k0, k1, k2, k3, k4, k5, k6, k7, k8, k9, k10, k11, d10x11, m12, m13⟩ := hF
          have s136 := (hb 5 136 rfl).trans (k5 (by (first | exact hmet.1 rfl | exact hmet.2.1 rfl | exact hmet.2.2.1 rfl | exact hmet.2.2.2.1 rfl)))
          have r136 := s136; rw [Array.getD_eq_getD_getElem?] at r136
          clear hb ho hmet
          rw [if_pos (by rfl)]
          go_simp
          go_at_call 65
          (with_reducible refine (lawVal_any _ _ _ _ _).mono ?_)
          rintro e_ wq ⟨rfl, bq⟩
          exact hK.out (.agg #[.bool nb, .slice ab lb cb, .int .i64 0]) wq ⟨(U1.trans (bq.mono U1.size)), k0, k1, k2, k3, (fun h => (k4 h).below bq), k5, (fun _ => rfl), k7, k8, (fun h => (k9 h).below bq), (fun h => (k10 h).below bq), (fun h => (k11 h).below bq), d10x11, m12, m13⟩
        · intro L U w' b hF hLi hmet hb ho K hK
          obtain ⟨U1, k0, k1, k2, k3, k4, k5, k6, k7, k8, k9, k10, k11, d10x11, m12, m13⟩ := hF
          have t0_ := (Tk.below U1).cells.1
          have t1_ := (Tk.below U1).cells.2
          have s13 : b.tmps.getD 13 undef = .pointer (some ⟨w.heap.size + 1 + 1 + 1 + 1 + 1 + 1, 0, none⟩) := (ho 13 rfl).trans rfl
          have r13 := s13; rw [Array.getD_eq_getD_getElem?] at r13
          clear hb ho hmet
          rw [if_pos (by rfl)]
          go_simp
          exact hK.out (.agg #[.bool nk, .slice ak lk ck]) w' ⟨U1, k0, k1, k2, k3, k4, k5, k6, (fun _ => rfl), k8, k9, k10, k11, d10x11, m12, m13⟩
        · intro L U w' b hF hLi hmet hb ho K hK
          obtain ⟨U1, k0, k1, k2, k3, k4, k5, k6, k7, k8, k9, k10, k11, d10x11, m12, m13⟩ := hF
          have s138 := (hb 7 138 rfl).trans (k7 (by (first | exact hmet.1 rfl | exact hmet.2.1 rfl | exact hmet.2.2.1 rfl | exact hmet.2.2.2.1 rfl)))
          have r138 := s138; rw [Array.getD_eq_getD_getElem?] at r138
          clear hb ho hmet
          rw [if_pos (by rfl)]
          go_simp
          go_at_call 65
          (with_reducible refine (lawVal_any _ _ _ _ _).mono ?_)
          rintro e_ wq ⟨rfl, bq⟩
          exact hK.out (.agg #[.bool nk, .slice ak lk ck, .int .i64 0]) wq ⟨(U1.trans (bq.mono U1.size)), k0, k1, k2, k3, (fun h => (k4 h).below bq), k5, k6, k7, (fun _ => rfl), (fun h => (k9 h).below bq), (fun h => (k10 h).below bq), (fun h => (k11 h).below bq), d10x11, m12, m13⟩
        · intro L U w' b hF hLi hmet hb ho K hK
          obtain ⟨U1, k0, k1, k2, k3, k4, k5, k6, k7, k8, k9, k10, k11, d10x11, m12, m13⟩ := hF
          have s137 := (hb 6 137 rfl).trans (k6 (by (first | exact hmet.1 rfl | exact hmet.2.1 rfl | exact hmet.2.2.1 rfl | exact hmet.2.2.2.1 rfl)))
          have r137 := s137; rw [Array.getD_eq_getD_getElem?] at r137
          have s139 := (hb 8 139 rfl).trans (k8 (by (first | exact hmet.1 rfl | exact hmet.2.1 rfl | exact hmet.2.2.1 rfl | exact hmet.2.2.2.1 rfl)))
          have r139 := s139; rw [Array.getD_eq_getD_getElem?] at r139
          clear hb ho hmet
          rw [if_pos (by rfl)]
          go_simp
          go_at_call 68
          (with_reducible refine (Tq.out _ _ _ _ _ _ _ (by exact sb.below U1) (by exact sk.below U1)).mono ?_)
          rintro e_ wq ⟨ra, rl, rc, rfl, rs, bq⟩
          exact hK.out (.agg #[.bool nq, .slice ra rl rc, .int .i64 eq]) wq ⟨(U1.trans (bq.mono U1.size)), k0, k1, k2, k3, (fun h => (k4 h).below bq), k5, k6, k7, k8, (fun _ => ⟨ra, rl, rc, rfl, rs⟩), (fun h => (k10 h).below bq), (fun h => (k11 h).below bq), d10x11, m12, m13⟩
        · intro L U w' b hF hLi hmet hb ho K hK
          obtain ⟨U1, k0, k1, k2, k3, k4, k5, k6, k7, k8, k9, k10, k11, d10x11, m12, m13⟩ := hF
          have hst := not_yet m12 hLi
          clear hb ho hmet
          rw [if_pos (by rfl)]
          go_simp
          have bq := (Below.refl w'.heap.size w').alloc (Nat.le_refl _) (.cells #[.bool false, .slice none 0 0, .int .i64 0] 38)
          exact hK.out (.pointer (some ⟨w'.heap.size, 0, none⟩)) _ ⟨(U1.alloc U1.size _), k0, k1, k2, k3, (fun h => (k4 h).below bq), k5, k6, k7, k8, (fun h => (k9 h).below bq), (fun _ => PBox.new U1.size hst), (fun h => (k11 h).below bq), (fun _ h => (PBox.fresh (k11 h)).symm), (fun _ => rfl), m13⟩
        · intro L U w' b hF hLi hmet hb ho K hK
          obtain ⟨U1, k0, k1, k2, k3, k4, k5, k6, k7, k8, k9, k10, k11, d10x11, m12, m13⟩ := hF
          have hst := not_yet m13 hLi
          clear hb ho hmet
          rw [if_pos (by rfl)]
          go_simp
          have bq := (Below.refl w'.heap.size w').alloc (Nat.le_refl _) (.cells #[.bool false, .slice none 0 0, .int .i64 0] 38)
          exact hK.out (.pointer (some ⟨w'.heap.size, 0, none⟩)) _ ⟨(U1.alloc U1.size _), k0, k1, k2, k3, (fun h => (k4 h).below bq), k5, k6, k7, k8, (fun h => (k9 h).below bq), (fun h => (k10 h).below bq), (fun _ => PBox.new U1.size hst), (fun h _ => PBox.fresh (k10 h)), m12, (fun _ => rfl)⟩
        · intro L U w' b hF hLi hmet hb ho K hK
          obtain ⟨U1, k0, k1, k2, k3, k4, k5, k6, k7, k8, k9, k10, k11, d10x11, m12, m13⟩ := hF
          have hb_ : L 10 = true := by (first | exact hmet.1 rfl | exact hmet.2.1 rfl | exact hmet.2.2.1 rfl | exact hmet.2.2.2.1 rfl)
          have hv_ : L 4 = true := by (first | exact hmet.1 rfl | exact hmet.2.1 rfl | exact hmet.2.2.1 rfl | exact hmet.2.2.2.1 rfl)
          obtain ⟨g, eg, hg, hlt, hz, _⟩ := k10 hb_
          have ne11 : L 11 = true → U 11 ≠ .pointer (some ⟨g, 0, none⟩) := fun h e => (d10x11 hb_ h).symm (e.trans eg.symm)
          have Z := hz hLi
          have s23 := (hb 10 23 rfl).trans eg
          have r23 := s23; rw [Array.getD_eq_getD_getElem?] at r23
          obtain ⟨pa, pl, pc, pe, ps⟩ := k4 hv_
          have s135 := (hb 4 135 rfl).trans pe
          have r135 := s135; rw [Array.getD_eq_getD_getElem?] at r135
          have f0_ := Z.cells.1; have f1_ := Z.cells.2.1; have f2_ := Z.cells.2.2; have g0_ := Z.froz.1; have g1_ := Z.froz.2.1; have g2_ := Z.froz.2.2
          have HK := Lib.hid hK
          have HZ := Lib.hid Z
          clear hb ho hmet
          rw [if_pos (by rfl)]
          go_simp
          exact hK.out (undef) _ ⟨(Below.set3 U1 hg _ _ _), k0, k1, k2, k3, (fun h => (k4 h).set Lp.out Z _ _ _ _ _), k5, k6, k7, k8, (fun h => (k9 h).set Lq.out Z _ _ _ _ _), (fun _ => PBox.selfOf eg Z hg ps Lp.out), (fun h => (k11 h).other Lq.out Z (ne11 h) _ _ _ _ _), d10x11, (fun _ => hb_), m13⟩
        · intro L U w' b hF hLi hmet hb ho K hK
          obtain ⟨U1, k0, k1, k2, k3, k4, k5, k6, k7, k8, k9, k10, k11, d10x11, m12, m13⟩ := hF
          have hb_ : L 11 = true := by (first | exact hmet.1 rfl | exact hmet.2.1 rfl | exact hmet.2.2.1 rfl | exact hmet.2.2.2.1 rfl)
          have hv_ : L 9 = true := by (first | exact hmet.1 rfl | exact hmet.2.1 rfl | exact hmet.2.2.1 rfl | exact hmet.2.2.2.1 rfl)
          obtain ⟨g, eg, hg, hlt, hz, _⟩ := k11 hb_
          have ne10 : L 10 = true → U 10 ≠ .pointer (some ⟨g, 0, none⟩) := fun h e => d10x11 h hb_ (e.trans eg.symm)
          have Z := hz hLi
          have s24 := (hb 11 24 rfl).trans eg
          have r24 := s24; rw [Array.getD_eq_getD_getElem?] at r24
          obtain ⟨pa, pl, pc, pe, ps⟩ := k9 hv_
          have s140 := (hb 9 140 rfl).trans pe
          have r140 := s140; rw [Array.getD_eq_getD_getElem?] at r140
          have f0_ := Z.cells.1; have f1_ := Z.cells.2.1; have f2_ := Z.cells.2.2; have g0_ := Z.froz.1; have g1_ := Z.froz.2.1; have g2_ := Z.froz.2.2
          have HK := Lib.hid hK
          have HZ := Lib.hid Z
          clear hb ho hmet
          rw [if_pos (by rfl)]
          go_simp
          exact hK.out (undef) _ ⟨(Below.set3 U1 hg _ _ _), k0, k1, k2, k3, (fun h => (k4 h).set Lp.out Z _ _ _ _ _), k5, k6, k7, k8, (fun h => (k9 h).set Lq.out Z _ _ _ _ _), (fun h => (k10 h).other Lp.out Z (ne10 h) _ _ _ _ _), (fun _ => PBox.selfOf eg Z hg ps Lq.out), d10x11, m12, (fun _ => hb_)⟩
      case fin =>
        intro L U wx hF hall
        obtain ⟨U1, k0, k1, k2, k3, k4, k5, k6, k7, k8, k9, k10, k11, d10x11, m12, m13⟩ := hF
        obtain ⟨pa4, pl4, pc4, pe4, ps4⟩ := k4 (hall 4 (by decide))
        obtain ⟨pa9, pl9, pc9, pe9, ps9⟩ := k9 (hall 9 (by decide))
        have ne10x11 := d10x11 (hall 10 (by decide)) (hall 11 (by decide))
        obtain ⟨g10, eg10, hg10, hlt10, _, hs10⟩ := k10 (hall 10 (by decide))
        obtain ⟨qa10, ql10, qc10, Q10, qs10⟩ := hs10 (hall 12 (by decide))
        obtain ⟨g11, eg11, hg11, hlt11, _, hs11⟩ := k11 (hall 11 (by decide))
        obtain ⟨qa11, ql11, qc11, Q11, qs11⟩ := hs11 (hall 13 (by decide))
        clear k0 k1 k2 k3 k4 k5 k6 k7 k8 k9 k10 k11 d10x11 m12 m13 hs10 hs11 hall
        simp only [fillA, Act.put, List.setIfInBounds_toArray, List.set_cons_zero, List.set_cons_succ]
        go_wp2_with fail; go_meet
        exact ⟨_, _, _, _, _, _, _, _, eg10, eg11, Q10, qs10, Q11, qs11, Ta.below U1, sa.below U1, Tb.below U1, sb.below U1, Tc.below U1, sc.below U1, Td.below U1, sd.below U1, Tk.below U1, sk.below U1, U0.trans (U1.mono U0.size)⟩
    case rest =>
      obtain ⟨gp, gq, ap, lp, cp, aq, lq, cq, rfl, rfl, Tp_, sp, Tq_, sq, Ta, sa, Tb, sb, Tc, sc, Td, sd, Tk, sk, U0⟩ := hcut
      have cTa0 := Ta.cells.1
      have cTa1 := Ta.cells.2
      have zTa := Ta.lt
      have cTb0 := Tb.cells.1
      have cTb1 := Tb.cells.2
      have zTb := Tb.lt
      have cTc0 := Tc.cells.1
      have cTc1 := Tc.cells.2
      have zTc := Tc.lt
      have cTd0 := Td.cells.1
      have cTd1 := Td.cells.2
      have zTd := Td.lt
      have cTk0 := Tk.cells.1
      have cTk1 := Tk.cells.2
      have zTk := Tk.lt
      have cTp_0 := Tp_.cells.1
      have cTp_1 := Tp_.cells.2.1
      have cTp_2 := Tp_.cells.2.2
      have zTp_ := Tp_.lt
      have cTq_0 := Tq_.cells.1
      have cTq_1 := Tq_.cells.2.1
      have cTq_2 := Tq_.cells.2.2
      have zTq_ := Tq_.lt
      clear Tp Tq Lp Lq
      obtain ⟨B, hB⟩ : ∃ B, (decide (0 < vk) && (decide (ep = 0) && decide (eq = 0))) = B := ⟨_, rfl⟩
      have HB := Lib.hid hB
      clear hB
      go_upto_region 12 with (fail)
      go_cut [153] (fun sl wx => sl = .bool B ∧ Box3 wx gp np ap lp cp ep ∧ Sl wx ap lp cp xp ∧ Box3 wx gq nq aq lq cq eq ∧ Sl wx aq lq cq xq ∧ FracCut w (w.heap.size) (w.heap.size + 1) (w.heap.size + 1 + 1) (w.heap.size + 1 + 1 + 1) (w.heap.size + 1 + 1 + 1 + 1 + 1 + 1) na aa la ca xa nb ab lb cb xb nc ac lc cc xc nd ad ld cd xd nk ak lk ck xk wx)
      case first => as_aux_lemma =>
        go_wp2_with fail
        (with_reducible refine (Sk.out _ _ _ _ (by exact sk)).mono ?_)
        rintro e w1 ⟨rfl, b1⟩
        replace U0 := U0.trans (b1.mono U0.size)
        replace Ta := Ta.below b1
        replace sa := sa.below b1
        replace Tb := Tb.below b1
        replace sb := sb.below b1
        replace Tc := Tc.below b1
        replace sc := sc.below b1
        replace Td := Td.below b1
        replace sd := sd.below b1
        replace Tk := Tk.below b1
        replace sk := sk.below b1
        replace Tp_ := Tp_.below b1
        replace sp := sp.below b1
        replace Tq_ := Tq_.below b1
        replace sq := sq.below b1
        replace cTa0 := Ta.cells.1
        replace cTa1 := Ta.cells.2
        replace zTa := Ta.lt
        replace cTb0 := Tb.cells.1
        replace cTb1 := Tb.cells.2
        replace zTb := Tb.lt
        replace cTc0 := Tc.cells.1
        replace cTc1 := Tc.cells.2
        replace zTc := Tc.lt
        replace cTd0 := Td.cells.1
        replace cTd1 := Td.cells.2
        replace zTd := Td.lt
        replace cTk0 := Tk.cells.1
        replace cTk1 := Tk.cells.2
        replace zTk := Tk.lt
        replace cTp_0 := Tp_.cells.1
        replace cTp_1 := Tp_.cells.2.1
        replace cTp_2 := Tp_.cells.2.2
        replace zTp_ := Tp_.lt
        replace cTq_0 := Tq_.cells.1
        replace cTq_1 := Tq_.cells.2.1
        replace cTq_2 := Tq_.cells.2.2
        replace zTq_ := Tq_.lt
        clear b1
        have hB := HB.out
        clear X5 Du Dv Cm MQ HK Sk HB
        by_cases k0 : 0 < vk
        · have k1 : decide (0 < vk) = true := decide_eq_true k0
          by_cases p0 : ep = 0
          · have p1 : (ep == 0) = true := by rw [p0]; rfl
            by_cases q0 : eq = 0
            · have q1 : (eq == 0) = true := by rw [q0]; rfl
              obtain rfl : true = B := by rw [← hB]; simp [k0, p0, q0]
              clear hB k0 p0 q0
              go_wp2_with fail; go_meet; exact ⟨rfl, Tp_, sp, Tq_, sq, Ta, sa, Tb, sb, Tc, sc, Td, sd, Tk, sk, U0⟩
            · have q1 : (eq == 0) = false := by simpa using q0
              obtain rfl : false = B := by rw [← hB]; simp [q0]
              clear hB k0 p0 q0
              go_wp2_with fail; go_meet; exact ⟨rfl, Tp_, sp, Tq_, sq, Ta, sa, Tb, sb, Tc, sc, Td, sd, Tk, sk, U0⟩
          · have p1 : (ep == 0) = false := by simpa using p0
            obtain rfl : false = B := by rw [← hB]; simp [p0]
            clear hB k0 p0
            go_wp2_with fail; go_meet; exact ⟨rfl, Tp_, sp, Tq_, sq, Ta, sa, Tb, sb, Tc, sc, Td, sd, Tk, sk, U0⟩
        · have k1 : decide (0 < vk) = false := decide_eq_false k0
          obtain rfl : false = B := by rw [← hB]; simp [k0]
          clear hB k0
          go_wp2_with fail; go_meet; exact ⟨rfl, Tp_, sp, Tq_, sq, Ta, sa, Tb, sb, Tc, sc, Td, sd, Tk, sk, U0⟩
      case rest =>
        obtain ⟨rfl, Tp_, sp, Tq_, sq, Ta, sa, Tb, sb, Tc, sc, Td, sd, Tk, sk, U0⟩ := hcut
        have cTa0 := Ta.cells.1
        have cTa1 := Ta.cells.2
        have zTa := Ta.lt
        have cTb0 := Tb.cells.1
        have cTb1 := Tb.cells.2
        have zTb := Tb.lt
        have cTc0 := Tc.cells.1
        have cTc1 := Tc.cells.2
        have zTc := Tc.lt
        have cTd0 := Td.cells.1
        have cTd1 := Td.cells.2
        have zTd := Td.lt
        have cTk0 := Tk.cells.1
        have cTk1 := Tk.cells.2
        have zTk := Tk.lt
        have cTp_0 := Tp_.cells.1
        have cTp_1 := Tp_.cells.2.1
        have cTp_2 := Tp_.cells.2.2
        have zTp_ := Tp_.lt
        have cTq_0 := Tq_.cells.1
        have cTq_1 := Tq_.cells.2.1
        have cTq_2 := Tq_.cells.2.2
        have zTq_ := Tq_.lt
        clear Sk
        cases B
        case false => as_aux_lemma =>
          clear X5 HK HB
          go_wp2_with fail
          (with_reducible refine (Du.out _ _ _ _ _ _ _ (by exact sa) (by exact sb)).mono ?_)
          rintro e w1 ⟨au, lu, cu, rfl, su, b1⟩
          replace U0 := U0.trans (b1.mono U0.size)
          replace Ta := Ta.below b1
          replace sa := sa.below b1
          replace Tb := Tb.below b1
          replace sb := sb.below b1
          replace Tc := Tc.below b1
          replace sc := sc.below b1
          replace Td := Td.below b1
          replace sd := sd.below b1
          replace Tk := Tk.below b1
          replace sk := sk.below b1
          replace Tp_ := Tp_.below b1
          replace sp := sp.below b1
          replace Tq_ := Tq_.below b1
          replace sq := sq.below b1
          replace cTa0 := Ta.cells.1
          replace cTa1 := Ta.cells.2
          replace zTa := Ta.lt
          replace cTb0 := Tb.cells.1
          replace cTb1 := Tb.cells.2
          replace zTb := Tb.lt
          replace cTc0 := Tc.cells.1
          replace cTc1 := Tc.cells.2
          replace zTc := Tc.lt
          replace cTd0 := Td.cells.1
          replace cTd1 := Td.cells.2
          replace zTd := Td.lt
          replace cTk0 := Tk.cells.1
          replace cTk1 := Tk.cells.2
          replace zTk := Tk.lt
          replace cTp_0 := Tp_.cells.1
          replace cTp_1 := Tp_.cells.2.1
          replace cTp_2 := Tp_.cells.2.2
          replace zTp_ := Tp_.lt
          replace cTq_0 := Tq_.cells.1
          replace cTq_1 := Tq_.cells.2.1
          replace cTq_2 := Tq_.cells.2.2
          replace zTq_ := Tq_.lt
          clear b1
          go_wp2_with fail
          replace U0 := U0.alloc U0.size (.cells #[.bool nu, .slice au lu cu] 24)
          replace Ta := Ta.alloc (.cells #[.bool nu, .slice au lu cu] 24)
          replace sa := sa.alloc (.cells #[.bool nu, .slice au lu cu] 24)
          replace Tb := Tb.alloc (.cells #[.bool nu, .slice au lu cu] 24)
          replace sb := sb.alloc (.cells #[.bool nu, .slice au lu cu] 24)
          replace Tc := Tc.alloc (.cells #[.bool nu, .slice au lu cu] 24)
          replace sc := sc.alloc (.cells #[.bool nu, .slice au lu cu] 24)
          replace Td := Td.alloc (.cells #[.bool nu, .slice au lu cu] 24)
          replace sd := sd.alloc (.cells #[.bool nu, .slice au lu cu] 24)
          replace Tk := Tk.alloc (.cells #[.bool nu, .slice au lu cu] 24)
          replace sk := sk.alloc (.cells #[.bool nu, .slice au lu cu] 24)
          replace Tp_ := Tp_.alloc (.cells #[.bool nu, .slice au lu cu] 24)
          replace sp := sp.alloc (.cells #[.bool nu, .slice au lu cu] 24)
          replace Tq_ := Tq_.alloc (.cells #[.bool nu, .slice au lu cu] 24)
          replace sq := sq.alloc (.cells #[.bool nu, .slice au lu cu] 24)
          replace su := su.alloc (.cells #[.bool nu, .slice au lu cu] 24)
          replace cTa0 := Ta.cells.1
          replace cTa1 := Ta.cells.2
          replace zTa := Ta.lt
          replace cTb0 := Tb.cells.1
          replace cTb1 := Tb.cells.2
          replace zTb := Tb.lt
          replace cTc0 := Tc.cells.1
          replace cTc1 := Tc.cells.2
          replace zTc := Tc.lt
          replace cTd0 := Td.cells.1
          replace cTd1 := Td.cells.2
          replace zTd := Td.lt
          replace cTk0 := Tk.cells.1
          replace cTk1 := Tk.cells.2
          replace zTk := Tk.lt
          replace cTp_0 := Tp_.cells.1
          replace cTp_1 := Tp_.cells.2.1
          replace cTp_2 := Tp_.cells.2.2
          replace zTp_ := Tp_.lt
          replace cTq_0 := Tq_.cells.1
          replace cTq_1 := Tq_.cells.2.1
          replace cTq_2 := Tq_.cells.2.2
          replace zTq_ := Tq_.lt
          have Tu := BoxI.new w1 (w1.heap.size) (by first | rfl | simp) nu au lu cu
          have cTu0 := Tu.cells.1
          have cTu1 := Tu.cells.2
          have zTu := Tu.lt
          (with_reducible refine (Dv.out _ _ _ _ _ _ _ (by exact sc) (by exact sd)).mono ?_)
          rintro e w2 ⟨av, lv, cv, rfl, sv, b2⟩
          replace U0 := U0.trans (b2.mono U0.size)
          replace Ta := Ta.below b2
          replace sa := sa.below b2
          replace Tb := Tb.below b2
          replace sb := sb.below b2
          replace Tc := Tc.below b2
          replace sc := sc.below b2
          replace Td := Td.below b2
          replace sd := sd.below b2
          replace Tk := Tk.below b2
          replace sk := sk.below b2
          replace Tp_ := Tp_.below b2
          replace sp := sp.below b2
          replace Tq_ := Tq_.below b2
          replace sq := sq.below b2
          replace su := su.below b2
          replace Tu := Tu.below b2
          replace cTa0 := Ta.cells.1
          replace cTa1 := Ta.cells.2
          replace zTa := Ta.lt
          replace cTb0 := Tb.cells.1
          replace cTb1 := Tb.cells.2
          replace zTb := Tb.lt
          replace cTc0 := Tc.cells.1
          replace cTc1 := Tc.cells.2
          replace zTc := Tc.lt
          replace cTd0 := Td.cells.1
          replace cTd1 := Td.cells.2
          replace zTd := Td.lt
          replace cTk0 := Tk.cells.1
          replace cTk1 := Tk.cells.2
          replace zTk := Tk.lt
          replace cTp_0 := Tp_.cells.1
          replace cTp_1 := Tp_.cells.2.1
          replace cTp_2 := Tp_.cells.2.2
          replace zTp_ := Tp_.lt
          replace cTq_0 := Tq_.cells.1
          replace cTq_1 := Tq_.cells.2.1
          replace cTq_2 := Tq_.cells.2.2
          replace zTq_ := Tq_.lt
          replace cTu0 := Tu.cells.1
          replace cTu1 := Tu.cells.2
          replace zTu := Tu.lt
          clear b2
          go_wp2_with fail
          replace U0 := U0.alloc U0.size (.cells #[.bool nv, .slice av lv cv] 24)
          replace Ta := Ta.alloc (.cells #[.bool nv, .slice av lv cv] 24)
          replace sa := sa.alloc (.cells #[.bool nv, .slice av lv cv] 24)
          replace Tb := Tb.alloc (.cells #[.bool nv, .slice av lv cv] 24)
          replace sb := sb.alloc (.cells #[.bool nv, .slice av lv cv] 24)
          replace Tc := Tc.alloc (.cells #[.bool nv, .slice av lv cv] 24)
          replace sc := sc.alloc (.cells #[.bool nv, .slice av lv cv] 24)
          replace Td := Td.alloc (.cells #[.bool nv, .slice av lv cv] 24)
          replace sd := sd.alloc (.cells #[.bool nv, .slice av lv cv] 24)
          replace Tk := Tk.alloc (.cells #[.bool nv, .slice av lv cv] 24)
          replace sk := sk.alloc (.cells #[.bool nv, .slice av lv cv] 24)
          replace Tp_ := Tp_.alloc (.cells #[.bool nv, .slice av lv cv] 24)
          replace sp := sp.alloc (.cells #[.bool nv, .slice av lv cv] 24)
          replace Tq_ := Tq_.alloc (.cells #[.bool nv, .slice av lv cv] 24)
          replace sq := sq.alloc (.cells #[.bool nv, .slice av lv cv] 24)
          replace su := su.alloc (.cells #[.bool nv, .slice av lv cv] 24)
          replace Tu := Tu.alloc (.cells #[.bool nv, .slice av lv cv] 24)
          replace sv := sv.alloc (.cells #[.bool nv, .slice av lv cv] 24)
          replace cTa0 := Ta.cells.1
          replace cTa1 := Ta.cells.2
          replace zTa := Ta.lt
          replace cTb0 := Tb.cells.1
          replace cTb1 := Tb.cells.2
          replace zTb := Tb.lt
          replace cTc0 := Tc.cells.1
          replace cTc1 := Tc.cells.2
          replace zTc := Tc.lt
          replace cTd0 := Td.cells.1
          replace cTd1 := Td.cells.2
          replace zTd := Td.lt
          replace cTk0 := Tk.cells.1
          replace cTk1 := Tk.cells.2
          replace zTk := Tk.lt
          replace cTp_0 := Tp_.cells.1
          replace cTp_1 := Tp_.cells.2.1
          replace cTp_2 := Tp_.cells.2.2
          replace zTp_ := Tp_.lt
          replace cTq_0 := Tq_.cells.1
          replace cTq_1 := Tq_.cells.2.1
          replace cTq_2 := Tq_.cells.2.2
          replace zTq_ := Tq_.lt
          replace cTu0 := Tu.cells.1
          replace cTu1 := Tu.cells.2
          replace zTu := Tu.lt
          have Tv := BoxI.new w2 (w2.heap.size) (by first | rfl | simp) nv av lv cv
          have cTv0 := Tv.cells.1
          have cTv1 := Tv.cells.2
          have zTv := Tv.lt
          (with_reducible refine (Cm.out _ _ _ _ _ _ _ (by exact su) (by exact sv)).mono ?_)
          rintro e w3 ⟨rfl, b3⟩
          replace U0 := U0.trans (b3.mono U0.size)
          replace Ta := Ta.below b3
          replace sa := sa.below b3
          replace Tb := Tb.below b3
          replace sb := sb.below b3
          replace Tc := Tc.below b3
          replace sc := sc.below b3
          replace Td := Td.below b3
          replace sd := sd.below b3
          replace Tk := Tk.below b3
          replace sk := sk.below b3
          replace Tp_ := Tp_.below b3
          replace sp := sp.below b3
          replace Tq_ := Tq_.below b3
          replace sq := sq.below b3
          replace su := su.below b3
          replace Tu := Tu.below b3
          replace sv := sv.below b3
          replace Tv := Tv.below b3
          replace cTa0 := Ta.cells.1
          replace cTa1 := Ta.cells.2
          replace zTa := Ta.lt
          replace cTb0 := Tb.cells.1
          replace cTb1 := Tb.cells.2
          replace zTb := Tb.lt
          replace cTc0 := Tc.cells.1
          replace cTc1 := Tc.cells.2
          replace zTc := Tc.lt
          replace cTd0 := Td.cells.1
          replace cTd1 := Td.cells.2
          replace zTd := Td.lt
          replace cTk0 := Tk.cells.1
          replace cTk1 := Tk.cells.2
          replace zTk := Tk.lt
          replace cTp_0 := Tp_.cells.1
          replace cTp_1 := Tp_.cells.2.1
          replace cTp_2 := Tp_.cells.2.2
          replace zTp_ := Tp_.lt
          replace cTq_0 := Tq_.cells.1
          replace cTq_1 := Tq_.cells.2.1
          replace cTq_2 := Tq_.cells.2.2
          replace zTq_ := Tq_.lt
          replace cTu0 := Tu.cells.1
          replace cTu1 := Tu.cells.2
          replace zTu := Tu.lt
          replace cTv0 := Tv.cells.1
          replace cTv1 := Tv.cells.2
          replace zTv := Tv.lt
          clear b3
          have mq := MQ.out
          by_cases m0 : m = 0
          · have m1 : (m == 0) = true := by rw [m0]; rfl
            clear MQ mq m0; go_wp2; go_ret; exact ⟨rfl, U0⟩
          · have m1 : (m == 0) = false := by simpa using m0
            obtain rfl := mq m0
            have m2 : (m == m) = true := by simp
            clear MQ mq m0; go_wp2; go_ret; exact ⟨rfl, U0⟩
        case true => as_aux_lemma =>
          have hB := HB.out
          simp only [Bool.and_eq_true, decide_eq_true_eq] at hB
          have X6 := Lib.hid (X5.out ⟨hB.2.1, hB.2.2, pos_sign HK.out hB.1⟩)
          obtain ⟨_, e1_, e2_⟩ := hB
          clear X5 HK HB e1_ e2_
          go_wp2_with fail
          (with_reducible refine (X6.out _ _ _ _ _ _ _ _ _ _ _ _ _ (by exact sp) (by exact sq) (by exact sc) (by exact sd)).mono ?_)
          rintro e w1 ⟨rfl, b1⟩
          replace U0 := U0.trans (b1.mono U0.size)
          replace Ta := Ta.below b1
          replace sa := sa.below b1
          replace Tb := Tb.below b1
          replace sb := sb.below b1
          replace Tc := Tc.below b1
          replace sc := sc.below b1
          replace Td := Td.below b1
          replace sd := sd.below b1
          replace Tk := Tk.below b1
          replace sk := sk.below b1
          replace Tp_ := Tp_.below b1
          replace sp := sp.below b1
          replace Tq_ := Tq_.below b1
          replace sq := sq.below b1
          replace cTa0 := Ta.cells.1
          replace cTa1 := Ta.cells.2
          replace zTa := Ta.lt
          replace cTb0 := Tb.cells.1
          replace cTb1 := Tb.cells.2
          replace zTb := Tb.lt
          replace cTc0 := Tc.cells.1
          replace cTc1 := Tc.cells.2
          replace zTc := Tc.lt
          replace cTd0 := Td.cells.1
          replace cTd1 := Td.cells.2
          replace zTd := Td.lt
          replace cTk0 := Tk.cells.1
          replace cTk1 := Tk.cells.2
          replace zTk := Tk.lt
          replace cTp_0 := Tp_.cells.1
          replace cTp_1 := Tp_.cells.2.1
          replace cTp_2 := Tp_.cells.2.2
          replace zTp_ := Tp_.lt
          replace cTq_0 := Tq_.cells.1
          replace cTq_1 := Tq_.cells.2.1
          replace cTq_2 := Tq_.cells.2.2
          replace zTq_ := Tq_.lt
          clear b1
          have x1 : (x != x) = false := by simp
          clear X6
          go_wp2_with fail
          (with_reducible refine (Du.out _ _ _ _ _ _ _ (by exact sa) (by exact sb)).mono ?_)
          rintro e w2 ⟨au, lu, cu, rfl, su, b2⟩
          replace U0 := U0.trans (b2.mono U0.size)
          replace Ta := Ta.below b2
          replace sa := sa.below b2
          replace Tb := Tb.below b2
          replace sb := sb.below b2
          replace Tc := Tc.below b2
          replace sc := sc.below b2
          replace Td := Td.below b2
          replace sd := sd.below b2
          replace Tk := Tk.below b2
          replace sk := sk.below b2
          replace Tp_ := Tp_.below b2
          replace sp := sp.below b2
          replace Tq_ := Tq_.below b2
          replace sq := sq.below b2
          replace cTa0 := Ta.cells.1
          replace cTa1 := Ta.cells.2
          replace zTa := Ta.lt
          replace cTb0 := Tb.cells.1
          replace cTb1 := Tb.cells.2
          replace zTb := Tb.lt
          replace cTc0 := Tc.cells.1
          replace cTc1 := Tc.cells.2
          replace zTc := Tc.lt
          replace cTd0 := Td.cells.1
          replace cTd1 := Td.cells.2
          replace zTd := Td.lt
          replace cTk0 := Tk.cells.1
          replace cTk1 := Tk.cells.2
          replace zTk := Tk.lt
          replace cTp_0 := Tp_.cells.1
          replace cTp_1 := Tp_.cells.2.1
          replace cTp_2 := Tp_.cells.2.2
          replace zTp_ := Tp_.lt
          replace cTq_0 := Tq_.cells.1
          replace cTq_1 := Tq_.cells.2.1
          replace cTq_2 := Tq_.cells.2.2
          replace zTq_ := Tq_.lt
          clear b2
          go_wp2_with fail
          replace U0 := U0.alloc U0.size (.cells #[.bool nu, .slice au lu cu] 24)
          replace Ta := Ta.alloc (.cells #[.bool nu, .slice au lu cu] 24)
          replace sa := sa.alloc (.cells #[.bool nu, .slice au lu cu] 24)
          replace Tb := Tb.alloc (.cells #[.bool nu, .slice au lu cu] 24)
          replace sb := sb.alloc (.cells #[.bool nu, .slice au lu cu] 24)
          replace Tc := Tc.alloc (.cells #[.bool nu, .slice au lu cu] 24)
          replace sc := sc.alloc (.cells #[.bool nu, .slice au lu cu] 24)
          replace Td := Td.alloc (.cells #[.bool nu, .slice au lu cu] 24)
          replace sd := sd.alloc (.cells #[.bool nu, .slice au lu cu] 24)
          replace Tk := Tk.alloc (.cells #[.bool nu, .slice au lu cu] 24)
          replace sk := sk.alloc (.cells #[.bool nu, .slice au lu cu] 24)
          replace Tp_ := Tp_.alloc (.cells #[.bool nu, .slice au lu cu] 24)
          replace sp := sp.alloc (.cells #[.bool nu, .slice au lu cu] 24)
          replace Tq_ := Tq_.alloc (.cells #[.bool nu, .slice au lu cu] 24)
          replace sq := sq.alloc (.cells #[.bool nu, .slice au lu cu] 24)
          replace su := su.alloc (.cells #[.bool nu, .slice au lu cu] 24)
          replace cTa0 := Ta.cells.1
          replace cTa1 := Ta.cells.2
          replace zTa := Ta.lt
          replace cTb0 := Tb.cells.1
          replace cTb1 := Tb.cells.2
          replace zTb := Tb.lt
          replace cTc0 := Tc.cells.1
          replace cTc1 := Tc.cells.2
          replace zTc := Tc.lt
          replace cTd0 := Td.cells.1
          replace cTd1 := Td.cells.2
          replace zTd := Td.lt
          replace cTk0 := Tk.cells.1
          replace cTk1 := Tk.cells.2
          replace zTk := Tk.lt
          replace cTp_0 := Tp_.cells.1
          replace cTp_1 := Tp_.cells.2.1
          replace cTp_2 := Tp_.cells.2.2
          replace zTp_ := Tp_.lt
          replace cTq_0 := Tq_.cells.1
          replace cTq_1 := Tq_.cells.2.1
          replace cTq_2 := Tq_.cells.2.2
          replace zTq_ := Tq_.lt
          have Tu := BoxI.new w2 (w2.heap.size) (by first | rfl | simp) nu au lu cu
          have cTu0 := Tu.cells.1
          have cTu1 := Tu.cells.2
          have zTu := Tu.lt
          (with_reducible refine (Dv.out _ _ _ _ _ _ _ (by exact sc) (by exact sd)).mono ?_)
          rintro e w3 ⟨av, lv, cv, rfl, sv, b3⟩
          replace U0 := U0.trans (b3.mono U0.size)
          replace Ta := Ta.below b3
          replace sa := sa.below b3
          replace Tb := Tb.below b3
          replace sb := sb.below b3
          replace Tc := Tc.below b3
          replace sc := sc.below b3
          replace Td := Td.below b3
          replace sd := sd.below b3
          replace Tk := Tk.below b3
          replace sk := sk.below b3
          replace Tp_ := Tp_.below b3
          replace sp := sp.below b3
          replace Tq_ := Tq_.below b3
          replace sq := sq.below b3
          replace su := su.below b3
          replace Tu := Tu.below b3
          replace cTa0 := Ta.cells.1
          replace cTa1 := Ta.cells.2
          replace zTa := Ta.lt
          replace cTb0 := Tb.cells.1
          replace cTb1 := Tb.cells.2
          replace zTb := Tb.lt
          replace cTc0 := Tc.cells.1
          replace cTc1 := Tc.cells.2
          replace zTc := Tc.lt
          replace cTd0 := Td.cells.1
          replace cTd1 := Td.cells.2
          replace zTd := Td.lt
          replace cTk0 := Tk.cells.1
          replace cTk1 := Tk.cells.2
          replace zTk := Tk.lt
          replace cTp_0 := Tp_.cells.1
          replace cTp_1 := Tp_.cells.2.1
          replace cTp_2 := Tp_.cells.2.2
          replace zTp_ := Tp_.lt
          replace cTq_0 := Tq_.cells.1
          replace cTq_1 := Tq_.cells.2.1
          replace cTq_2 := Tq_.cells.2.2
          replace zTq_ := Tq_.lt
          replace cTu0 := Tu.cells.1
          replace cTu1 := Tu.cells.2
          replace zTu := Tu.lt
          clear b3
          go_wp2_with fail
          replace U0 := U0.alloc U0.size (.cells #[.bool nv, .slice av lv cv] 24)
          replace Ta := Ta.alloc (.cells #[.bool nv, .slice av lv cv] 24)
          replace sa := sa.alloc (.cells #[.bool nv, .slice av lv cv] 24)
          replace Tb := Tb.alloc (.cells #[.bool nv, .slice av lv cv] 24)
          replace sb := sb.alloc (.cells #[.bool nv, .slice av lv cv] 24)
          replace Tc := Tc.alloc (.cells #[.bool nv, .slice av lv cv] 24)
          replace sc := sc.alloc (.cells #[.bool nv, .slice av lv cv] 24)
          replace Td := Td.alloc (.cells #[.bool nv, .slice av lv cv] 24)
          replace sd := sd.alloc (.cells #[.bool nv, .slice av lv cv] 24)
          replace Tk := Tk.alloc (.cells #[.bool nv, .slice av lv cv] 24)
          replace sk := sk.alloc (.cells #[.bool nv, .slice av lv cv] 24)
          replace Tp_ := Tp_.alloc (.cells #[.bool nv, .slice av lv cv] 24)
          replace sp := sp.alloc (.cells #[.bool nv, .slice av lv cv] 24)
          replace Tq_ := Tq_.alloc (.cells #[.bool nv, .slice av lv cv] 24)
          replace sq := sq.alloc (.cells #[.bool nv, .slice av lv cv] 24)
          replace su := su.alloc (.cells #[.bool nv, .slice av lv cv] 24)
          replace Tu := Tu.alloc (.cells #[.bool nv, .slice av lv cv] 24)
          replace sv := sv.alloc (.cells #[.bool nv, .slice av lv cv] 24)
          replace cTa0 := Ta.cells.1
          replace cTa1 := Ta.cells.2
          replace zTa := Ta.lt
          replace cTb0 := Tb.cells.1
          replace cTb1 := Tb.cells.2
          replace zTb := Tb.lt
          replace cTc0 := Tc.cells.1
          replace cTc1 := Tc.cells.2
          replace zTc := Tc.lt
          replace cTd0 := Td.cells.1
          replace cTd1 := Td.cells.2
          replace zTd := Td.lt
          replace cTk0 := Tk.cells.1
          replace cTk1 := Tk.cells.2
          replace zTk := Tk.lt
          replace cTp_0 := Tp_.cells.1
          replace cTp_1 := Tp_.cells.2.1
          replace cTp_2 := Tp_.cells.2.2
          replace zTp_ := Tp_.lt
          replace cTq_0 := Tq_.cells.1
          replace cTq_1 := Tq_.cells.2.1
          replace cTq_2 := Tq_.cells.2.2
          replace zTq_ := Tq_.lt
          replace cTu0 := Tu.cells.1
          replace cTu1 := Tu.cells.2
          replace zTu := Tu.lt
          have Tv := BoxI.new w3 (w3.heap.size) (by first | rfl | simp) nv av lv cv
          have cTv0 := Tv.cells.1
          have cTv1 := Tv.cells.2
          have zTv := Tv.lt
          (with_reducible refine (Cm.out _ _ _ _ _ _ _ (by exact su) (by exact sv)).mono ?_)
          rintro e w4 ⟨rfl, b4⟩
          replace U0 := U0.trans (b4.mono U0.size)
          replace Ta := Ta.below b4
          replace sa := sa.below b4
          replace Tb := Tb.below b4
          replace sb := sb.below b4
          replace Tc := Tc.below b4
          replace sc := sc.below b4
          replace Td := Td.below b4
          replace sd := sd.below b4
          replace Tk := Tk.below b4
          replace sk := sk.below b4
          replace Tp_ := Tp_.below b4
          replace sp := sp.below b4
          replace Tq_ := Tq_.below b4
          replace sq := sq.below b4
          replace su := su.below b4
          replace Tu := Tu.below b4
          replace sv := sv.below b4
          replace Tv := Tv.below b4
          replace cTa0 := Ta.cells.1
          replace cTa1 := Ta.cells.2
          replace zTa := Ta.lt
          replace cTb0 := Tb.cells.1
          replace cTb1 := Tb.cells.2
          replace zTb := Tb.lt
          replace cTc0 := Tc.cells.1
          replace cTc1 := Tc.cells.2
          replace zTc := Tc.lt
          replace cTd0 := Td.cells.1
          replace cTd1 := Td.cells.2
          replace zTd := Td.lt
          replace cTk0 := Tk.cells.1
          replace cTk1 := Tk.cells.2
          replace zTk := Tk.lt
          replace cTp_0 := Tp_.cells.1
          replace cTp_1 := Tp_.cells.2.1
          replace cTp_2 := Tp_.cells.2.2
          replace zTp_ := Tp_.lt
          replace cTq_0 := Tq_.cells.1
          replace cTq_1 := Tq_.cells.2.1
          replace cTq_2 := Tq_.cells.2.2
          replace zTq_ := Tq_.lt
          replace cTu0 := Tu.cells.1
          replace cTu1 := Tu.cells.2
          replace zTu := Tu.lt
          replace cTv0 := Tv.cells.1
          replace cTv1 := Tv.cells.2
          replace zTv := Tv.lt
          clear b4
          have mq := MQ.out
          by_cases m0 : m = 0
          · have m1 : (m == 0) = true := by rw [m0]; rfl
            clear MQ mq m0; go_wp2; go_ret; exact ⟨rfl, U0⟩
          · have m1 : (m == 0) = false := by simpa using m0
            obtain rfl := mq m0
            have m2 : (m == m) = true := by simp
            clear MQ mq m0; go_wp2; go_ret; exact ⟨rfl, U0⟩

theorem numFractions_any (na : Bool) (aa : Option Addr) (la ca : Nat) (xa : List Int) (nb : Bool) (ab : Option Addr) (lb cb : Nat) (xb : List Int) (nc : Bool) (ac : Option Addr) (lc cc : Nat) (xc : List Int) (nd : Bool) (ad : Option Addr) (ld cd : Nat) (xd : List Int) (ne : Bool) (ae : Option Addr) (le ce : Nat) (xe : List Int) (nf : Bool) (af : Option Addr) (lf cf : Nat) (xf : List Int) (nk : Bool) (ak : Option Addr) (lk ck : Nat) (xk : List Int) (w : World) (ht : Tab w) (sa : Sl w aa la ca xa) (sb : Sl w ab lb cb xb) (sc : Sl w ac lc cc xc) (sd : Sl w ad ld cd xd) (se : Sl w ae le ce xe) (sf : Sl w af lf cf xf) (sk : Sl w ak lk ck xk) : Calls Tryz.prog 13 #[.agg #[.bool na, .slice aa la ca], .agg #[.bool nb, .slice ab lb cb], .agg #[.bool nc, .slice ac lc cc], .agg #[.bool nd, .slice ad ld cd], .agg #[.bool ne, .slice ae le ce], .agg #[.bool nf, .slice af lf cf], .agg #[.bool nk, .slice ak lk ck]] w (RetBool true w) := by
  cases hr : (!(wrong ⟨na, aa, la, ca, xa⟩ || (wrong ⟨nb, ab, lb, cb, xb⟩ || (wrong ⟨nc, ac, lc, cc, xc⟩ || (wrong ⟨nd, ad, ld, cd, xd⟩ || (wrong ⟨ne, ae, le, ce, xe⟩ || (wrong ⟨nf, af, lf, cf, xf⟩ || wrong ⟨nk, ak, lk, ck, xk⟩)))))))
  · exact frac_wrong na aa la ca xa nb ab lb cb xb nc ac lc cc xc nd ad ld cd xd ne ae le ce xe nf af lf cf xf nk ak lk ck xk w ht sa sb sc sd se sf sk hr
  · have h := hr
    simp only [Bool.not_eq_true', Bool.or_eq_false_iff] at h
    obtain ⟨za, Na⟩ := wrong_no sa h.1
    obtain ⟨zb, Nb⟩ := wrong_no sb h.2.1
    obtain ⟨zc, Nc⟩ := wrong_no sc h.2.2.1
    obtain ⟨zd, Nd⟩ := wrong_no sd h.2.2.2.1
    obtain ⟨ze, Ne⟩ := wrong_no se h.2.2.2.2.1
    obtain ⟨zf, Nf⟩ := wrong_no sf h.2.2.2.2.2.1
    obtain ⟨zk, Nk⟩ := wrong_no sk h.2.2.2.2.2.2
    obtain ⟨vb, hb⟩ : ∃ v, cmp3 zb 0 = v := ⟨_, rfl⟩
    obtain ⟨vd, hd⟩ : ∃ v, cmp3 zd 0 = v := ⟨_, rfl⟩
    obtain ⟨vf, hf⟩ : ∃ v, cmp3 zf 0 = v := ⟨_, rfl⟩
    cases qb : decide (vb ≤ 0)
    · cases qd : decide (vd ≤ 0)
      · cases qf : decide (vf ≤ 0)
        · exact frac_right na aa la ca xa nb ab lb cb xb nc ac lc cc xc nd ad ld cd xd ne ae le ce xe nf af lf cf xf nk ak lk ck xk w ht sa sb sc sd se sf sk za Na zb Nb zc Nc zd Nd ze Ne zf Nf zk Nk vb hb qb vd hd qd vf hf qf hr
        · exact frac_nof na aa la ca xa nb ab lb cb xb nc ac lc cc xc nd ad ld cd xd ne ae le ce xe nf af lf cf xf nk ak lk ck xk w ht sa sb sc sd se sf sk zb Nb vb hb qb zd Nd vd hd qd zf Nf vf hf qf hr
      · exact frac_nod na aa la ca xa nb ab lb cb xb nc ac lc cc xc nd ad ld cd xd ne ae le ce xe nf af lf cf xf nk ak lk ck xk w ht sa sb sc sd se sf sk zb Nb vb hb qb zd Nd vd hd qd hr
    · exact frac_nob na aa la ca xa nb ab lb cb xb nc ac lc cc xc nd ad ld cd xd ne ae le ce xe nf af lf cf xf nk ak lk ck xk w ht sa sb sc sd se sf sk zb Nb vb hb qb hr
end Go.Proofs.YtcmocjfnmfiieaaGreatDoor

/- NumFractions: for every input the law answers true, and each argument reads afterwards as it read before. Condition: the table of the powers of ten lies as the program's text lays it (tied by the card). -/
namespace Go.Proofs.YtcmocjfnmfiieaaGreatDoor.lawNumFractions
open Go.ChangeShapes Go.WideShapes Go.ChangeAt Go.RowKit

theorem door_met (os : Os) (args : Array Value) : laidMetH Tryz.prog Rows.numFractionsRow.laid ((World.doorLaid Tryz.prog 24 os).forCall (fun _ _ => 0) ⟨#[], args, []⟩).memory :=
  laidMetH_of_parts3 (fuel := 8) (laidMet_of_run' 8 (by kernel_rfl) (by kernel_rfl)) (by kernel_rfl) (by kernel_rfl)

set_option maxRecDepth 100000 in
theorem lifted (os : Os) (started : os.Started) (H : Type) (enc : TypeId × Value → H) :
    ReturnsInHanded {} Tryz.checked os 13 .any (fun w args => (Rows.numFractionsSpec.pre enc Tryz.prog Tryz.f13 [] false w args ∧ laidMetH Tryz.prog Rows.numFractionsRow.laid w) ∧ sizedMet enc Tryz.prog Tryz.f13 (OpenSpec.ofChange Rows.numFractionsSpec) false w args)
      (Rows.numFractionsSpec.post enc Tryz.prog Tryz.f13 false true false false) := by
  refine returnsInHanded_of_change_and (C := Tryz.checked) (X := fun w _ => laidMetH Tryz.prog Rows.numFractionsRow.laid w) (fun _ _ _ hh h => h.of_heap hh) lift_own started (by kernel_rfl) Tryz.func13
    (ChangeSpec.witness_shaped (enc := enc) (C := Tryz.checked) (os := os) (X := fun w _ => laidMetH Tryz.prog Rows.numFractionsRow.laid w) false (World.doorLaid Tryz.prog 24 os) #[.agg #[.bool false, .slice none 0 0], .agg #[.bool false, .slice none 0 0], .agg #[.bool false, .slice none 0 0], .agg #[.bool false, .slice none 0 0], .agg #[.bool false, .slice none 0 0], .agg #[.bool false, .slice none 0 0], .agg #[.bool false, .slice none 0 0]] 8 rfl (World.shaped_of_RefB (by kernel_rfl) (by kernel_rfl)) (by kernel_rfl) (by kernel_rfl) (by kernel_rfl) (door_met os _)) ?_
  intro W base args ds gs before hval0 hW _ _ hL _
  have hval : ∀ (j : Nat) t v, Tryz.f13.params[j]? = some t → args[j]? = some v → Value.okWide Tryz.prog W .any base t v := hval0
  have hW' := hW
  obtain ⟨p, q, hA0, hV, rfl, hfz, hnd⟩ := hW
  have hA : DataW.TrodAll enc Tryz.prog W 0 (fun _ => true) true Tryz.f13.params.toList args.toList ds p := hA0
  rw [Tryz.params13] at hA hval
  clear hA0 hval0
  obtain ⟨v0, vs0, d0, ds0, p0, q0, hargs, rfl, rfl, h0, r0⟩ := trodAll_cons hA
  obtain ⟨v1, vs1, d1, ds1, p1, q1, rfl, rfl, rfl, h1, r1⟩ := trodAll_cons r0
  obtain ⟨v2, vs2, d2, ds2, p2, q2, rfl, rfl, rfl, h2, r2⟩ := trodAll_cons r1
  obtain ⟨v3, vs3, d3, ds3, p3, q3, rfl, rfl, rfl, h3, r3⟩ := trodAll_cons r2
  obtain ⟨v4, vs4, d4, ds4, p4, q4, rfl, rfl, rfl, h4, r4⟩ := trodAll_cons r3
  obtain ⟨v5, vs5, d5, ds5, p5, q5, rfl, rfl, rfl, h5, r5⟩ := trodAll_cons r4
  obtain ⟨v6, vs6, d6, ds6, p6, q6, rfl, rfl, rfl, h6, r6⟩ := trodAll_cons r5
  obtain ⟨rfl, rfl, rfl⟩ := trodAll_nil r6
  obtain rfl : args = #[v0, v1, v2, v3, v4, v5, v6] := by cases args; simp_all
  obtain ⟨rfl, rfl⟩ := trodVars_none hV
  obtain ⟨n0, ao0, len0, cap0, xs0, rfl, s0⟩ := open_I (hval 0 24 v0 rfl rfl) h0
  obtain ⟨n1, ao1, len1, cap1, xs1, rfl, s1⟩ := open_I (hval 1 24 v1 rfl rfl) h1
  obtain ⟨n2, ao2, len2, cap2, xs2, rfl, s2⟩ := open_I (hval 2 24 v2 rfl rfl) h2
  obtain ⟨n3, ao3, len3, cap3, xs3, rfl, s3⟩ := open_I (hval 3 24 v3 rfl rfl) h3
  obtain ⟨n4, ao4, len4, cap4, xs4, rfl, s4⟩ := open_I (hval 4 24 v4 rfl rfl) h4
  obtain ⟨n5, ao5, len5, cap5, xs5, rfl, s5⟩ := open_I (hval 5 24 v5 rfl rfl) h5
  obtain ⟨n6, ao6, len6, cap6, xs6, rfl, s6⟩ := open_I (hval 6 24 v6 rfl rfl) h6
  simp only [List.append_nil] at hW'
  refine (numFractions_any n0 ao0 len0 cap0 xs0 n1 ao1 len1 cap1 xs1 n2 ao2 len2 cap2 xs2 n3 ao3 len3 cap3 xs3 n4 ao4 len4 cap4 xs4 n5 ao5 len5 cap5 xs5 n6 ao6 len6 cap6 xs6 W (lift_tab hL) s0 s1 s2 s3 s4 s5 s6).mono fun e W' ⟨he, hg⟩ => ?_
  subst he
  have hlt : ∀ x ∈ p0 ++ (p1 ++ (p2 ++ (p3 ++ (p4 ++ (p5 ++ (p6)))))), x.block < W.heap.size := fun x hx => hW'.lt x hx
  have in0 : ∀ x ∈ p0, x ∈ p0 ++ (p1 ++ (p2 ++ (p3 ++ (p4 ++ (p5 ++ (p6)))))) := fun x hx => by simp [hx]
  have in1 : ∀ x ∈ p1, x ∈ p0 ++ (p1 ++ (p2 ++ (p3 ++ (p4 ++ (p5 ++ (p6)))))) := fun x hx => by simp [hx]
  have in2 : ∀ x ∈ p2, x ∈ p0 ++ (p1 ++ (p2 ++ (p3 ++ (p4 ++ (p5 ++ (p6)))))) := fun x hx => by simp [hx]
  have in3 : ∀ x ∈ p3, x ∈ p0 ++ (p1 ++ (p2 ++ (p3 ++ (p4 ++ (p5 ++ (p6)))))) := fun x hx => by simp [hx]
  have in4 : ∀ x ∈ p4, x ∈ p0 ++ (p1 ++ (p2 ++ (p3 ++ (p4 ++ (p5 ++ (p6)))))) := fun x hx => by simp [hx]
  have in5 : ∀ x ∈ p5, x ∈ p0 ++ (p1 ++ (p2 ++ (p3 ++ (p4 ++ (p5 ++ (p6)))))) := fun x hx => by simp [hx]
  have in6 : ∀ x ∈ p6, x ∈ p0 ++ (p1 ++ (p2 ++ (p3 ++ (p4 ++ (p5 ++ (p6)))))) := fun x hx => by simp [hx]
  exact ⟨_, rfl, post_of_below (pv := []) hW' (fun _ _ _ => (trodAll_cons_mk (shut_bool Tryz.underlying4 _) trodAll_mk0)) (fun sp hsp => (trodAll_cons_mk (again_I h0 hg (fun x hx => hlt x (in0 x hx)) (fun x hx => hsp x (in0 x hx))) (trodAll_cons_mk (again_I h1 hg (fun x hx => hlt x (in1 x hx)) (fun x hx => hsp x (in1 x hx))) (trodAll_cons_mk (again_I h2 hg (fun x hx => hlt x (in2 x hx)) (fun x hx => hsp x (in2 x hx))) (trodAll_cons_mk (again_I h3 hg (fun x hx => hlt x (in3 x hx)) (fun x hx => hsp x (in3 x hx))) (trodAll_cons_mk (again_I h4 hg (fun x hx => hlt x (in4 x hx)) (fun x hx => hsp x (in4 x hx))) (trodAll_cons_mk (again_I h5 hg (fun x hx => hlt x (in5 x hx)) (fun x hx => hsp x (in5 x hx))) (trodAll_cons_mk (again_I h6 hg (fun x hx => hlt x (in6 x hx)) (fun x hx => hsp x (in6 x hx))) trodAll_mk0)))))))) (fun _ _ => rfl) (by simp)
    hg (ok_one (by kernel_rfl) rfl (okWide_bool_mk Tryz.underlying4 _))⟩

theorem over : Rows.numFractionsRow.holds Tryz.pinned (OpenSpec.ofChange Rows.numFractionsSpec) :=
  OpenClaim.holds_of_wide 13 Tryz.f13 rfl rfl rfl rfl rfl rfl rfl ⟨rfl, rfl, rfl, rfl, rfl⟩ rfl rfl rfl rfl rfl (by kernel_rfl) Tryz.func13 (by kernel_rfl)
    (of_decide_eq_true (by kernel_rfl)) (by unfold Func.isWrapper; first | (rw [if_pos (by decide +kernel)]; kernel_rfl) | (rw [if_neg (by decide +kernel)]; exact ⟨rfl, rfl⟩))
    (fun os started H enc _ => lifted os started H enc)

theorem plain (f : FuncId) (fn : Func) (hf : Tryz.pinned.checked.prog.funcNamed "foregone/foregonelaw01.NumFractions" = some f) (hfn : Tryz.pinned.checked.prog.funcs[f]? = some fn) :
    false = Tryz.pinned.checked.prog.looks [] ∧ ∀ (j : Nat) t, fn.params[j]? = some t → Tryz.pinned.checked.prog.wantsStandIn t = false := by
  obtain rfl : f = 13 := Option.some.inj ((show Tryz.prog.funcNamed "foregone/foregonelaw01.NumFractions" = some 13 by kernel_rfl).symm.trans hf) |>.symm
  obtain rfl : fn = Tryz.f13 := (Option.some.inj (Tryz.func13.symm.trans hfn)).symm
  refine ⟨by kernel_rfl, fun j t ht => ?_⟩
  rw [Tryz.params13] at ht
  have hm : t ∈ [24] := by simpa using Array.mem_of_getElem? ht
  have hall : ([24].all fun u => !Tryz.prog.wantsStandIn u) = true := by kernel_rfl
  exact (show Tryz.prog.wantsStandIn t = false by simpa using List.all_eq_true.1 hall t hm)

theorem card : Rows.NumFractionsCardSaid :=
  Claim7.holds_tied_plain_at .later [] _ _ _ _ over (fun _ h => by cases h) (by kernel_rfl) (fun _ h => by cases h) numFractions_row_tie rfl ⟨rfl, rfl⟩ (by kernel_rfl) rfl plain (by kernel_rfl)
end Go.Proofs.YtcmocjfnmfiieaaGreatDoor.lawNumFractions

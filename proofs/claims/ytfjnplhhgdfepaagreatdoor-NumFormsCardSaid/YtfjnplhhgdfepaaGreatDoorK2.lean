/- Contracts of the functions of package num and of the law's helpers, part 2: each call ends and hands back what its contract says, for all arguments within the contract's premises. -/
import Derived.Defers
import Derived.Recover
import Derived.WalkLawsBesides
import Derived.Lib.Strings
import Derived.RangeFuncNested
import Derived.RangeFuncBound
import Derived.RangeFuncCalls
import Derived.RangeFuncLeaves
import Derived.RangeFuncBox
import Derived.Shelf.Abstract
import Derived.Shelf.RegionOpen
import Derived.OwnWalkIn
import Derived.TacticsInMore
import Derived.LoopNIn
import Derived.LoopIn
import Derived.Test.YtfjnplhhgdfepaaGreatDoorK1
set_option linter.all false

/- Sign, Compare and Check at data of any kind. -/
namespace Go.Proofs.YtfjnplhhgdfepaaGreatDoor
open Go.RowKit

/-- A call that hands back a number; what was there is as it was. -/
def RetB (n : Int) (w : World) (e : Ending) (w' : World) : Prop := e = .returned (.int .i64 n) ∧ Below w.heap.size w w'

def signOf (neg : Bool) (len : Nat) : Int := if len = 0 then 0 else if neg then -1 else 1
theorem sign_any (neg : Bool) (ao : Option Addr) (len cap : Nat) (w : World) (hm : len ≤ 9223372036854775807) :
    Calls Tryz.prog 40 #[.agg #[.bool neg, .slice ao len cap]] w (RetB (signOf neg len) w) := by
  have hb := (Below.refl w.heap.size w).alloc (Nat.le_refl _) (.cells #[.bool neg, .slice ao len cap] 24)
  by_cases h : len = 0
  · subst h
    go_enter Tryz.func40, Tryz.ntmps40
    go_wp2
    go_ret
    exact ⟨rfl, hb⟩
  · have h1 : (len : Int) ≠ 0 := by omega
    have h0 : ((len : Int) == 0) = false := by simpa using h1
    cases neg
    · go_enter Tryz.func40, Tryz.ntmps40
      go_wp2
      go_ret
      exact ⟨by unfold signOf; rw [if_neg h]; rfl, hb⟩
    · go_enter Tryz.func40, Tryz.ntmps40
      go_wp2
      go_ret
      exact ⟨by unfold signOf; rw [if_neg h]; rfl, hb⟩

def cmpI (n1 : Bool) (xs : List Int) (n2 : Bool) (ys : List Int) : Int := if n1 && !n2 then -1 else if n2 && !n1 then 1 else if n1 then cmpL ys xs else cmpL xs ys
theorem below2 (w : World) (o p : Obj) : Below w.heap.size w ((w.alloc o).alloc p) := ((Below.refl _ w).alloc (Nat.le_refl _) _).alloc (by simp) _
set_option maxHeartbeats 1000000 in
theorem compare_any (n1 : Bool) (ax : Option Addr) (la ca : Nat) (xs : List Int) (n2 : Bool) (ay : Option Addr) (lb cb : Nat) (ys : List Int) (w : World) (hx : Sl w ax la ca xs) (hy : Sl w ay lb cb ys) :
    Calls Tryz.prog 38 #[.agg #[.bool n1, .slice ax la ca], .agg #[.bool n2, .slice ay lb cb]] w (RetB (cmpI n1 xs n2 ys) w) := by
  have hb := below2 w (.cells #[.bool n1, .slice ax la ca] 24) (.cells #[.bool n2, .slice ay lb cb] 24)
  cases n1 <;> cases n2
  · go_enter Tryz.func38, Tryz.ntmps38
    go_wp2_with fail
    refine (comp_below _ _ _ _ _ _ _ _ _ ((hx.alloc _).alloc _) ((hy.alloc _).alloc _)).mono ?_
    rintro e w0 ⟨rfl, hb0⟩
    go_wp2
    go_ret
    exact ⟨rfl, (kept2 _ _ _ hb0).2.2.2⟩
  · go_enter Tryz.func38, Tryz.ntmps38
    go_wp2
    go_ret
    exact ⟨rfl, hb⟩
  · go_enter Tryz.func38, Tryz.ntmps38
    go_wp2
    go_ret
    exact ⟨rfl, hb⟩
  · go_enter Tryz.func38, Tryz.ntmps38
    go_wp2_with fail
    refine (comp_below _ _ _ _ _ _ _ _ _ ((hy.alloc _).alloc _) ((hx.alloc _).alloc _)).mono ?_
    rintro e w0 ⟨rfl, hb0⟩
    go_wp2
    go_ret
    exact ⟨rfl, (kept2 _ _ _ hb0).2.2.2⟩

/-- Whether a sign and parts are an integer. -/
def okInt (neg : Bool) (xs : List Int) : Bool := decide (xs.length ≤ 40) && (if xs.length = 0 then !neg else decide (∀ j, j < xs.length → 0 ≤ xs.getD j 0 ∧ xs.getD j 0 < 1000000000) && !(xs.getD (xs.length - 1) 0 == 0))
/-- The numbers that are integers. -/
def Lim (z : Int) : Prop := (parts z.natAbs).length ≤ 40
theorem getLast_getD (xs : List Int) (h : xs.length ≠ 0) : xs.getLast? = some (xs.getD (xs.length - 1) 0) := by
  rw [List.getLast?_eq_getElem?, getD_of_lt _ _ (by omega), List.getElem?_eq_getElem (by omega)]
theorem okInt_iff (neg : Bool) (xs : List Int) : okInt neg xs = true ↔ ∃ z, Lim z ∧ neg = decide (z < 0) ∧ xs = parts z.natAbs := by
  unfold okInt Lim
  constructor
  · intro h
    simp only [Bool.and_eq_true, decide_eq_true_eq] at h
    obtain ⟨h1, h2⟩ := h
    by_cases h0 : xs.length = 0
    · rw [if_pos h0] at h2
      obtain rfl : xs = [] := List.eq_nil_of_length_eq_zero h0
      exact ⟨0, by simp [parts_zero], by simpa using h2, by simp [parts_zero]⟩
    · rw [if_neg h0] at h2
      simp only [Bool.and_eq_true, decide_eq_true_eq, Bool.not_eq_true', beq_eq_false_iff_ne] at h2
      obtain ⟨h3, h4⟩ := h2
      have hd : Dig xs := by
        intro x hx
        obtain ⟨j, hj, rfl⟩ := List.getElem_of_mem hx
        have := h3 j hj
        rwa [getD_of_lt _ _ hj] at this
      have hc := canon hd (by rw [getLast_getD xs h0]; simpa using h4)
      have hv := val_nonneg hd
      have hne : (val xs).toNat ≠ 0 := by
        intro e; rw [e, parts_zero] at hc; rw [hc] at h0; exact h0 rfl
      have hn := num_natAbs neg hv
      refine ⟨num neg (val xs), by rw [hn, ← hc]; exact h1, ?_, by rw [hn]; exact hc⟩
      rw [num_neg neg hv]
      simp [show 0 < val xs by omega]
  · rintro ⟨z, h1, rfl, rfl⟩
    simp only [Bool.and_eq_true, decide_eq_true_eq]
    refine ⟨h1, ?_⟩
    by_cases h0 : (parts z.natAbs).length = 0
    · rw [if_pos h0]
      have := (parts_nil_iff _).1 (List.eq_nil_of_length_eq_zero h0)
      simp; omega
    · rw [if_neg h0]
      simp only [Bool.and_eq_true, decide_eq_true_eq, Bool.not_eq_true', beq_eq_false_iff_ne]
      refine ⟨fun j _ => (parts_dig _).getD j, fun e => ?_⟩
      have := parts_last z.natAbs
      rw [getLast_getD _ h0, e] at this
      exact this rfl

def errOf (ok : Bool) : Int := if ok then 0 else 10
set_option maxHeartbeats 1000000 in
theorem check_any (neg : Bool) (ao : Option Addr) (len cap : Nat) (xs : List Int) (w : World) (hs0 : Sl w ao len cap xs) :
    Calls Tryz.prog 20 #[.agg #[.bool neg, .slice ao len cap]] w (RetB (errOf (okInt neg xs)) w) := by
  have hb := (Below.refl w.heap.size w).alloc (Nat.le_refl _) (.cells #[.bool neg, .slice ao len cap] 24)
  have hs := hs0.alloc (.cells #[.bool neg, .slice ao len cap] 24)
  have hl := Lib.hid hs.length
  have hbd := hs.len_le
  by_cases h40 : 40 < len
  · go_enter Tryz.func20, Tryz.ntmps20
    go_wp2
    go_ret
    refine ⟨?_, hb⟩
    have : okInt neg xs = false := by unfold okInt; rw [hl.out]; simp; intro h; omega
    rw [this]; rfl
  · by_cases h0 : len = 0
    · subst h0
      have ho : okInt neg xs = !neg := by unfold okInt; rw [hl.out]; simp
      rw [ho]
      cases neg
      · go_enter Tryz.func20, Tryz.ntmps20
        go_wp2
        go_ret
        exact ⟨rfl, hb⟩
      · go_enter Tryz.func20, Tryz.ntmps20
        go_wp2
        go_ret
        exact ⟨rfl, hb⟩
    · have h1 : ((len : Int) == 0) = false := by simpa using h0
      have hno := fun (j : Nat) (hj : j < len) (hx : ¬ (0 ≤ xs.getD j 0 ∧ xs.getD j 0 < 1000000000)) => (show okInt neg xs = false by
        unfold okInt
        have : decide (∀ j, j < xs.length → 0 ≤ xs.getD j 0 ∧ xs.getD j 0 < 1000000000) = false := by
          simp only [decide_eq_false_iff_not]
          intro h
          exact hx (h j (by rw [hl.out]; exact hj))
        rw [this, if_neg (by rw [hl.out]; exact h0)]; simp)
      have Hno := Lib.hid hno
      clear hno
      go_enter Tryz.func20, Tryz.ntmps20
      go_wp2
      go_loop [18] (fun i => ∃ k : Nat, k ≤ len ∧ i = .int .i64 k ∧ ∀ j, j < k → 0 ≤ xs.getD j 0 ∧ xs.getD j 0 < 1000000000) (fun i => len - (intOf i).toNat)
      case atStart => exact ⟨0, Nat.zero_le _, rfl, fun j hj => by omega⟩
      case round =>
        obtain ⟨k, hk, rfl, hall⟩ := hrel
        have Hall := Lib.hid hall
        clear hall
        by_cases hlt : k < len
        · obtain ⟨b, o, rfl, hc⟩ := hs.at (by omega)
          have hck := hc k hlt
          have hno := Hno.out k hlt
          have hyes := fun (j : Nat) (hj : j < k + 1) (h : 0 ≤ xs.getD k 0 ∧ xs.getD k 0 < 1000000000) => (show 0 ≤ xs.getD j 0 ∧ xs.getD j 0 < 1000000000 by
            by_cases e : j = k
            · subst e; exact h
            · exact Hall.out j (by omega))
          generalize hxk : xs.getD k 0 = x at hck hno hyes
          have Hyes := Lib.hid hyes
          clear hc hxk hyes
          by_cases hx0 : x < 0
          · have hr := Lib.hid (hno (by omega))
            clear hno
            go_wp2
            go_ret
            exact ⟨by rw [hr.out]; rfl, hb⟩
          · by_cases hx1 : 1000000000 ≤ x
            · have hr := Lib.hid (hno (by omega))
              clear hno
              go_wp2
              go_ret
              exact ⟨by rw [hr.out]; rfl, hb⟩
            · clear hno
              go_wp2
              go_round
              case rel => exact ⟨k + 1, hlt, by go_num, fun j hj => Hyes.out j hj (by omega)⟩
              case measure => simp [intOf]; omega
        · obtain rfl : k = len := by omega
          obtain ⟨b, o, rfl, hc⟩ := hs.at (by omega)
          have hck := hc (k - 1) (by omega)
          have hval := (show okInt neg xs = !(xs.getD (k - 1) 0 == 0) by
            unfold okInt
            have : decide (∀ j, j < xs.length → 0 ≤ xs.getD j 0 ∧ xs.getD j 0 < 1000000000) = true := by
              simp only [decide_eq_true_eq]
              intro j hj
              exact Hall.out j (by rw [hl.out] at hj; exact hj)
            rw [this, if_neg (by rw [hl.out]; exact h0), hl.out]; simp; omega)
          generalize hxk : xs.getD (k - 1) 0 = x at hck hval
          have Hval := Lib.hid hval
          obtain ⟨m, rfl⟩ : ∃ m, k = m + 1 := ⟨k - 1, by omega⟩
          simp only [Nat.add_sub_cancel] at hck
          clear hc hxk hval
          by_cases hx : x = 0
          · subst hx
            go_wp2
            go_ret
            exact ⟨by rw [Hval.out]; rfl, hb⟩
          · have hx' : (x == 0) = false := by simpa using hx
            go_wp2
            go_ret
            exact ⟨by rw [Hval.out, hx']; rfl, hb⟩
end Go.Proofs.YtfjnplhhgdfepaaGreatDoor

/- Powers: mathematics. -/
namespace Go.Proofs.YtfjnplhhgdfepaaGreatDoor

theorem lim_iff (z : Int) : Lim z ↔ z.natAbs < 1000000000 ^ 40 := by unfold Lim; exact parts_len _ _
theorem lim_mono {x y : Int} (h : x.natAbs ≤ y.natAbs) (hy : Lim y) : Lim x := by
  rw [lim_iff] at *
  exact Nat.lt_of_le_of_lt h hy
theorem lim_small (z : Int) (h : z.natAbs < 1000000000) : Lim z := by
  rw [lim_iff]
  exact Nat.lt_of_lt_of_le h (Nat.le_self_pow (by omega) _)
theorem two_pow (a b n : Nat) (h : a * b ≤ n) : (2 ^ a) ^ b ≤ 2 ^ n := by
  rw [← Nat.pow_mul]
  exact Nat.pow_le_pow_right (by omega) h
/-- A power of a number that is none of 0, 1 and -1, with an exponent from Base on, is too large. -/
theorem pow_big (x : Int) (n : Nat) (hx : 2 ≤ x.natAbs) (hn : 1200 ≤ n) : ¬ Lim (x ^ n) := by
  rw [lim_iff, Int.natAbs_pow]
  have h1 : 2 ^ n ≤ x.natAbs ^ n := Nat.pow_le_pow_left hx n
  have h2 := two_pow 30 40 n hn
  have h3 : (1000000000 : Nat) ^ 40 ≤ (2 ^ 30) ^ 40 := Nat.pow_le_pow_left (by decide) 40
  generalize x.natAbs ^ n = a at *
  generalize 2 ^ n = b at *
  generalize ((2 : Nat) ^ 30) ^ 40 = c at *
  generalize (1000000000 : Nat) ^ 40 = d at *
  omega
/-- What the loop of powers keeps. -/
def PowInv (x : Int) (n : Nat) (r s : Int) (l : Nat) : Prop := r * s ^ l = x ^ n ∧ 1 ≤ r.natAbs ∧ 1 ≤ s.natAbs
theorem PowInv.start (x : Int) (n : Nat) (hx : 1 ≤ x.natAbs) : PowInv x n 1 x n := ⟨by omega, by simp, hx⟩
theorem natAbs_pos_mul {a b : Int} (ha : 1 ≤ a.natAbs) (hb : 1 ≤ b.natAbs) : 1 ≤ (a * b).natAbs := by
  rw [Int.natAbs_mul]; exact Nat.mul_le_mul ha hb
theorem natAbs_le_mul {a b : Int} (hb : 1 ≤ b.natAbs) : a.natAbs ≤ (a * b).natAbs := by
  rw [Int.natAbs_mul]; exact Nat.le_mul_of_pos_right _ hb
theorem natAbs_pow_pos {a : Int} (ha : 1 ≤ a.natAbs) (n : Nat) : 1 ≤ (a ^ n).natAbs := by
  rw [Int.natAbs_pow]; exact Nat.pow_pos ha
theorem PowInv.odd {x : Int} {n : Nat} {r s : Int} {l : Nat} (h : PowInv x n r s l) (hl : l % 2 = 1) :
    (r * s).natAbs ≤ (x ^ n).natAbs ∧ r * s * s ^ (l - 1) = x ^ n ∧ 1 ≤ (r * s).natAbs := by
  obtain ⟨h1, h2, h3⟩ := h
  have e : r * s * s ^ (l - 1) = x ^ n := by
    rw [← h1, Int.mul_assoc, ← Int.pow_succ', show l - 1 + 1 = l by omega]
  exact ⟨by rw [← e]; exact natAbs_le_mul (natAbs_pow_pos h3 _), e, natAbs_pos_mul h2 h3⟩
theorem PowInv.square {x : Int} {n : Nat} {r s : Int} {l : Nat} (h : r * s ^ l = x ^ n) (h2 : 1 ≤ r.natAbs) (h3 : 1 ≤ s.natAbs) (hl : 2 ≤ l) : (s * s).natAbs ≤ (x ^ n).natAbs := by
  have e : s * s * (s ^ (l - 2) * r) = x ^ n := by
    rw [← h]
    have : s ^ l = s * s * s ^ (l - 2) := by
      conv => lhs; rw [show l = l - 2 + 1 + 1 by omega]
      rw [Int.pow_succ, Int.pow_succ]; grind
    rw [this]; grind
  rw [← e]; exact natAbs_le_mul (natAbs_pos_mul (natAbs_pow_pos h3 _) h2)
/-- A round, the square squared, whether or not the result took it. -/
theorem PowInv.half {x : Int} {n : Nat} {r s : Int} {l : Nat} (h : r * s ^ l = x ^ n) (he : l % 2 = 0) : r * (s * s) ^ (l / 2) = x ^ n := by
  have : (s * s) ^ (l / 2) = s ^ l := by
    rw [Int.mul_pow, ← Int.pow_add, show l / 2 + l / 2 = l by omega]
  rw [this]; exact h
end Go.Proofs.YtfjnplhhgdfepaaGreatDoor

/- Choices: mathematics. -/
namespace Go.Proofs.YtfjnplhhgdfepaaGreatDoor

/-- How many subsets with k elements a set with n elements has. -/
def ch : Nat → Nat → Nat
  | _, 0 => 1
  | 0, _ + 1 => 0
  | n + 1, k + 1 => ch n k + ch n (k + 1)
theorem ch_zero (n : Nat) : ch n 0 = 1 := by cases n <;> rfl
theorem ch_succ (n k : Nat) : ch (n + 1) (k + 1) = ch n k + ch n (k + 1) := rfl
theorem ch_gt : ∀ (n k : Nat), n < k → ch n k = 0
  | 0, 0, h => by omega
  | 0, k + 1, _ => rfl
  | n + 1, 0, h => by omega
  | n + 1, k + 1, h => by rw [ch_succ, ch_gt n k (by omega), ch_gt n (k + 1) (by omega)]
theorem ch_self (n : Nat) : ch n n = 1 := by
  induction n with
  | zero => rfl
  | succ n ih => rw [ch_succ, ih, ch_gt n (n + 1) (by omega)]
theorem ch_step : ∀ (n k : Nat), k ≤ n → ch n (k + 1) * (k + 1) = ch n k * (n - k)
  | 0, k, h => by
    obtain rfl : k = 0 := by omega
    rfl
  | n + 1, 0, _ => by
    have := ch_step n 0 (by omega)
    rw [ch_succ, ch_zero, ch_zero] at *
    simp at *; omega
  | n + 1, k + 1, h => by
    have h1 := ch_step n k (by omega)
    rw [ch_succ, ch_succ n k]
    by_cases hk : k + 1 ≤ n
    · have h2 := ch_step n (k + 1) hk
      have e1 : n - k = n - (k + 1) + 1 := by omega
      rw [e1] at h1
      have e2 : n + 1 - (k + 1) = n - (k + 1) + 1 := by omega
      rw [e2]
      generalize n - (k + 1) = d at *
      generalize ch n k = a at *
      generalize ch n (k + 1) = b at *
      generalize ch n (k + 1 + 1) = c at *
      grind
    · obtain rfl : k = n := by omega
      rw [ch_gt k (k + 1) (by omega), ch_gt k (k + 1 + 1) (by omega)]
      simp
theorem ch_symm : ∀ (n k : Nat), k ≤ n → ch n (n - k) = ch n k
  | 0, k, h => by
    obtain rfl : k = 0 := by omega
    rfl
  | n + 1, 0, _ => by rw [Nat.sub_zero, ch_self, ch_zero]
  | n + 1, k + 1, h => by
    by_cases hk : k + 1 ≤ n
    · have h1 := ch_symm n k (by omega)
      have h2 := ch_symm n (k + 1) hk
      rw [show n + 1 - (k + 1) = n - (k + 1) + 1 by omega, ch_succ, ch_succ, h2, show n - (k + 1) + 1 = n - k by omega, h1]; omega
    · obtain rfl : k = n := by omega
      rw [Nat.sub_self, ch_zero, ch_self]
theorem ch_pos (n k : Nat) (h : k ≤ n) : 0 < ch n k := by
  induction n generalizing k with
  | zero => obtain rfl : k = 0 := by omega
            exact Nat.one_pos
  | succ n ih =>
    cases k with
    | zero => rw [ch_zero]; omega
    | succ k => rw [ch_succ]; have := ih k (by omega); omega
theorem ch_le_succ (n k : Nat) (h : 2 * (k + 1) ≤ n + 1) : ch n k ≤ ch n (k + 1) := by
  have h1 := ch_step n k (by omega)
  have h2 : ch n k * (k + 1) ≤ ch n k * (n - k) := Nat.mul_le_mul_left _ (by omega)
  rw [← h1] at h2
  exact Nat.le_of_mul_le_mul_right h2 (by omega)
theorem ch_mono (n j k : Nat) (hj : j ≤ k) (h : 2 * k ≤ n + 1) : ch n j ≤ ch n k := by
  induction k with
  | zero => obtain rfl : j = 0 := by omega
            exact Nat.le_refl _
  | succ k ih =>
    by_cases e : j = k + 1
    · subst e; exact Nat.le_refl _
    · exact Nat.le_trans (ih (by omega) (by omega)) (ch_le_succ n k h)
theorem ch_min (n k : Nat) (h : k ≤ n) : ch n (min k (n - k)) = ch n k := by
  rcases Nat.le_total k (n - k) with h1 | h1
  · rw [Nat.min_eq_left h1]
  · rw [Nat.min_eq_right h1, ch_symm n k h]
theorem ch_div (n k : Nat) (h : k ≤ n) : ((n : Int) - k) * ch n k / (k + 1) = ch n (k + 1) := by
  have h1 := ch_step n k h
  have h2 : ((n : Int) - k) * ch n k = (k + 1) * ch n (k + 1) := by
    have : ((ch n (k + 1) * (k + 1) : Nat) : Int) = ((ch n k * (n - k) : Nat) : Int) := by rw [h1]
    rw [Int.natCast_mul, Int.natCast_mul, Int.natCast_sub h] at this
    grind
  rw [h2, Int.mul_ediv_cancel_left _ (by omega)]
end Go.Proofs.YtfjnplhhgdfepaaGreatDoor

/- FromInt. -/
namespace Go.Proofs.YtfjnplhhgdfepaaGreatDoor
open Go.RowKit

theorem parts_digit (N : Nat) (ds : List Int) (m : Nat) (h : parts N = ds ++ parts m) (hm : 0 < m) : parts N = (ds ++ [(m : Int) % 1000000000]) ++ parts (m / 1000000000) := by
  rw [h, parts_pos m hm, Int.natCast_emod]; simp

theorem wrap_u64 (x : Int) : IntKind.u64.wrap x = x % 18446744073709551616 := by simp [IntKind.wrap, IntKind.signed, IntKind.bits]
theorem wrap_neg (n : Int) (h0 : -9223372036854775808 ≤ n) (h1 : n < 0) : IntKind.u64.wrap (-IntKind.u64.wrap n) = (n.natAbs : Int) := by
  rw [wrap_u64, wrap_u64]
  omega

set_option maxHeartbeats 1000000 in
theorem from_any (n : Int) (w : World) (h0 : -9223372036854775808 ≤ n) (h1 : n ≤ 9223372036854775807) :
    Calls Tryz.prog 23 #[.int .i64 n] w (RetN n w) := by
  obtain ⟨i0, hi, hz0, hz1, hz2⟩ := info_parts Tryz.info3
  have hmod : n.natAbs ≤ 9223372036854775808 := by omega
  have hl3 := (parts_len n.natAbs 3).2 (Nat.lt_of_le_of_lt hmod (by decide))
  have Hl3 := Lib.hid hl3
  clear hl3
  generalize hN : n.natAbs = N at *
  have HN := Lib.hid hN
  by_cases hneg : n < 0
  · have hw := Lib.hid (wrap_neg n h0 hneg)
    clear hN
    go_enter Tryz.func23, Tryz.ntmps23
    go_wp2
    rw [hw.out, HN.out]
    go_loopw [3, 4] (fun s v wr => ∃ (m : Nat) (ds : List Int), s = .int .u64 m ∧ m ≤ 9223372036854775808 ∧ wr.ownsRow (w.heap.size + 1) 3 1 v ds.length (ds.map (Value.int .i64)) ∧ parts N = ds ++ parts m ∧ Below (w.heap.size + 1) (w.alloc (.cells #[.bool false, .slice none 0 0] 24)) wr) (fun s _ _ => (intOf s).toNat)
    case atStart => exact ⟨N, [], rfl, hmod, ⟨rfl, .inl ⟨rfl, rfl⟩⟩, rfl, Below.refl _ _⟩
    case round =>
      obtain ⟨m, ds, rfl, hm, hown, hpd, hbel⟩ := hrel
      have hdl : ds.length ≤ 3 := by
        have := Hl3.out
        rw [hpd, List.length_append] at this; omega
      have Hpd := Lib.hid hpd
      have hbz := hbel.size
      simp at hbz
      clear hpd
      by_cases hm0 : 0 < m
      · have hstep := Lib.hid (parts_digit N ds m Hpd.out hm0)
        go_wp2_with (at_builtin; refine wpList_append_own _ rfl _ _ 22 rfl (w.heap.size + 1) 3 i0 (.int .i64 0) 1 8 Tryz.underlying22 hi hz0 hz1 hz2 rfl (by decide) _ _ _ rfl (hown.alloc _) ⟨wr.heap.size, 0, none⟩ 1 1 [.int .i64 ((m : Int) % 1000000000)] rfl ?qc1 ?qc2 ?qc3 ?qc4 ?qc5 ?qc6 ?_)
        case qc1 => rfl
        case qc2 => exact cell_one_new _ _ _
        case qc3 => exact ints_oneCell .i64 [(m : Int) % 1000000000]
        case qc4 => unfold maxLen; omega
        case qc5 => omega
        case qc6 => simp; omega
        intro v' w1 hown' hgrow _
        go_wp2
        go_roundw
        case rel =>
          refine ⟨m / 1000000000, ds ++ [(m : Int) % 1000000000], congrArg (Value.int .u64) (by omega), by omega, ?_, hstep.out, (hbel.alloc (by omega) _).grown hgrow (by simp; omega) ?_⟩
          · rw [List.length_append, List.map_append]; exact hown'
          · intro k hk
            rcases hown.2 with ⟨rfl, _⟩ | ⟨g, cap, cur, rfl, hge, _⟩
            · simp [Value.ownBlock] at hk
            · simp [Value.ownBlock] at hk; omega
        case measure => simp [intOf]; omega
      · obtain rfl : m = 0 := by omega
        obtain ⟨ao, cap, rfl, hsl⟩ := Sl.of_owns hown
        have hdig : Dig ds := by have := parts_dig N; rw [Hpd.out] at this; exact fun y hy => this y (List.mem_append_left _ hy)
        have hds := Lib.hid (show ds = parts N by rw [Hpd.out, parts_zero, List.append_nil])
        go_wp2_with fail
        refine (signed_any _ _ _ _ _ _ hsl hdig).mono ?_
        rintro e w1 ⟨a2, l2, c2, rfl, hs2, hb2⟩
        have hval := Lib.hid (show val ds = (N : Int) by rw [hds.out, val_parts])
        obtain ⟨f1, f2, f3, f4, f5⟩ := box2 (w := w1) (g := w.heap.size) (by rw [hb2.block _ (by omega), hbel.block _ (by omega)]; exact heap_new w _)
        go_wp2
        refine bodyPost_ret (v := .agg #[.bool (decide (num true (val ds) < 0)), .slice a2 l2 c2]) (by simp [results, Tryz.results23, go_sem, f1, f2]) rfl ?_
        have hnum : num true (val ds) = n := by rw [hval.out]; have := HN.out; unfold num; simp; omega
        rw [hnum] at hs2 ⊢
        exact ⟨a2, l2, c2, rfl, hs2.store2 f1 f2 _ _, (((((Below.refl _ w).alloc (Nat.le_refl _) _).trans (hbel.mono (by omega))).trans (hb2.mono (by omega))).setCell (Nat.le_refl _) _).setCell (Nat.le_refl _) _⟩
  · obtain rfl : n = (N : Int) := by omega
    clear hN
    go_enter Tryz.func23, Tryz.ntmps23
    go_wp2
    go_loopw [3, 4] (fun s v wr => ∃ (m : Nat) (ds : List Int), s = .int .u64 m ∧ m ≤ 9223372036854775808 ∧ wr.ownsRow (w.heap.size + 1) 3 1 v ds.length (ds.map (Value.int .i64)) ∧ parts N = ds ++ parts m ∧ Below (w.heap.size + 1) (w.alloc (.cells #[.bool false, .slice none 0 0] 24)) wr) (fun s _ _ => (intOf s).toNat)
    case atStart => exact ⟨N, [], rfl, hmod, ⟨rfl, .inl ⟨rfl, rfl⟩⟩, rfl, Below.refl _ _⟩
    case round =>
      obtain ⟨m, ds, rfl, hm, hown, hpd, hbel⟩ := hrel
      have hdl : ds.length ≤ 3 := by
        have := Hl3.out
        rw [hpd, List.length_append] at this; omega
      have Hpd := Lib.hid hpd
      have hbz := hbel.size
      simp at hbz
      clear hpd
      by_cases hm0 : 0 < m
      · have hstep := Lib.hid (parts_digit N ds m Hpd.out hm0)
        go_wp2_with (at_builtin; refine wpList_append_own _ rfl _ _ 22 rfl (w.heap.size + 1) 3 i0 (.int .i64 0) 1 8 Tryz.underlying22 hi hz0 hz1 hz2 rfl (by decide) _ _ _ rfl (hown.alloc _) ⟨wr.heap.size, 0, none⟩ 1 1 [.int .i64 ((m : Int) % 1000000000)] rfl ?qc1 ?qc2 ?qc3 ?qc4 ?qc5 ?qc6 ?_)
        case qc1 => rfl
        case qc2 => exact cell_one_new _ _ _
        case qc3 => exact ints_oneCell .i64 [(m : Int) % 1000000000]
        case qc4 => unfold maxLen; omega
        case qc5 => omega
        case qc6 => simp; omega
        intro v' w1 hown' hgrow _
        go_wp2
        go_roundw
        case rel =>
          refine ⟨m / 1000000000, ds ++ [(m : Int) % 1000000000], congrArg (Value.int .u64) (by omega), by omega, ?_, hstep.out, (hbel.alloc (by omega) _).grown hgrow (by simp; omega) ?_⟩
          · rw [List.length_append, List.map_append]; exact hown'
          · intro k hk
            rcases hown.2 with ⟨rfl, _⟩ | ⟨g, cap, cur, rfl, hge, _⟩
            · simp [Value.ownBlock] at hk
            · simp [Value.ownBlock] at hk; omega
        case measure => simp [intOf]; omega
      · obtain rfl : m = 0 := by omega
        obtain ⟨ao, cap, rfl, hsl⟩ := Sl.of_owns hown
        have hdig : Dig ds := by have := parts_dig N; rw [Hpd.out] at this; exact fun y hy => this y (List.mem_append_left _ hy)
        have hds := Lib.hid (show ds = parts N by rw [Hpd.out, parts_zero, List.append_nil])
        go_wp2_with fail
        refine (signed_any _ _ _ _ _ _ hsl hdig).mono ?_
        rintro e w1 ⟨a2, l2, c2, rfl, hs2, hb2⟩
        have hval := Lib.hid (show val ds = (N : Int) by rw [hds.out, val_parts])
        obtain ⟨f1, f2, f3, f4, f5⟩ := box2 (w := w1) (g := w.heap.size) (by rw [hb2.block _ (by omega), hbel.block _ (by omega)]; exact heap_new w _)
        go_wp2
        refine bodyPost_ret (v := .agg #[.bool (decide (num (decide ((N : Int) < 0)) (val ds) < 0)), .slice a2 l2 c2]) (by simp [results, Tryz.results23, go_sem, f1, f2]) rfl ?_
        have hnum : num (decide ((N : Int) < 0)) (val ds) = (N : Int) := by rw [hval.out]; rw [show decide ((N : Int) < 0) = false by simp]; rfl
        rw [hnum] at hs2 ⊢
        exact ⟨a2, l2, c2, rfl, hs2.store2 f1 f2 _ _, (((((Below.refl _ w).alloc (Nat.le_refl _) _).trans (hbel.mono (by omega))).trans (hb2.mono (by omega))).setCell (Nat.le_refl _) _).setCell (Nat.le_refl _) _⟩
end Go.Proofs.YtfjnplhhgdfepaaGreatDoor

/- within: a calculation whose panic is recovered. -/
namespace Go.Proofs.YtfjnplhhgdfepaaGreatDoor
open Go.RowKit

/-- A calculation: it hands back the integer z, or it panics, where z is too large. -/
def Calc (z : Int) (w : World) (e : Ending) (w' : World) : Prop :=
  RetN z w e w' ∨ (∃ u pv, e = .panicked [{ v := .iface u pv, recovered := false }]) ∧ Below w.heap.size w w' ∧ ¬ Lim z
/-- A call that hands back an integer and a number. -/
def RetE (z n : Int) (w : World) (e : Ending) (w' : World) : Prop :=
  ∃ ao len cap, e = .returned (.tuple #[.agg #[.bool (decide (z < 0)), .slice ao len cap], .int .i64 n]) ∧ Sl w' ao len cap (parts z.natAbs) ∧ Below w.heap.size w w'

/-- A store of what a cell holds changes no slice. -/
theorem Sl.store_same {w : World} {ao : Option Addr} {len cap : Nat} {xs : List Int} (h : Sl w ao len cap xs) {g o : Nat} {v : Value} (hv : w.cell? ⟨g, o, none⟩ = some v) : Sl (w.setCell ⟨g, o, none⟩ v) ao len cap xs := by
  refine h.of_cells fun a u ha => ?_
  have hsp : a.spot = none := by
    unfold World.cell? at ha
    split at ha
    · by_cases hs : a.spot.isSome
      · rw [if_pos hs] at ha; cases ha
      · simpa using hs
    · cases ha
  by_cases e : (⟨g, o, none⟩ : Addr) = a
  · subst e
    rw [hv] at ha
    injection ha with ha
    subst ha
    unfold World.cell? at hv ⊢
    simp only [World.setCell, Array.getElem?_modify, if_true]
    cases hh : w.heap[g]? with
    | none => rw [hh] at hv; cases hv
    | some x =>
      rw [hh] at hv
      cases x <;> simp at hv ⊢
      rw [Array.getElem?_setIfInBounds, if_pos rfl, if_pos (Array.getElem?_eq_some_iff.1 hv).1]
  · rw [cell_set_ne e rfl hsp]; exact ha

theorem catch_idle (p q : Addr) (w : World) :
    CallsD Tryz.prog 136 #[.pointer (some p), .pointer (some q)] .returning w fun e u' w' => e = .returned (.tuple #[]) ∧ u' = .returning ∧ w' = w := by
  refine callsD_of_wpS Tryz.func136 rfl fun c₀ cs hu => ?_
  apply wpS_seq
  apply wpS_region
  simp [wpOpsS, go_sem, recoverD, hu, Tryz.ntmps136, Exit.thenS]
  refine wpS_cond (t := false) (by simp [Act.eval, Array.replicate]) ?_
  simp only [Bool.false_eq_true, if_false]
  refine wpS_of_wp (wp_skip ?_)
  cases c₀
  simp_all [bodyPostS, results, Tryz.results136]

theorem catch_panicking (g : Nat) (a : Bool) (b : Option Addr) (l c : Nat) (k : Int) (u : TypeId) (pv : Value) (older : List PanicEntry) (w : World) (hg : w.heap[g]? = some (.cells #[.bool a, .slice b l c] 24 (0, 0))) (hk : w.heap[g + 1]? = some (.cells #[.int .i64 k] 28 (0, 0))) :
    CallsD Tryz.prog 136 #[.pointer (some ⟨g, 0, none⟩), .pointer (some ⟨g + 1, 0, none⟩)] (.panicking ({ v := .iface u pv, recovered := false } :: older)) w fun e u' w' =>
      e = .returned (.tuple #[]) ∧ u' = .panicking ({ v := .iface u pv, recovered := true } :: older) ∧ w' = ((w.setCell ⟨g, 0, none⟩ (.bool false)).setCell ⟨g, 1, none⟩ (.slice none 0 0)).setCell ⟨g + 1, 0, none⟩ (.int .i64 2) := by
  obtain ⟨f1, f2, f3, f4, _⟩ := box2 hg
  have k1 : w.cell? ⟨g + 1, 0, none⟩ = some (.int .i64 k) := by simp [World.cell?, hk]
  have k2 : w.frozen? ⟨g + 1, 0, none⟩ = false := by simp [World.frozen?, hk]
  refine callsD_of_wpS Tryz.func136 rfl fun c₀ cs hu => ?_
  apply wpS_seq
  apply wpS_region
  simp [wpOpsS, go_sem, recoverD, hu, Tryz.ntmps136, Exit.thenS]
  refine wpS_cond (t := true) (by simp [Act.eval, Array.replicate]) ?_
  simp only [if_true]
  apply wpS_region
  simp [wpOpsS, go_sem, f1, f2, f3, f4, k1, k2, bodyPostS, results, Tryz.results136]

set_option maxHeartbeats 2000000 in

set_option maxHeartbeats 2000000 in
set_option maxRecDepth 100000 in
theorem within_any (z : Int) (f : Nat) (cap : Array Value) (w : World) (hcf : ∀ w, (callFunc f cap).run Tryz.prog w = .ok (.enter f cap) w) (hf : ∀ w1, Below w.heap.size w w1 → Calls Tryz.prog f cap w1 (Calc z w1)) :
    (Lim z → Calls Tryz.prog 111 #[.func (.func f) #[] cap] w (RetE z 0 w)) ∧ (¬ Lim z → Calls Tryz.prog 111 #[.func (.func f) #[] cap] w (RetE 0 2 w)) := by
  have hmf : ∀ (fn : Fn) (first cap : Array Value) (w : World), (Instr.makeFunc fn first cap).run Tryz.prog w = .ok (.func fn first cap) w := fun _ _ _ _ => rfl
  have Hf := Lib.hid hf
  clear hf
  constructor
  · intro hl
    have Hl := Lib.hid hl
    clear hl
    go_enter_defers Tryz.func111, Tryz.ntmps111
    go_wp2_with fail
    refine (Hf.out _ (below2 w _ _)).mono ?_
    rintro e w1 h
    rcases h with ⟨ao, len, c2, rfl, hs, hb⟩ | ⟨_, _, hno⟩
    · obtain ⟨hA, hB, hsz, hbb⟩ := kept2 _ _ _ hb
      have HA := Lib.hid hA; have HB := Lib.hid hB
      obtain ⟨f1, f2, f3, f4, f5⟩ := box2 hA
      have hle : len ≤ 40 := by have := Hl.out; unfold Lim at this; rwa [hs.length] at this
      generalize hdz : decide (z < 0) = dz
      have Hdz := Lib.hid hdz
      clear hA hB hb hdz
      go_wp2_with fail
      have hA1 := heap_set2 (u := .bool dz) (v := .slice ao len c2) HA.out
      have hB1 := (heap_set2_ne (w := w1) (g := w.heap.size) (k := w.heap.size + 1) (u := .bool dz) (v := .slice ao len c2) (by omega)).trans HB.out
      have hs1 := hs.store2 f1 f2 (.bool dz) (.slice ao len c2)
      have hbb1 := (hbb.setCell (p := ⟨w.heap.size, 0, none⟩) (Nat.le_refl _) (.bool dz)).setCell (p := ⟨w.heap.size, 1, none⟩) (Nat.le_refl _) (.slice ao len c2)
      have hsz1 : w.heap.size + 1 < ((w1.setCell ⟨w.heap.size, 0, none⟩ (.bool dz)).setCell ⟨w.heap.size, 1, none⟩ (.slice ao len c2)).heap.size := by simpa [World.setCell] using hsz
      generalize ((w1.setCell ⟨w.heap.size, 0, none⟩ (.bool dz)).setCell ⟨w.heap.size, 1, none⟩ (.slice ao len c2)) = w2 at *
      clear f1 f2 f3 f4 f5 HA HB
      refine (fit_ok _ _ _ _ _ hle).mono ?_
      rintro e w3 ⟨rfl, hb3⟩
      have hA3 := (hb3.block _ (by omega)).trans hA1
      have hB3 := (hb3.block _ (by omega)).trans hB1
      have hs3 := hs1.below hb3
      have hbb3 := hbb1.trans (hb3.mono hbb1.size)
      obtain ⟨f1, f2, f3, f4, f5⟩ := box2 hA3
      have k1 : w3.cell? ⟨w.heap.size + 1, 0, none⟩ = some (.int .i64 0) := by simp [World.cell?, hB3]
      have k2 : w3.frozen? ⟨w.heap.size + 1, 0, none⟩ = false := by simp [World.frozen?, hB3]
      clear hA1 hB1 hs1 hbb1 hsz1 hb3 hA3 hB3
      go_wp2
      refine leaves_cons (f := 136) (args := #[.pointer (some ⟨w.heap.size, 0, none⟩), .pointer (some ⟨w.heap.size + 1, 0, none⟩)]) (by simp) (by simp [go_sem]) ?_
      refine (catch_idle _ _ _).mono ?_
      rintro e u' w'' ⟨rfl, rfl, rfl⟩
      simp [Leaves, settle, results, Tryz.results111, go_sem, f1, f2, k1]
      exact ⟨ao, len, c2, by rw [Hdz.out], (hs3.store2 f1 f2 _ _).store_same (v := .int .i64 0) (set2_other k1 (by simp)), ((hbb3.setCell (by simp) _).setCell (by simp) _).setCell (by simp) _⟩
    · exact absurd Hl.out hno
  · intro hl
    have Hl := Lib.hid hl
    clear hl
    go_enter_defers Tryz.func111, Tryz.ntmps111
    go_wp2_with fail
    refine (Hf.out _ (below2 w _ _)).mono ?_
    rintro e w1 h
    rcases h with ⟨ao, len, c2, rfl, hs, hb⟩ | ⟨⟨u, pv, rfl⟩, hb, _⟩
    · obtain ⟨hA, hB, hsz, hbb⟩ := kept2 _ _ _ hb
      have HA := Lib.hid hA; have HB := Lib.hid hB
      obtain ⟨f1, f2, f3, f4, f5⟩ := box2 hA
      have hle : 40 < len := by
        have h1 := Hl.out; have h2 := hs.length
        unfold Lim at h1; omega
      have hlm := hs.len_le
      generalize hdz : decide (z < 0) = dz
      clear hA hB hb hdz
      go_wp2_with fail
      have hA1 := heap_set2 (u := .bool dz) (v := .slice ao len c2) HA.out
      have hB1 := (heap_set2_ne (w := w1) (g := w.heap.size) (k := w.heap.size + 1) (u := .bool dz) (v := .slice ao len c2) (by omega)).trans HB.out
      have hbb1 := (hbb.setCell (p := ⟨w.heap.size, 0, none⟩) (Nat.le_refl _) (.bool dz)).setCell (p := ⟨w.heap.size, 1, none⟩) (Nat.le_refl _) (.slice ao len c2)
      have hsz1 : w.heap.size + 1 < ((w1.setCell ⟨w.heap.size, 0, none⟩ (.bool dz)).setCell ⟨w.heap.size, 1, none⟩ (.slice ao len c2)).heap.size := by simpa [World.setCell] using hsz
      generalize ((w1.setCell ⟨w.heap.size, 0, none⟩ (.bool dz)).setCell ⟨w.heap.size, 1, none⟩ (.slice ao len c2)) = w2 at *
      clear f1 f2 f3 f4 f5 HA HB hs
      refine (fit_panics _ _ _ _ _ hle (by omega)).mono ?_
      rintro e w3 ⟨rfl, hb3⟩
      have hA3 := (hb3.block _ (by omega)).trans hA1
      have hB3 := (hb3.block _ (by omega)).trans hB1
      have hbb3 := hbb1.trans (hb3.mono hbb1.size)
      clear hA1 hB1 hbb1 hsz1 hb3
      go_wp2
      refine leaves_cons (f := 136) (args := #[.pointer (some ⟨w.heap.size, 0, none⟩), .pointer (some ⟨w.heap.size + 1, 0, none⟩)]) (by simp) (by simp [go_sem]) ?_
      refine (catch_panicking _ _ _ _ _ _ _ _ _ _ hA3 hB3).mono ?_
      rintro e u' w'' ⟨rfl, rfl, rfl⟩
      obtain ⟨f1, f2, f3, f4, f5⟩ := box2 hA3
      have k1 : w3.cell? ⟨w.heap.size + 1, 0, none⟩ = some (.int .i64 0) := by simp [World.cell?, hB3]
      simp [Leaves, settle, results, Tryz.results111, go_sem, f1, f2, k1]
      exact ⟨none, 0, 0, rfl, by simp only [Int.natAbs_zero]; rw [parts_zero]; exact Sl.nil _, ((hbb3.setCell (by simp) _).setCell (by simp) _).setCell (by simp) _⟩
    · obtain ⟨hA, hB, hsz, hbb⟩ := kept2 _ _ _ hb
      obtain ⟨f1, f2, f3, f4, f5⟩ := box2 hA
      have k1 : w1.cell? ⟨w.heap.size + 1, 0, none⟩ = some (.int .i64 0) := by simp [World.cell?, hB]
      have HA := Lib.hid hA; have HB := Lib.hid hB
      clear hA hB hb
      go_wp2
      refine leaves_cons (f := 136) (args := #[.pointer (some ⟨w.heap.size, 0, none⟩), .pointer (some ⟨w.heap.size + 1, 0, none⟩)]) (by simp) (by simp [go_sem]) ?_
      refine (catch_panicking _ _ _ _ _ _ _ _ _ _ HA.out HB.out).mono ?_
      rintro e u' w'' ⟨rfl, rfl, rfl⟩
      simp [Leaves, settle, results, Tryz.results111, go_sem, f1, f2, k1]
      exact ⟨none, 0, 0, rfl, by simp only [Int.natAbs_zero]; rw [parts_zero]; exact Sl.nil _, ((hbb.setCell (by simp) _).setCell (by simp) _).setCell (by simp) _⟩
end Go.Proofs.YtfjnplhhgdfepaaGreatDoor

/- choices. -/
namespace Go.Proofs.YtfjnplhhgdfepaaGreatDoor
open Go.RowKit

/-- Block g holds the integer z. -/
def IntBox (w : World) (g : Nat) (z : Int) : Prop := ∃ ao len cap, w.heap[g]? = some (.cells #[.bool (decide (z < 0)), .slice ao len cap] 24 (0, 0)) ∧ Sl w ao len cap (parts z.natAbs)

set_option maxHeartbeats 2000000 in
theorem choices_any (n k : Nat) (hn : n ≤ 4000) (hk : 2 * k ≤ n + 1) (w : World) :
    Calls Tryz.prog 113 #[.int .i64 n, .int .i64 k] w (Calc (ch n k) w) := by
  have hfr := fun w => from_any 1 w (by omega) (by omega)
  have Hfr := Lib.hid hfr
  clear hfr
  go_enter Tryz.func113, Tryz.ntmps113
  go_wp2_with fail
  refine (Hfr.out _).mono ?_
  rintro e w1 ⟨a1, l1, c1, rfl, hs1, hb1⟩
  obtain ⟨hR, hz1, hbb1⟩ := kept1 _ _ hb1
  have hbox : IntBox (w1.alloc (.cells #[.bool false, .slice a1 l1 c1] 24)) w1.heap.size 1 := ⟨a1, l1, c1, by rw [heap_new]; rfl, by simpa using hs1.alloc _⟩
  have hR' : (w1.alloc (.cells #[.bool false, .slice a1 l1 c1] 24)).heap[w.heap.size]? = _ := (Below.heap_alloc _ _ _ hz1).trans hR
  have hbb := hbb1.alloc (Nat.le_of_lt hz1) (.cells #[.bool false, .slice a1 l1 c1] 24)
  have HR := Lib.hid hR'
  clear hR hR' hb1 hs1 hbb1
  go_wp2
  generalize hg : w1.heap.size = g at *
  clear hg
  go_loopw [11] (fun iv wr => ∃ i : Nat, i ≤ k ∧ w.heap.size < g ∧ iv = .int .i64 i ∧ IntBox wr g (ch n i) ∧ wr.heap[w.heap.size]? = some (.cells #[.bool false, .slice none 0 0] 24 (0, 0)) ∧ Lim (ch n i) ∧ Below w.heap.size w wr) (fun iv _ => k - (intOf iv).toNat)
  case atStart => exact ⟨0, Nat.zero_le _, hz1, rfl, by rw [ch_zero]; exact hbox, HR.out, by rw [ch_zero]; exact lim_small _ (by simp), hbb⟩
  case round =>
    clear hbox hbb
    obtain ⟨i, hi, hgr, rfl, ⟨ao, len, cap, hbx, hsl⟩, hR, hlim, hbel⟩ := hrel
    have HBX := Lib.hid hbx
    have HR2 := Lib.hid hR
    have hglt : g < wr.heap.size := (Array.getElem?_eq_some_iff.1 hbx).1
    obtain ⟨k1, k2, k3, k4, k5⟩ := box2 hbx
    have hl40 : len ≤ 40 := by have := hlim; unfold Lim at this; rwa [hsl.length] at this
    have hds : decide ((ch n i : Int) < 0) = false := by simp
    rw [hds] at k1
    rw [Int.natAbs_natCast] at hsl
    by_cases hlt : i < k
    · have hmono := ch_mono n (i + 1) k hlt hk
      have hdiv := Lib.hid (ch_div n i (by omega))
      have Hmono := Lib.hid hmono
      clear hbx hR hmono hds
      go_wp2_with fail
      refine (mulSmall_any _ _ _ _ ((n : Int) - i) _ hsl (parts_dig _) (by omega) (by omega) (by omega)).mono ?_
      rintro e w2 ⟨g2, zs, n2, rfl, hg2, hr2, hn2, ⟨hz1, hz2, hz3⟩, hb2⟩
      obtain rfl : n2 = len + 1 := by omega
      have hsl2 := hr2.sl _ hn2 (by omega)
      have HB2 := Lib.hid ((hb2.block _ hglt).trans HBX.out)
      have HR3 := Lib.hid ((hb2.block _ (by omega)).trans HR2.out)
      have hb2z := hb2.size
      have Hz3 := Lib.hid hz3
      have Hz2 := Lib.hid hz2
      have hbel2 := hbel.trans (hb2.mono hbel.size)
      clear hb2 hz3 hz2 hr2 HBX HR2 hn2 k1 k2 k3 k4 k5
      go_wp2_with fail
      refine (divSmall_any _ _ _ _ ((i : Int) + 1) _ hsl2 Hz2.out (by omega) (by omega) (by omega)).mono ?_
      rintro e w3 ⟨a3, l3, c3, rfl, hs3, hb3⟩
      have hv3 : (val zs / ((i : Int) + 1)).toNat = ch n (i + 1) := by
        rw [Hz3.out, val_parts, hdiv.out, Int.toNat_natCast]
      rw [hv3] at hs3
      have HB3 := Lib.hid ((hb3.block _ (by omega)).trans HB2.out)
      have HR4 := Lib.hid ((hb3.block _ (by omega)).trans HR3.out)
      have hb3z := hb3.size
      have hbel3 := hbel2.trans (hb3.mono hbel2.size)
      clear hb3 hv3 Hz3 HB2 HR3
      go_wp2_with fail
      refine (signed_any _ _ _ _ _ _ hs3 (parts_dig _)).mono ?_
      rintro e w4 ⟨a4, l4, c4, rfl, hs4, hb4⟩
      have hnum : num false (val (parts (ch n (i + 1)))) = (ch n (i + 1) : Int) := by rw [val_parts]; rfl
      rw [hnum] at hs4 ⊢
      have HB4 := Lib.hid ((hb4.block _ (by omega)).trans HB3.out)
      have HR5 := Lib.hid ((hb4.block _ (by omega)).trans HR4.out)
      have hb4z := hb4.size
      have hbel4 := hbel3.trans (hb4.mono hbel3.size)
      have hd4 : decide ((ch n (i + 1) : Int) < 0) = false := by simp
      rw [hd4]
      obtain ⟨f1, f2, f3, f4, f5⟩ := box2 HB4.out
      have hne : w.heap.size ≠ g := by omega
      have HA5 := Lib.hid (heap_set2 (u := .bool false) (v := .slice a4 l4 c4) HB4.out)
      have HR6 := Lib.hid ((heap_set2_ne (w := w4) (g := g) (k := w.heap.size) (u := .bool false) (v := .slice a4 l4 c4) hne).trans HR5.out)
      have hs5 := hs4.store2 f1 f2 (.bool false) (.slice a4 l4 c4)
      have hbel5 := (hbel4.setCell (p := ⟨g, 0, none⟩) (by simp; omega) (.bool false)).setCell (p := ⟨g, 1, none⟩) (by simp; omega) (.slice a4 l4 c4)
      have hs5z : g < ((w4.setCell ⟨g, 0, none⟩ (.bool false)).setCell ⟨g, 1, none⟩ (.slice a4 l4 c4)).heap.size := by simp [World.setCell]; omega
      by_cases hl5 : l4 ≤ 40
      · go_wp2_with fail
        generalize ((w4.setCell ⟨g, 0, none⟩ (.bool false)).setCell ⟨g, 1, none⟩ (.slice a4 l4 c4)) = w5 at *
        clear f1 f2 f3 f4 f5
        refine (fit_ok _ _ _ _ _ hl5).mono ?_
        rintro e w6 ⟨rfl, hb6⟩
        have hres := Lib.hid (show IntBox w6 g (ch n (i + 1)) ∧ w6.heap[w.heap.size]? = some (.cells #[.bool false, .slice none 0 0] 24 (0, 0)) ∧ Lim (ch n (i + 1)) ∧ Below w.heap.size w w6 from
          ⟨⟨a4, l4, c4, by rw [hd4]; exact (hb6.block _ hs5z).trans HA5.out, hs5.below hb6⟩, (hb6.block _ (by omega)).trans HR6.out, by unfold Lim; rw [hs4.length]; exact hl5, hbel5.trans (hb6.mono hbel5.size)⟩)
        clear hs4 hs5 hb6 hbel5
        go_wp2
        go_roundw
        case rel => exact ⟨i + 1, hlt, hgr, by go_num, hres.out.1, hres.out.2.1, hres.out.2.2.1, hres.out.2.2.2⟩
        case measure => simp [intOf]; omega
      · have hno := Lib.hid (show ¬ Lim (ch n k) from fun h => hl5 (by
          have h2 := lim_mono (x := (ch n (i + 1) : Int)) (y := (ch n k : Int)) (by simpa using Hmono.out) h
          unfold Lim at h2; rwa [hs4.length] at h2))
        have hlm := hs4.len_le
        go_wp2_with fail
        generalize ((w4.setCell ⟨g, 0, none⟩ (.bool false)).setCell ⟨g, 1, none⟩ (.slice a4 l4 c4)) = w5 at *
        clear f1 f2 f3 f4 f5
        refine (fit_panics _ _ _ _ _ (by omega) (by omega)).mono ?_
        rintro e w6 ⟨rfl, hb6⟩
        have hB6 := Lib.hid (hbel5.trans (hb6.mono hbel5.size))
        clear hs4 hs5 hb6 hbel5
        go_wp2
        exact ⟨rfl, .inr ⟨⟨_, _, rfl⟩, hB6.out, hno.out⟩⟩
    · obtain rfl : i = k := by omega
      obtain ⟨f1, f2, f3, f4, f5⟩ := box2 HR2.out
      clear hbx hR
      go_wp2
      refine bodyPost_ret (v := .agg #[.bool false, .slice ao len cap]) (by simp [results, Tryz.results113, go_sem, f1, f2]) rfl ?_
      exact .inl ⟨ao, len, cap, by rw [hds], by rw [Int.natAbs_natCast]; exact hsl.store2 f1 f2 _ _, (hbel.setCell (by simp) _).setCell (by simp) _⟩
end Go.Proofs.YtfjnplhhgdfepaaGreatDoor

/- Choose. -/
namespace Go.Proofs.YtfjnplhhgdfepaaGreatDoor
open Go.RowKit

theorem cell_of1 {w : World} {g : Nat} {v : Value} {t : TypeId} (h : w.heap[g]? = some (.cells #[v] t (0, 0))) : w.cell? ⟨g, 0, none⟩ = some v ∧ w.frozen? ⟨g, 0, none⟩ = false := by
  constructor <;> simp [World.cell?, World.frozen?, h]

set_option maxHeartbeats 1000000 in
theorem choose1_any (gn gk n k : Nat) (hn : n ≤ 4000) (hk : k ≤ n) (w : World) (h1 : w.heap[gn]? = some (.cells #[.int .i64 n] 3 (0, 0))) (h2 : w.heap[gk]? = some (.cells #[.int .i64 k] 3 (0, 0))) :
    Calls Tryz.prog 112 #[.pointer (some ⟨gn, 0, none⟩), .pointer (some ⟨gk, 0, none⟩)] w (Calc (ch n k) w) := by
  have hl1 : gn < w.heap.size := (Array.getElem?_eq_some_iff.1 h1).1
  have hl2 : gk < w.heap.size := (Array.getElem?_eq_some_iff.1 h2).1
  obtain ⟨c1, _⟩ := cell_of1 h1
  obtain ⟨c2, _⟩ := cell_of1 h2
  clear h1 h2
  by_cases hc : 2 * k ≤ n
  · have hch := fun w => choices_any n k hn (by omega) w
    have Hch := Lib.hid hch
    have hle : (k : Int) ≤ n - k := by omega
    clear hch
    go_enter Tryz.func112, Tryz.ntmps112
    go_wp2_with fail
    refine (Hch.out _).mono ?_
    rintro e w1 h
    rcases h with ⟨ao, len, cap, rfl, hs, hb⟩ | ⟨⟨u, pv, rfl⟩, hb, hno⟩
    · obtain ⟨hR, hz, hbb⟩ := kept1 _ _ hb
      obtain ⟨f1, f2, f3, f4, f5⟩ := box2 hR
      generalize hdz : decide ((ch n k : Int) < 0) = dz
      have Hdz := Lib.hid hdz
      clear hR hb hdz
      go_wp2
      refine bodyPost_ret (v := .agg #[.bool dz, .slice ao len cap]) (by simp [results, Tryz.results112, go_sem, f1, f2]) rfl ?_
      exact .inl ⟨ao, len, cap, by rw [Hdz.out], hs.store2 f1 f2 _ _, (hbb.setCell (by simp) _).setCell (by simp) _⟩
    · obtain ⟨_, _, hbb⟩ := kept1 _ _ hb
      have Hno := Lib.hid hno
      clear hno hb
      go_wp2
      exact ⟨rfl, .inr ⟨⟨u, pv, rfl⟩, hbb, Hno.out⟩⟩
  · have hch := fun w => choices_any n (n - k) hn (by omega) w
    rw [ch_symm n k hk] at hch
    rw [show ((n - k : Nat) : Int) = (n : Int) - k by omega] at hch
    have Hch := Lib.hid hch
    have hle : ¬ (k : Int) ≤ n - k := by omega
    have hle2 : (n : Int) - k < k := by omega
    clear hch
    go_enter Tryz.func112, Tryz.ntmps112
    go_wp2_with fail
    refine (Hch.out _).mono ?_
    rintro e w1 h
    rcases h with ⟨ao, len, cap, rfl, hs, hb⟩ | ⟨⟨u, pv, rfl⟩, hb, hno⟩
    · obtain ⟨hR, hz, hbb⟩ := kept1 _ _ hb
      obtain ⟨f1, f2, f3, f4, f5⟩ := box2 hR
      generalize hdz : decide ((ch n k : Int) < 0) = dz
      have Hdz := Lib.hid hdz
      clear hR hb hdz
      go_wp2
      refine bodyPost_ret (v := .agg #[.bool dz, .slice ao len cap]) (by simp [results, Tryz.results112, go_sem, f1, f2]) rfl ?_
      exact .inl ⟨ao, len, cap, by rw [Hdz.out], hs.store2 f1 f2 _ _, (hbb.setCell (by simp) _).setCell (by simp) _⟩
    · obtain ⟨_, _, hbb⟩ := kept1 _ _ hb
      have Hno := Lib.hid hno
      clear hno hb
      go_wp2
      exact ⟨rfl, .inr ⟨⟨u, pv, rfl⟩, hbb, Hno.out⟩⟩

set_option maxRecDepth 100000 in
set_option maxHeartbeats 2000000 in
theorem choose_any (n k : Int) (w : World) : Calls Tryz.prog 62 #[.int .i64 n, .int .i64 k] w fun e w' =>
    ((n < 0 ∨ 4000 < n) → RetE 0 1 w e w') ∧ (0 ≤ n → n ≤ 4000 → (k < 0 ∨ n < k) → RetE 0 0 w e w') ∧
    (0 ≤ n → n ≤ 4000 → 0 ≤ k → k ≤ n → (Lim (ch n.toNat k.toNat) → RetE (ch n.toNat k.toNat) 0 w e w') ∧ (¬ Lim (ch n.toNat k.toNat) → RetE 0 2 w e w')) := by
  have hb3 := below3 w (.cells #[.int .i64 n] 3) (.cells #[.int .i64 k] 3) (.cells #[.bool false, .slice none 0 0] 24)
  by_cases hn : n < 0 ∨ 4000 < n
  · have Hn := Lib.hid hn
    rcases hn with hn | hn
    all_goals
      go_enter Tryz.func62, Tryz.ntmps62
      go_wp2
      refine bodyPost_ret (v := .tuple #[.agg #[.bool false, .slice none 0 0], .int .i64 1]) (by simp [results, Tryz.results62, go_sem]) rfl ?_
      exact ⟨fun _ => ⟨none, 0, 0, rfl, by simp only [Int.natAbs_zero]; rw [parts_zero]; exact Sl.nil _, hb3⟩, fun h1 h2 _ => by have := Hn.out; omega, fun h1 h2 _ _ => by have := Hn.out; omega⟩
  · have hn0 : 0 ≤ n := by omega
    have hn1 : n ≤ 4000 := by omega
    clear hn
    by_cases hk : k < 0 ∨ n < k
    · have Hk := Lib.hid hk
      rcases hk with hk | hk
      all_goals
        go_enter Tryz.func62, Tryz.ntmps62
        go_wp2
        refine bodyPost_ret (v := .tuple #[.agg #[.bool false, .slice none 0 0], .int .i64 0]) (by simp [results, Tryz.results62, go_sem]) rfl ?_
        exact ⟨fun h => by omega, fun _ _ _ => ⟨none, 0, 0, rfl, by simp only [Int.natAbs_zero]; rw [parts_zero]; exact Sl.nil _, hb3⟩, fun h1 h2 _ _ => by have := Hk.out; omega⟩
    · obtain ⟨m, rfl⟩ := Int.eq_ofNat_of_zero_le hn0
      obtain ⟨j, rfl⟩ := Int.eq_ofNat_of_zero_le (show 0 ≤ k by omega)
      have hjm : j ≤ m := by omega
      have hmf : ∀ (fn : Fn) (first cap : Array Value) (w : World), (Instr.makeFunc fn first cap).run Tryz.prog w = .ok (.func fn first cap) w := fun _ _ _ _ => rfl
      have hin := within_any (ch m j) 112 #[.pointer (some ⟨w.heap.size, 0, none⟩), .pointer (some ⟨w.heap.size + 1, 0, none⟩)] (((w.alloc (.cells #[.int .i64 m] 3)).alloc (.cells #[.int .i64 j] 3)).alloc (.cells #[.bool false, .slice none 0 0] 24)) (fun w => by kernel_rfl) (fun w4 hb4 => by
        obtain ⟨hA, hB, _, _, _⟩ := kept3 _ _ _ _ hb4
        exact choose1_any w.heap.size (w.heap.size + 1) m j (by omega) hjm w4 hA hB)
      have Hin := Lib.hid hin
      clear hin hk
      go_enter Tryz.func62, Tryz.ntmps62
      go_wp2_with fail
      by_cases hlim : Lim (ch m j)
      · have Hlim := Lib.hid hlim
        clear hlim
        refine (Hin.out.1 Hlim.out).mono ?_
        rintro e w4 ⟨ao, len, c2, rfl, hs, hb4⟩
        obtain ⟨_, _, hR, hz, hbb⟩ := kept3 _ _ _ _ hb4
        obtain ⟨f1, f2, f3, f4, f5⟩ := box2 hR
        generalize hdz : decide ((ch m j : Int) < 0) = dz
        have Hdz := Lib.hid hdz
        clear hdz hR hb4
        go_wp2
        refine bodyPost_ret (v := .tuple #[.agg #[.bool dz, .slice ao len c2], .int .i64 0]) (by simp [results, Tryz.results62, go_sem, f1, f2]) rfl ?_
        exact ⟨fun h => by omega, fun _ _ h => by omega, fun _ _ _ _ => ⟨fun _ => ⟨ao, len, c2, by rw [← Hdz.out]; rfl, hs.store2 f1 f2 _ _, (hbb.setCell (by simp; omega) _).setCell (by simp; omega) _⟩, fun h => absurd Hlim.out h⟩⟩
      · have Hlim := Lib.hid hlim
        clear hlim
        refine (Hin.out.2 Hlim.out).mono ?_
        rintro e w4 ⟨ao, len, c2, rfl, hs, hb4⟩
        obtain ⟨_, _, hR, hz, hbb⟩ := kept3 _ _ _ _ hb4
        obtain ⟨f1, f2, f3, f4, f5⟩ := box2 hR
        clear hR hb4
        go_wp2
        refine bodyPost_ret (v := .tuple #[.agg #[.bool (decide ((0 : Int) < 0)), .slice ao len c2], .int .i64 2]) (by simp [results, Tryz.results62, go_sem, f1, f2]) rfl ?_
        exact ⟨fun h => by omega, fun _ _ h => by omega, fun _ _ _ _ => ⟨fun h => absurd h Hlim.out, fun _ => ⟨ao, len, c2, rfl, hs.store2 f1 f2 _ _, (hbb.setCell (by simp; omega) _).setCell (by simp; omega) _⟩⟩⟩
end Go.Proofs.YtfjnplhhgdfepaaGreatDoor

/- allDigits and readParts. -/
namespace Go.Proofs.YtfjnplhhgdfepaaGreatDoor
open Go.RowKit

/-- Is a byte a decimal digit? -/
def dig (c : UInt8) : Bool := decide (48 ≤ c.toNat) && decide (c.toNat ≤ 57)
/-- The bytes of a string. -/
def bys (s : ByteArray) : List UInt8 := s.data.toList
theorem bys_length (s : ByteArray) : (bys s).length = s.size := by simp [bys]
theorem bys_take (s : ByteArray) (k : Nat) (h : k < s.size) : (bys s).take (k + 1) = (bys s).take k ++ [s[k]] := by
  unfold bys
  rw [List.take_succ_eq_append_getElem (by simpa using h)]; rfl

set_option maxHeartbeats 400000 in
theorem allDigits_any (s : ByteArray) (w : World) (hs : s.size ≤ 9223372036854775807) :
    Calls Tryz.prog 87 #[.string s] w fun e w' => e = .returned (.bool ((bys s).all dig)) ∧ w' = w := by
  go_enter Tryz.func87, Tryz.ntmps87
  go_wp2
  go_loop [6] (fun i => ∃ k : Nat, k ≤ s.size ∧ i = .int .i64 k ∧ ((bys s).take k).all dig = true) (fun i => s.size - (intOf i).toNat)
  case atStart => exact ⟨0, Nat.zero_le _, rfl, rfl⟩
  case round =>
    obtain ⟨k, hk, rfl, hall⟩ := hrel
    have Hall := Lib.hid hall
    clear hall
    by_cases hlt : k < s.size
    · have ht := Lib.hid (bys_take s k hlt)
      by_cases hd : 48 ≤ s[k].toNat ∧ s[k].toNat ≤ 57
      · have Hd := Lib.hid hd
        obtain ⟨hd0, hd1⟩ := hd
        go_wp2
        go_round
        case rel => exact ⟨k + 1, hlt, by go_num, by rw [ht.out, List.all_append, Hall.out]; simp [dig, Hd.out.1, Hd.out.2]⟩
        case measure => simp [intOf]; omega
      · have hno : (bys s).all dig = false := by
          rw [Bool.eq_false_iff]
          intro h
          have hm : s[k] ∈ bys s := by unfold bys; exact List.mem_of_getElem (i := k) (h := by simpa using hlt) rfl
          have := List.all_eq_true.1 h _ hm
          simp only [dig, Bool.and_eq_true, decide_eq_true_eq] at this
          exact hd this
        have Hno := Lib.hid hno
        clear hno
        by_cases h0 : s[k].toNat < 48
        · go_wp2
          go_ret
          exact ⟨by rw [Hno.out]; rfl, rfl⟩
        · have h1 : 57 < s[k].toNat := by omega
          clear hd
          go_wp2
          go_ret
          exact ⟨by rw [Hno.out]; rfl, rfl⟩
    · obtain rfl : k = s.size := by omega
      go_wp2
      go_ret
      have : (bys s).all dig = true := by have := Hall.out; rwa [List.take_of_length_le (by rw [bys_length]; exact Nat.le_refl _)] at this
      exact ⟨by rw [this]; rfl, rfl⟩

/-- The number that decimal digits stand for. -/
def dval (l : List UInt8) : Nat := l.foldl (fun a c => a * 10 + (c.toNat - 48)) 0
theorem dval_snoc (l : List UInt8) (c : UInt8) : dval (l ++ [c]) = dval l * 10 + (c.toNat - 48) := by simp [dval]
theorem foldl_dval (l : List UInt8) (a : Nat) : l.foldl (fun a c => a * 10 + (c.toNat - 48)) a = a * 10 ^ l.length + dval l := by
  induction l generalizing a with
  | nil => simp [dval]
  | cons c l ih =>
    rw [List.foldl_cons, ih]
    have : dval (c :: l) = (c.toNat - 48) * 10 ^ l.length + dval l := by
      unfold dval; rw [List.foldl_cons, ih]; simp [dval]
    rw [this, List.length_cons, Nat.pow_succ]
    grind
theorem dval_append (l m : List UInt8) : dval (l ++ m) = dval l * 10 ^ m.length + dval m := by
  unfold dval
  rw [List.foldl_append, foldl_dval]; rfl
theorem dval_lt (l : List UInt8) (h : l.all dig = true) : dval l < 10 ^ l.length := by
  induction l with
  | nil => simp [dval]
  | cons c l ih =>
    rw [List.all_cons, Bool.and_eq_true] at h
    have h1 := ih h.2
    have h2 : c.toNat ≤ 57 := by have := h.1; simp only [dig, Bool.and_eq_true, decide_eq_true_eq] at this; exact this.2
    have : dval (c :: l) = (c.toNat - 48) * 10 ^ l.length + dval l := by
      have := dval_append [c] l
      simpa [dval] using this
    rw [this, List.length_cons, Nat.pow_succ]
    have h3 : (c.toNat - 48) * 10 ^ l.length ≤ 9 * 10 ^ l.length := Nat.mul_le_mul_right _ (by omega)
    omega


theorem slice_step (s : ByteArray) (lo k : Nat) (h0 : lo ≤ k) (h1 : k < s.size) : ((bys s).drop lo).take (k + 1 - lo) = ((bys s).drop lo).take (k - lo) ++ [s[k]] := by
  rw [show k + 1 - lo = (k - lo) + 1 by omega]
  have hl : k - lo < ((bys s).drop lo).length := by rw [List.length_drop, bys_length]; omega
  rw [List.take_succ_eq_append_getElem hl, List.getElem_drop]
  congr 2
  unfold bys
  simp only [show lo + (k - lo) = k by omega]
  rfl
theorem all_slice {l : List UInt8} (h : l.all dig = true) (lo n : Nat) : ((l.drop lo).take n).all dig = true := by
  rw [List.all_eq_true] at h ⊢
  intro c hc
  exact h c (List.mem_of_mem_drop (List.mem_of_mem_take hc))
theorem dval_slice_lt {l : List UInt8} (h : l.all dig = true) (lo n : Nat) (hn : n ≤ 9) : dval ((l.drop lo).take n) < 1000000000 := by
  have h1 := dval_lt _ (all_slice h lo n)
  have h2 : ((l.drop lo).take n).length ≤ 9 := by rw [List.length_take]; omega
  have h3 : 10 ^ ((l.drop lo).take n).length ≤ 10 ^ 9 := Nat.pow_le_pow_right (by decide) h2
  have h4 : (10 : Nat) ^ 9 = 1000000000 := by decide
  omega
theorem dig_byte {s : ByteArray} (h : (bys s).all dig = true) (k : Nat) (hk : k < s.size) : 48 ≤ s[k].toNat ∧ s[k].toNat ≤ 57 := by
  have hm : s[k] ∈ bys s := by unfold bys; exact List.mem_of_getElem (i := k) (h := by simpa using hk) rfl
  have := List.all_eq_true.1 h _ hm
  simpa only [dig, Bool.and_eq_true, decide_eq_true_eq] using this
/-- One part more. -/
theorem parts_more (l : List UInt8) (ds : List Int) (E lo : Nat) (hE : E ≤ l.length) (h9 : l.length = E + 9 * ds.length) (hlo : lo ≤ E) (hv : val ds = dval (l.drop E)) :
    val (ds ++ [(dval ((l.drop lo).take (E - lo)) : Int)]) = dval (l.drop lo) := by
  have e : l.drop lo = (l.drop lo).take (E - lo) ++ l.drop E := by
    have h := (List.take_append_drop (E - lo) (l.drop lo)).symm
    rwa [List.drop_drop, show lo + (E - lo) = E by omega] at h
  have hl : (l.drop E).length = 9 * ds.length := by rw [List.length_drop]; omega
  rw [val_append]
  conv => rhs; rw [e, dval_append, hl, Nat.pow_mul]
  rw [hv]
  simp [val]
  rw [Int.mul_comm]
  omega

set_option maxRecDepth 100000 in
set_option maxHeartbeats 1000000 in
theorem readParts_any (s : ByteArray) (w : World) (hs : s.size ≤ 100000) (hd : (bys s).all dig = true) :
    Calls Tryz.prog 88 #[.string s] w fun e w' => ∃ ao len cap xs, e = .returned (.slice ao len cap) ∧ Sl w' ao len cap xs ∧ Dig xs ∧ val xs = dval (bys s) ∧ Below w.heap.size w w' := by
  obtain ⟨i0, hi, hz0, hz1, hz2⟩ := info_parts Tryz.info3
  have Hd := Lib.hid hd
  clear hd
  go_enter Tryz.func88, Tryz.ntmps88
  go_wp2
  go_loopw [3, 4, 5, 6] (fun v en _ _ wr => ∃ (ds : List Int), en = .int .i64 ((s.size : Int) - 9 * ds.length) ∧ 9 * ds.length ≤ s.size + 8 ∧ wr.ownsRow w.heap.size 3 1 v ds.length (ds.map (Value.int .i64)) ∧ Dig ds ∧ val ds = dval ((bys s).drop (s.size - 9 * ds.length)) ∧ Below w.heap.size w wr) (fun _ en _ _ _ => (intOf en).toNat)
  case atStart => exact ⟨[], by simp, by simp, ⟨rfl, .inl ⟨rfl, rfl⟩⟩, fun y hy => by simp at hy, by simp [val, ← bys_length, dval], Below.refl _ _⟩
  case round =>
    obtain ⟨ds, rfl, h9, hown, hdg, hv, hbel⟩ := hrel
    by_cases hE : 9 * ds.length < s.size
    · have hEi : (s.size : Int) - 9 * ds.length = ((s.size - 9 * ds.length : Nat) : Int) := by omega
      rw [hEi]
      generalize hEn : s.size - 9 * ds.length = E at *
      have Hv := Lib.hid hv
      have HEn := Lib.hid hEn
      have hE0 : 0 < E := by omega
      have hE1 : E ≤ 100000 := by omega
      clear hv hEi hEn hE h9
      go_wp2
      · go_loop [5, 6] (fun p i => ∃ k q : Nat, E - 9 ≤ k ∧ k ≤ E ∧ i = .int .i64 k ∧ p = .int .i64 q ∧ q = dval (((bys s).drop (E - 9)).take (k - (E - 9)))) (fun _ i => E - (intOf i).toNat)
        case atStart => exact ⟨E - 9, 0, Nat.le_refl _, by omega, by first | rfl | (congr 1; omega), rfl, by simp [dval]⟩
        case round =>
          obtain ⟨k, q, hk0, hk1, rfl, rfl, hq⟩ := hrel
          have hqb : q < 1000000000 := by rw [hq]; exact dval_slice_lt Hd.out _ _ (by omega)
          have Hq := Lib.hid hq
          clear hq
          by_cases hlt : k < E
          · have hks : k < s.size := by have := HEn.out; omega
            obtain ⟨hb0, hb1⟩ := dig_byte Hd.out k hks
            have hst := Lib.hid (slice_step s (E - 9) k hk0 hks)
            go_wp2
            go_round
            case rel => exact ⟨k + 1, q * 10 + (s[k].toNat - 48), by omega, by omega, by go_num, by first | rfl | (congr 1; omega) | go_num, by rw [hst.out, dval_snoc, ← Hq.out]⟩
            case measure => simp [intOf]; omega
          · obtain rfl : k = E := by omega
            have hlen := Lib.hid (show s.size = k + 9 * ds.length by have := HEn.out; omega)
            go_wp2_with (at_builtin; refine wpList_append_own _ rfl _ _ 22 rfl w.heap.size 3 i0 (.int .i64 0) 1 8 Tryz.underlying22 hi hz0 hz1 hz2 rfl (by decide) _ _ _ rfl (hown.alloc _) ⟨wr.heap.size, 0, none⟩ 1 1 [.int .i64 (q : Int)] rfl ?qc1 ?qc2 ?qc3 ?qc4 ?qc5 ?qc6 ?_)
            case qc3 => rfl
            case qc4 => unfold maxLen; have := hlen.out; omega
            case qc5 => have := hlen.out; omega
            case qc6 => have := hbel.size; simp; omega
            intro v' w1 hown' hgrow _
            go_wp2
            go_roundw
            case rel =>
              have hl := hlen.out
              refine ⟨ds ++ [(q : Int)], congrArg (Value.int .i64) (by simp only [List.length_append, List.length_singleton]; omega), by simp only [List.length_append, List.length_singleton]; omega, ?_, ?_, ?_, (hbel.alloc (by have := hbel.size; omega) _).grown hgrow (by simp; have := hbel.size; omega) ?_⟩
              · rw [List.length_append, List.map_append]; exact hown'
              · intro y hy
                rcases List.mem_append.1 hy with h | h
                · exact hdg y h
                · simp at h; omega
              · have := parts_more (bys s) ds k (k - 9) (by rw [bys_length]; omega) (by rw [bys_length]; exact hl) (by omega) (by rw [Hv.out])
                rw [show s.size - 9 * (ds ++ [(q : Int)]).length = k - 9 by simp only [List.length_append, List.length_singleton]; omega, ← this, Hq.out]
              · intro b hb
                rcases hown.2 with ⟨rfl, _⟩ | ⟨g, cap, cur, rfl, hge, _⟩
                · simp [Value.ownBlock] at hb
                · simp [Value.ownBlock] at hb; omega
            case measure => simp [intOf]; omega
      · go_loop [5, 6] (fun p i => ∃ k q : Nat, E - 9 ≤ k ∧ k ≤ E ∧ i = .int .i64 k ∧ p = .int .i64 q ∧ q = dval (((bys s).drop (E - 9)).take (k - (E - 9)))) (fun _ i => E - (intOf i).toNat)
        case atStart => exact ⟨E - 9, 0, Nat.le_refl _, by omega, by first | rfl | (congr 1; omega), rfl, by simp [dval]⟩
        case round =>
          obtain ⟨k, q, hk0, hk1, rfl, rfl, hq⟩ := hrel
          have hqb : q < 1000000000 := by rw [hq]; exact dval_slice_lt Hd.out _ _ (by omega)
          have Hq := Lib.hid hq
          clear hq
          by_cases hlt : k < E
          · have hks : k < s.size := by have := HEn.out; omega
            obtain ⟨hb0, hb1⟩ := dig_byte Hd.out k hks
            have hst := Lib.hid (slice_step s (E - 9) k hk0 hks)
            go_wp2
            go_round
            case rel => exact ⟨k + 1, q * 10 + (s[k].toNat - 48), by omega, by omega, by go_num, by first | rfl | (congr 1; omega) | go_num, by rw [hst.out, dval_snoc, ← Hq.out]⟩
            case measure => simp [intOf]; omega
          · obtain rfl : k = E := by omega
            have hlen := Lib.hid (show s.size = k + 9 * ds.length by have := HEn.out; omega)
            go_wp2_with (at_builtin; refine wpList_append_own _ rfl _ _ 22 rfl w.heap.size 3 i0 (.int .i64 0) 1 8 Tryz.underlying22 hi hz0 hz1 hz2 rfl (by decide) _ _ _ rfl (hown.alloc _) ⟨wr.heap.size, 0, none⟩ 1 1 [.int .i64 (q : Int)] rfl ?rc1 ?rc2 ?rc3 ?rc4 ?rc5 ?rc6 ?_)
            case rc3 => rfl
            case rc4 => unfold maxLen; have := hlen.out; omega
            case rc5 => have := hlen.out; omega
            case rc6 => have := hbel.size; simp; omega
            intro v' w1 hown' hgrow _
            go_wp2
            go_roundw
            case rel =>
              have hl := hlen.out
              refine ⟨ds ++ [(q : Int)], congrArg (Value.int .i64) (by simp only [List.length_append, List.length_singleton]; omega), by simp only [List.length_append, List.length_singleton]; omega, ?_, ?_, ?_, (hbel.alloc (by have := hbel.size; omega) _).grown hgrow (by simp; have := hbel.size; omega) ?_⟩
              · rw [List.length_append, List.map_append]; exact hown'
              · intro y hy
                rcases List.mem_append.1 hy with h | h
                · exact hdg y h
                · simp at h; omega
              · have := parts_more (bys s) ds k (k - 9) (by rw [bys_length]; omega) (by rw [bys_length]; exact hl) (by omega) (by rw [Hv.out])
                rw [show s.size - 9 * (ds ++ [(q : Int)]).length = k - 9 by simp only [List.length_append, List.length_singleton]; omega, ← this, Hq.out]
              · intro b hb
                rcases hown.2 with ⟨rfl, _⟩ | ⟨g, cap, cur, rfl, hge, _⟩
                · simp [Value.ownBlock] at hb
                · simp [Value.ownBlock] at hb; omega
            case measure => simp [intOf]; omega
    · obtain ⟨ao, cap, rfl, hsl⟩ := Sl.of_owns hown
      have hen : (s.size : Int) - 9 * ds.length ≤ 0 := by omega
      have Hv := Lib.hid hv
      clear hv
      go_wp2
      go_ret
      exact ⟨ao, ds.length, cap, ds, rfl, hsl, hdg, by rw [Hv.out, show s.size - 9 * ds.length = 0 by omega]; rfl, hbel⟩
end Go.Proofs.YtfjnplhhgdfepaaGreatDoor

/- CutPrefix and Read. -/
namespace Go.Proofs.YtfjnplhhgdfepaaGreatDoor
open Go.RowKit

/-- Does a text begin with a minus? -/
def neg? (s : ByteArray) : Bool := decide (1 ≤ s.size) && ((s.extract 0 1).toList == [45])
/-- What is behind the minus, if there is one. -/
def mag (s : ByteArray) : ByteArray := if neg? s = true then s.extract 1 s.size else s
theorem mag_size (s : ByteArray) : (mag s).size ≤ s.size := by
  unfold mag; split <;> simp

set_option maxHeartbeats 400000 in
theorem hasDash (s : ByteArray) (w : World) (hs : s.size ≤ 9223372036854775807) :
    Calls Tryz.prog 143 #[.string s, .string ⟨#[45]⟩] w fun e w' => e = .returned (.bool (neg? s)) ∧ w' = w := by
  by_cases h : 1 ≤ s.size
  · have hn := Lib.hid (show neg? s = ((s.extract 0 1).toList == [45]) by simp [neg?, h])
    go_enter Tryz.func143, Tryz.ntmps143
    go_wp2
    go_ret
    exact ⟨by rw [hn.out]; rfl, rfl⟩
  · have hn := Lib.hid (show neg? s = false by simp [neg?, h])
    go_enter Tryz.func143, Tryz.ntmps143
    go_wp2
    go_ret
    exact ⟨by rw [hn.out]; rfl, rfl⟩

set_option maxHeartbeats 400000 in
theorem cutDash1 (s : ByteArray) (w : World) (hs : s.size ≤ 9223372036854775807) :
    Calls Tryz.prog 124 #[.string s, .string ⟨#[45]⟩] w fun e w' => e = .returned (.tuple #[.string (mag s), .bool (neg? s)]) ∧ w' = w := by
  have hd := fun w => hasDash s w hs
  by_cases h : neg? s = true
  · have h1 : 1 ≤ s.size := by unfold neg? at h; simp at h; exact h.1
    have hm := Lib.hid (show mag s = s.extract 1 s.size by simp [mag, h])
    rw [h] at hd
    have H := Lib.hid h
    clear h
    go_enter Tryz.func124, Tryz.ntmps124
    go_wp2_with fail
    refine (hd _).mono ?_
    rintro e w1 ⟨rfl, rfl⟩
    go_wp2
    go_ret2
    exact ⟨by rw [hm.out, H.out]; rfl, rfl⟩
  · have h := Bool.eq_false_iff.2 h
    have hm := Lib.hid (show mag s = s by simp [mag, h])
    rw [h] at hd
    have H := Lib.hid h
    clear h
    go_enter Tryz.func124, Tryz.ntmps124
    go_wp2_with fail
    refine (hd _).mono ?_
    rintro e w1 ⟨rfl, rfl⟩
    go_wp2
    go_ret2
    exact ⟨by rw [hm.out, H.out]; rfl, rfl⟩

set_option maxHeartbeats 400000 in
theorem cutDash (s : ByteArray) (w : World) (hs : s.size ≤ 9223372036854775807) :
    Calls Tryz.prog 86 #[.string s, .string ⟨#[45]⟩] w fun e w' => e = .returned (.tuple #[.string (mag s), .bool (neg? s)]) ∧ w' = w := by
  have hd := fun w => cutDash1 s w hs
  go_enter Tryz.func86, Tryz.ntmps86
  go_wp2_with fail
  refine (hd _).mono ?_
  rintro e w1 ⟨rfl, rfl⟩
  go_wp2
  go_ret2
  exact ⟨rfl, rfl⟩

/-- The error of a text. -/
def readErr (s : ByteArray) : Int :=
  if 360 < (mag s).size then (if (bys ((mag s).extract 0 361)).all dig && !((bys (mag s)).getD 0 0 == 48) then 2 else 12)
  else if (mag s).size = 0 || !(bys (mag s)).all dig then 12
  else if (bys (mag s)).getD 0 0 == 48 && !(s.toList == [48]) then 12 else 0
/-- The number of a text that is right. -/
def readVal (s : ByteArray) : Int := if readErr s = 0 then num (neg? s) (dval (bys (mag s))) else 0

theorem bys_head (s : ByteArray) (h : 0 < s.size) : (bys s).getD 0 0 = s[0] := by
  unfold bys
  rw [List.getD_eq_getElem?_getD, List.getElem?_eq_getElem (by simpa using h)]
  rfl

theorem beq48 (c : UInt8) : (c == 48) = decide ((c.toNat : Int) = 48) := by
  rw [Bool.eq_iff_iff]
  simp only [beq_iff_eq, decide_eq_true_eq, ← UInt8.toNat_inj]
  exact ⟨fun h => by rw [h]; rfl, fun h => by have : c.toNat = 48 := by omega
                                              rw [this]; rfl⟩
theorem RetE.zero (n : Int) (w w' : World) (hb : Below w.heap.size w w') : RetE 0 n w (.returned (.tuple #[.agg #[.bool false, .slice none 0 0], .int .i64 n])) w' :=
  ⟨none, 0, 0, rfl, by simp only [Int.natAbs_zero]; rw [parts_zero]; exact Sl.nil _, hb⟩

set_option maxRecDepth 100000 in
set_option maxHeartbeats 2000000 in
theorem Read_any (s : ByteArray) (w : World) (hs : s.size ≤ 9223372036854775807) :
    Calls Tryz.prog 29 #[.string s] w (RetE (readVal s) (readErr s) w) := by
  have hc := fun w => cutDash s w hs
  have hms := mag_size s
  have hv : readVal s = if readErr s = 0 then num (neg? s) (dval (bys (mag s))) else 0 := rfl
  have he : readErr s = if 360 < (mag s).size then (if (bys ((mag s).extract 0 361)).all dig && !((bys (mag s)).getD 0 0 == 48) then 2 else 12)
    else if (mag s).size = 0 || !(bys (mag s)).all dig then 12
    else if (bys (mag s)).getD 0 0 == 48 && !(s.toList == [48]) then 12 else 0 := rfl
  have hb := (Below.refl w.heap.size w).alloc (Nat.le_refl _) (.cells #[.bool false, .slice none 0 0] 24)
  generalize readVal s = rv at *
  generalize readErr s = re at *
  generalize mag s = d at *
  generalize neg? s = ng at *
  by_cases h360 : 360 < d.size
  · rw [if_pos h360] at he
    have hall := fun w => allDigits_any (d.extract 0 361) w (by simp; omega)
    rw [bys_head d (by omega), beq48] at he
    generalize (bys (d.extract 0 361)).all dig = al at *
    by_cases hz : (d[0].toNat : Int) = 48 <;> cases al
    all_goals
      simp only [hz, decide_true, decide_false, Bool.not_true, Bool.not_false, Bool.and_true, Bool.and_false, if_true, if_false, Bool.false_eq_true] at he
      rw [if_neg (by rw [he]; decide)] at hv
      subst hv he
      have Hall := Lib.hid hall
      clear hall
      go_enter Tryz.func29, Tryz.ntmps29
      go_wp2_with fail
      refine (hc _).mono ?_
      rintro e w1 ⟨rfl, rfl⟩
      go_wp2_with fail
      refine (Hall.out _).mono ?_
      rintro e w1 ⟨rfl, rfl⟩
      go_wp2
      first
        | (refine bodyPost_ret (v := .tuple #[.agg #[.bool false, .slice none 0 0], .int .i64 12]) (by simp [results, Tryz.results29, go_sem]) rfl ?_; exact RetE.zero _ _ _ hb)
        | (refine bodyPost_ret (v := .tuple #[.agg #[.bool false, .slice none 0 0], .int .i64 2]) (by simp [results, Tryz.results29, go_sem]) rfl ?_; exact RetE.zero _ _ _ hb)
  · rw [if_neg h360] at he
    by_cases h0 : d.size = 0
    · have hd0 : d = ⟨#[]⟩ := by
        apply ByteArray.ext
        exact Array.eq_empty_of_size_eq_zero h0
      subst hd0
      rw [h0] at he
      simp only [decide_true, Bool.true_or, if_true] at he
      rw [if_neg (by rw [he]; decide)] at hv
      subst hv he
      go_enter Tryz.func29, Tryz.ntmps29
      go_wp2_with fail
      refine (hc _).mono ?_
      rintro e w1 ⟨rfl, rfl⟩
      go_wp2
      refine bodyPost_ret (v := .tuple #[.agg #[.bool false, .slice none 0 0], .int .i64 12]) (by simp [results, Tryz.results29, go_sem]) rfl ?_
      exact RetE.zero _ _ _ hb
    · have hpos : 0 < d.size := by omega
      have hall := fun w => allDigits_any d w (by omega)
      have hne : (d.toList == []) = false := by
        rw [beq_eq_false_iff_ne]
        intro h
        have := congrArg List.length h
        rw [Lib.toList_data] at this
        simp at this
        have h2 : d.size = 0 := by rw [← ByteArray.size_data, this]; rfl
        omega
      rw [bys_head d hpos, beq48] at he
      simp only [h0, decide_false, Bool.false_or] at he
      cases hal : (bys d).all dig
      · rw [hal] at he hall
        simp only [Bool.not_false, if_true] at he
        rw [if_neg (by rw [he]; decide)] at hv
        subst hv he
        have Hall := Lib.hid hall
        clear hall hal
        go_enter Tryz.func29, Tryz.ntmps29
        go_wp2_with fail
        refine (hc _).mono ?_
        rintro e w1 ⟨rfl, rfl⟩
        go_wp2_with fail
        refine (Hall.out _).mono ?_
        rintro e w1 ⟨rfl, rfl⟩
        go_wp2
        refine bodyPost_ret (v := .tuple #[.agg #[.bool false, .slice none 0 0], .int .i64 12]) (by simp [results, Tryz.results29, go_sem]) rfl ?_
        exact RetE.zero _ _ _ hb
      · have hrp := fun w => readParts_any d w (by omega) hal
        rw [hal] at he hall
        simp only [Bool.not_true, if_false, Bool.false_eq_true] at he
        by_cases hz : (d[0].toNat : Int) = 48
        · cases h1 : (s.toList == [48])
          · rw [h1] at he
            simp only [hz, decide_true, Bool.not_false, Bool.and_true, if_true] at he
            rw [if_neg (by rw [he]; decide)] at hv
            subst hv he
            have Hall := Lib.hid hall
            clear hall hal hrp
            go_enter Tryz.func29, Tryz.ntmps29
            go_wp2_with fail
            refine (hc _).mono ?_
            rintro e w1 ⟨rfl, rfl⟩
            go_wp2_with fail
            refine (Hall.out _).mono ?_
            rintro e w1 ⟨rfl, rfl⟩
            go_wp2
            refine bodyPost_ret (v := .tuple #[.agg #[.bool false, .slice none 0 0], .int .i64 12]) (by simp [results, Tryz.results29, go_sem]) rfl ?_
            exact RetE.zero _ _ _ hb
          · rw [h1] at he
            simp only [hz, decide_true, Bool.not_true, Bool.and_false, if_false, Bool.false_eq_true] at he
            rw [if_pos he] at hv
            subst he
            have Hv := Lib.hid hv
            have Hall := Lib.hid hall
            have Hrp := Lib.hid hrp
            clear hall hal hrp hv
            go_enter Tryz.func29, Tryz.ntmps29
            go_wp2_with fail
            refine (hc _).mono ?_
            rintro e w1 ⟨rfl, rfl⟩
            go_wp2_with fail
            refine (Hall.out _).mono ?_
            rintro e w1 ⟨rfl, rfl⟩
            go_wp2_with fail
            refine (Hrp.out _).mono ?_
            rintro e w1 ⟨a1, l1, c1, xs, rfl, hsl, hdg, hval, hb1⟩
            go_wp2_with fail
            refine (signed_any _ _ _ _ _ _ hsl hdg).mono ?_
            rintro e w2 ⟨a2, l2, c2, rfl, hs2, hb2⟩
            have hrv : num ng (val xs) = rv := by rw [hval, Hv.out]
            rw [hrv] at hs2 ⊢
            obtain ⟨hR, hz1, hbb⟩ := kept1 _ _ hb1
            obtain ⟨f1, f2, f3, f4, f5⟩ := box2 (w := w2) (g := w.heap.size) (by rw [hb2.block _ (by omega)]; exact hR)
            generalize hsg : decide (rv < 0) = sg
            have Hsg := Lib.hid hsg
            clear hsg hR hrv
            go_wp2
            refine bodyPost_ret (v := .tuple #[.agg #[.bool sg, .slice a2 l2 c2], .int .i64 0]) (by simp [results, Tryz.results29, go_sem, f1, f2]) rfl ?_
            exact ⟨a2, l2, c2, by rw [Hsg.out], hs2.store2 f1 f2 _ _, ((hbb.trans (hb2.mono (by omega))).setCell (by simp) _).setCell (by simp) _⟩
        · simp only [hz, decide_false, Bool.false_and, if_false, Bool.false_eq_true] at he
          rw [if_pos he] at hv
          subst he
          have Hv := Lib.hid hv
          have Hall := Lib.hid hall
          have Hrp := Lib.hid hrp
          clear hall hal hrp hv
          go_enter Tryz.func29, Tryz.ntmps29
          go_wp2_with fail
          refine (hc _).mono ?_
          rintro e w1 ⟨rfl, rfl⟩
          go_wp2_with fail
          refine (Hall.out _).mono ?_
          rintro e w1 ⟨rfl, rfl⟩
          go_wp2_with fail
          refine (Hrp.out _).mono ?_
          rintro e w1 ⟨a1, l1, c1, xs, rfl, hsl, hdg, hval, hb1⟩
          go_wp2_with fail
          refine (signed_any _ _ _ _ _ _ hsl hdg).mono ?_
          rintro e w2 ⟨a2, l2, c2, rfl, hs2, hb2⟩
          have hrv : num ng (val xs) = rv := by rw [hval, Hv.out]
          rw [hrv] at hs2 ⊢
          obtain ⟨hR, hz1, hbb⟩ := kept1 _ _ hb1
          obtain ⟨f1, f2, f3, f4, f5⟩ := box2 (w := w2) (g := w.heap.size) (by rw [hb2.block _ (by omega)]; exact hR)
          generalize hsg : decide (rv < 0) = sg
          have Hsg := Lib.hid hsg
          clear hsg hR hrv
          go_wp2
          refine bodyPost_ret (v := .tuple #[.agg #[.bool sg, .slice a2 l2 c2], .int .i64 0]) (by simp [results, Tryz.results29, go_sem, f1, f2]) rfl ?_
          exact ⟨a2, l2, c2, by rw [Hsg.out], hs2.store2 f1 f2 _ _, ((hbb.trans (hb2.mono (by omega))).setCell (by simp) _).setCell (by simp) _⟩
end Go.Proofs.YtfjnplhhgdfepaaGreatDoor

/- fromTop: an iterator over the parts of a number, the most significant one first. -/
namespace Go.Proofs.YtfjnplhhgdfepaaGreatDoor
open Go.RowKit Go.Shelf
attribute [local go_sem] Oper.semAt_some

/-- What a round that goes on keeps: what lay below n₀, and the iterator's own block. -/
def KeepT (n₀ Bs : Nat) (W W' : World) : Prop := Below n₀ W W' ∧ W'.heap[Bs]? = W.heap[Bs]?
theorem KeepT.t {n₀ Bs : Nat} {A B C : World} (h : KeepT n₀ Bs A B) (k : KeepT n₀ Bs B C) : KeepT n₀ Bs A C := ⟨h.1.trans k.1, k.2.trans h.2⟩
theorem KeepT.b {n₀ Bs : Nat} {w : World} (hn : n₀ ≤ w.heap.size) (hB : Bs < w.heap.size) (W : World) (l : Nat) (o o' : Obj) (hl : w.heap.size ≤ l) (h : W.heap[l]? = some o) (hc : o.isCells = false) (hw : o.isWalk = false) : KeepT n₀ Bs W (W.putObj l o') := by
  refine ⟨belowK_b hn W l o o' hl h hc hw, ?_⟩
  have := (Below.refl w.heap.size W).grown (grownBy_putObj' W l o') (by have := (Array.getElem?_eq_some_iff.1 h).1; omega) (fun k e => by cases e; omega)
  exact this.block Bs hB

/-- A part of a number. -/
abbrev Part := { x : Int // 0 ≤ x ∧ x < 1000000000 }
theorem parts_of {xs : List Int} (h : Dig xs) : ∃ zs : List Part, zs.map (·.1) = xs := ⟨xs.attach.map fun x => ⟨x.1, h x.1 x.2⟩, by simp⟩
theorem rev_take_succ (zs : List Part) (k : Nat) (h : k < zs.length) : ∃ x : Part, zs.reverse.take (k + 1) = zs.reverse.take k ++ [x] ∧ (zs.map (·.1)).getD (zs.length - 1 - k) 0 = x.1 := by
  refine ⟨zs[zs.length - 1 - k], ?_, ?_⟩
  · rw [List.take_succ_eq_append_getElem (by simpa using h)]
    simp
  · rw [getD_of_lt _ _ (by simp; omega)]; simp

set_option maxRecDepth 100000 in
set_option maxHeartbeats 2000000 in
theorem top1_in (l Bs n₀ b off len cap : Nat) (zs : List Part) (hz : zs.length = len) (hlen : len ≤ 1000000) (hb : b < n₀) (J Jx : List Part → World → Prop)
    (hY : ∀ pre x W, J pre W → pre.length < len → YieldAt Fence.wide 3 Tryz.prog l #[.int .i64 x.1] W fun e W' =>
      (e = .returned (.bool true) ∧ J (pre ++ [x]) W' ∧ KeepT n₀ Bs W W') ∨ (e = .returned (.bool false) ∧ Jx (pre ++ [x]) W'))
    (W : World) (hBs : W.heap[Bs]? = some (.cells #[.slice (some ⟨b, off, none⟩) len cap] 22 (0, 0))) (hc : ∀ j, j < len → W.cell? ⟨b, off + j, none⟩ = some (.int .i64 ((zs.map (·.1)).getD j 0))) (h0 : J [] W) :
    CallsIn Fence.wide 4 Tryz.prog 116 #[.func (.yield l) #[] #[], .pointer (some ⟨Bs, 0, none⟩)] W fun e W' => (∃ v, e = .returned v) ∧
      ((∃ ys, ys = zs.reverse ∧ J ys W') ∨ (∃ pre, pre <+: zs.reverse ∧ Jx pre W')) := by
  have Hc := Lib.hid hc
  have Hz := Lib.hid hz
  have HBs := Lib.hid hBs
  have hcell : W.cell? ⟨Bs, 0, none⟩ = some (.slice (some ⟨b, off, none⟩) len cap) := by simp [World.cell?, hBs]
  clear hc hz hBs
  refine callsIn_of_wp Tryz.func116 rfl trivial ?_ rfl
  simp only [Tryz.ntmps116, List.size_toArray, List.length_cons, List.length_nil, Nat.reduceAdd, Nat.reduceSub, Array.replicate_succ, Array.replicate_zero, List.push_toArray, List.append_toArray, List.nil_append, List.cons_append]
  gi_wp2
  gi_loopw [3] (fun i wr => ∃ k : Nat, k ≤ len ∧ i = .int .i64 ((len : Int) - 1 - k) ∧ J (zs.reverse.take k) wr ∧ KeepT n₀ Bs W wr)
    (fun i _ => (intOf i + 1).toNat)
  case atStart => exact ⟨0, Nat.zero_le _, by simp, h0, Below.refl _ _, rfl⟩
  case round =>
    obtain ⟨k, hk, rfl, hJs, hnx⟩ := hrel
    by_cases hlt : k < len
    · have hcx : wr.cell? ⟨b, off + (len - 1 - k), none⟩ = some (.int .i64 ((zs.map (·.1)).getD (len - 1 - k) 0)) := (hnx.1.cell (p := ⟨b, off + (len - 1 - k), none⟩) hb).trans (Hc.out _ (by omega))
      have hbx : wr.cell? ⟨Bs, 0, none⟩ = some (.slice (some ⟨b, off, none⟩) len cap) := by
        have := hnx.2.trans HBs.out
        simp [World.cell?, this]
      obtain ⟨x, hsx, hx⟩ := rev_take_succ zs k (by rw [Hz.out]; exact hlt)
      rw [Hz.out] at hx
      have Hs := Lib.hid hsx
      rw [hx] at hcx
      clear hsx hx
      have hpl : (zs.reverse.take k).length < len := by rw [List.length_take, List.length_reverse, Hz.out]; omega
      have hidx : ((len : Int) - 1 - k).toNat = len - 1 - k := by omega
      obtain ⟨m, hm⟩ : ∃ m, len - 1 - k = m := ⟨_, rfl⟩
      have hlk : (len : Int) - 1 - k = m := by omega
      rw [hm] at hcx
      obtain ⟨fn, tmps, assign, body, hy, hR⟩ := hY _ x wr hJs hpl
      have Hk := Lib.hid (show len - 1 - k = m from hm)
      rw [hlk]
      have hml : m < len := by omega
      have Hlk := Lib.hid hlk
      clear hlk hm hidx
      gi_wp2
      refine hR.mono ?_
      rintro e W3 (⟨rfl, hJ3, hk3⟩ | ⟨rfl, hJx3⟩)
      · gi_wp2
        go_roundw
        case rel => exact ⟨k + 1, by omega, congrArg (Value.int .i64) (by have := Hlk.out; omega), by rw [Hs.out]; exact hJ3, hnx.t hk3⟩
        case measure => simp [intOf]
      · gi_wp2
        refine bodyPost_ret (results_none rfl _ _ _) rfl ?_
        exact ⟨⟨_, rfl⟩, .inr ⟨_, by rw [← Hs.out]; exact List.take_prefix _ _, hJx3⟩⟩
    · obtain rfl : k = len := by omega
      have he : (k : Int) - 1 - k = -1 := by omega
      rw [he]
      clear he
      gi_wp2
      go_end0
      exact ⟨⟨_, rfl⟩, .inl ⟨_, rfl, by
        have : zs.reverse.take k = zs.reverse := List.take_of_length_le (by rw [List.length_reverse, Hz.out]; exact Nat.le_refl _)
        rw [← this]; exact hJs⟩⟩

set_option maxRecDepth 100000 in
set_option maxHeartbeats 1000000 in
theorem top1_nil (l Bs cap : Nat) (ao : Option Addr) (J : List Part → World → Prop) (W : World) (hBs : W.cell? ⟨Bs, 0, none⟩ = some (.slice ao 0 cap)) (h0 : J [] W) :
    CallsIn Fence.wide 4 Tryz.prog 116 #[.func (.yield l) #[] #[], .pointer (some ⟨Bs, 0, none⟩)] W fun e W' => (∃ v, e = .returned v) ∧ J [] W' := by
  refine callsIn_of_wp Tryz.func116 rfl trivial ?_ rfl
  simp only [Tryz.ntmps116, List.size_toArray, List.length_cons, List.length_nil, Nat.reduceAdd, Nat.reduceSub, Array.replicate_succ, Array.replicate_zero, List.push_toArray, List.append_toArray, List.nil_append, List.cons_append]
  gi_wp2
  gi_loopw [3] (fun i wr => i = .int .i64 (-1) ∧ J [] wr) (fun _ _ => 0)
  case atStart => exact ⟨rfl, h0⟩
  case round =>
    obtain ⟨rfl, hJs⟩ := hrel
    gi_wp2
    go_end0
    exact ⟨⟨_, rfl⟩, hJs⟩

/-- fromTop itself: the slice is boxed. -/
theorem top_in (a : Option Addr) (len cap : Nat) (w : World) :
    CallsIn Fence.wide 4 Tryz.prog 77 #[.slice a len cap] w fun e w' => e = .returned (.func (.func 116) #[] #[.pointer (some ⟨w.heap.size, 0, none⟩)]) ∧ w' = w.alloc (.cells #[.slice a len cap] 22) := by
  refine callsIn_of_wp Tryz.func77 rfl trivial ?_ rfl
  simp only [Tryz.ntmps77, List.size_toArray, List.length_cons, List.length_nil, Nat.reduceAdd, Nat.reduceSub, Array.replicate_succ, Array.replicate_zero, List.push_toArray, List.append_toArray, List.nil_append, List.cons_append]
  gi_wp2
  go_ret
  exact ⟨rfl, rfl⟩

/-- The iterator, for every body that keeps what lay below n₀, and the iterator's block. -/
theorem top_stops (Bs n₀ : Nat) (ao : Option Addr) (len cap : Nat) (zs : List Part) (hlen : len ≤ 1000000) (w : World)
    (hBs : w.heap[Bs]? = some (.cells #[.slice ao len cap] 22 (0, 0))) (hs : Sl w ao len cap (zs.map (·.1))) (hlow : 0 < len → ∀ a, ao = some a → a.block < n₀) :
    SeqStopsK Fence.wide 4 Tryz.prog 116 #[.pointer (some ⟨Bs, 0, none⟩)] (fun x : Part => #[Value.int .i64 x.1]) (KeepT n₀ Bs) (fun ys => ys = zs.reverse) (fun pre => pre <+: zs.reverse) len w := fun l J Jx W hW _ _ hY h0 => by
  have hlt : Bs < w.heap.size := (Array.getElem?_eq_some_iff.1 hBs).1
  have hBs' : W.heap[Bs]? = some (.cells #[.slice ao len cap] 22 (0, 0)) := (hW.block Bs hlt).trans hBs
  have hs' := hs.below hW
  rcases Nat.eq_zero_or_pos len with h | h
  · subst h
    obtain rfl : zs = [] := List.eq_nil_of_length_eq_zero (by have := hs.length; simpa using this)
    exact (top1_nil l Bs cap ao J W (by simp [World.cell?, hBs']) h0).mono fun e W' ⟨he, hj⟩ => ⟨he, .inl ⟨_, rfl, hj⟩⟩
  · obtain ⟨b, o, rfl, hc⟩ := hs'.at h
    exact top1_in l Bs n₀ b o len cap zs (by have := hs.length; simpa using this) hlen (hlow h _ rfl) J Jx hY W hBs' hc h0
end Go.Proofs.YtfjnplhhgdfepaaGreatDoor

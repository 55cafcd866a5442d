/- Contracts of the functions of package num and of the law's helpers, part 1: each call ends and hands back what its contract says, for all arguments within the contract's premises. -/
import Derived.Test.YtfjnplhhgdfepaaGreatDoorProg
import Derived.WalkKit
import Derived.Lib.Hide
import Derived.RegionTactic
import Derived.BigQuiet
import Derived.Deep.QuietTactic
import Derived.WalkSpells
import Derived.Deep.RegionWith
import Derived.Deep.RegionHeld3
import Derived.WalkLawsBesides
set_option linter.all false

/- Numbers as lists of parts to the base 10^9: plain mathematics, no program. -/
namespace Go.Proofs.YtfjnplhhgdfepaaGreatDoor

/-- Lists of parts that are all from 0 to 10^9 - 1. -/
def Dig (xs : List Int) : Prop := ∀ x ∈ xs, 0 ≤ x ∧ x < 1000000000

/-- The number of a list of parts. -/
def val : List Int → Int
  | [] => 0
  | x :: xs => x + 1000000000 * val xs

/-- The parts of a number. -/
def parts : Nat → List Int
  | 0 => []
  | n + 1 => (((n + 1) % 1000000000 : Nat) : Int) :: parts ((n + 1) / 1000000000)
decreasing_by omega

theorem getD_of_lt (xs : List Int) (i : Nat) (h : i < xs.length) : xs.getD i 0 = xs[i] := by simp [List.getD, h]
theorem getD_of_ge (xs : List Int) (i : Nat) (h : xs.length ≤ i) : xs.getD i 0 = 0 := by simp [List.getD, List.getElem?_eq_none h]

/-- A list without the zeros at its end. -/
def trim (xs : List Int) : List Int := (xs.reverse.dropWhile (· == 0)).reverse

theorem trim_take_succ (xs : List Int) (n : Nat) (h : n < xs.length) (h0 : xs.getD n 0 = 0) : trim (xs.take (n+1)) = trim (xs.take n) := by
  unfold trim
  rw [List.take_succ_eq_append_getElem h, List.reverse_append]
  have : xs[n] = 0 := by simpa [List.getD, h] using h0
  simp [this]
theorem trim_take_stop (xs : List Int) (n : Nat) (h : n < xs.length) (h0 : xs.getD n 0 ≠ 0) : trim (xs.take (n+1)) = xs.take (n+1) := by
  unfold trim
  rw [List.take_succ_eq_append_getElem h, List.reverse_append]
  have : xs[n] ≠ 0 := by simpa [List.getD, h] using h0
  simp [this]
theorem trim_nil : trim [] = [] := rfl

theorem parts_zero : parts 0 = [] := by unfold parts; rfl
theorem parts_pos (n : Nat) (h : 0 < n) : parts n = ((n % 1000000000 : Nat) : Int) :: parts (n / 1000000000) := by
  obtain ⟨k, rfl⟩ : ∃ k, n = k + 1 := ⟨n - 1, by omega⟩
  rw [parts]

theorem Dig.nil : Dig [] := by intro x h; cases h
theorem Dig.cons {x : Int} {xs : List Int} (h0 : 0 ≤ x) (h1 : x < 1000000000) (h : Dig xs) : Dig (x :: xs) := by
  intro y hy
  rcases List.mem_cons.1 hy with rfl | hy
  · exact ⟨h0, h1⟩
  · exact h y hy
theorem Dig.tail {x : Int} {xs : List Int} (h : Dig (x :: xs)) : Dig xs := fun y hy => h y (List.mem_cons_of_mem _ hy)
theorem Dig.head {x : Int} {xs : List Int} (h : Dig (x :: xs)) : 0 ≤ x ∧ x < 1000000000 := h x List.mem_cons_self
theorem Dig.getD {xs : List Int} (h : Dig xs) (i : Nat) : 0 ≤ xs.getD i 0 ∧ xs.getD i 0 < 1000000000 := by
  by_cases hi : i < xs.length
  · rw [getD_of_lt _ _ hi]; exact h _ (List.getElem_mem hi)
  · rw [getD_of_ge _ _ (by omega)]; omega
theorem Dig.append {xs ys : List Int} (h : Dig xs) (k : Dig ys) : Dig (xs ++ ys) := by
  intro y hy
  rcases List.mem_append.1 hy with hy | hy
  · exact h y hy
  · exact k y hy
theorem Dig.take {xs : List Int} (h : Dig xs) (n : Nat) : Dig (xs.take n) := fun y hy => h y (List.mem_of_mem_take hy)
theorem Dig.drop {xs : List Int} (h : Dig xs) (n : Nat) : Dig (xs.drop n) := fun y hy => h y (List.mem_of_mem_drop hy)
theorem Dig.set {xs : List Int} (h : Dig xs) (i : Nat) (v : Int) (h0 : 0 ≤ v) (h1 : v < 1000000000) : Dig (xs.set i v) := by
  intro y hy
  rcases List.mem_or_eq_of_mem_set hy with hy | rfl
  · exact h y hy
  · exact ⟨h0, h1⟩
theorem Dig.replicate (n : Nat) : Dig (List.replicate n 0) := by
  intro y hy
  rw [List.eq_of_mem_replicate hy]; omega

theorem parts_dig (n : Nat) : Dig (parts n) := by
  induction n using Nat.strongRecOn with
  | _ n ih =>
    by_cases h : n = 0
    · subst h; rw [parts_zero]; exact Dig.nil
    · rw [parts_pos n (by omega)]
      exact Dig.cons (by omega) (by omega) (ih _ (by omega))

theorem val_nonneg {xs : List Int} (h : Dig xs) : 0 ≤ val xs := by
  induction xs with
  | nil => simp [val]
  | cons x xs ih => have := ih h.tail; have := h.head; unfold val; omega

theorem val_parts (n : Nat) : val (parts n) = n := by
  induction n using Nat.strongRecOn with
  | _ n ih =>
    by_cases h : n = 0
    · subst h; rw [parts_zero]; rfl
    · rw [parts_pos n (by omega), val, ih _ (by omega)]; omega

theorem val_append (xs ys : List Int) : val (xs ++ ys) = val xs + 1000000000 ^ xs.length * val ys := by
  induction xs with
  | nil => simp [val]
  | cons x xs ih => simp only [List.cons_append, val, ih, List.length_cons]; grind

theorem trim_snoc_zero (xs : List Int) : trim (xs ++ [0]) = trim xs := by unfold trim; simp
theorem trim_snoc (xs : List Int) (x : Int) (h : x ≠ 0) : trim (xs ++ [x]) = xs ++ [x] := by unfold trim; simp [h]
theorem trim_cons_ne (x : Int) (xs : List Int) (h : trim xs ≠ []) : trim (x :: xs) = x :: trim xs := by
  unfold trim at *
  rw [List.reverse_cons, List.dropWhile_append]
  have h' : (List.dropWhile (fun x => x == 0) xs.reverse).isEmpty = false := by
    cases hh : List.dropWhile (fun x => x == 0) xs.reverse with
    | nil => rw [hh] at h; exact absurd rfl h
    | cons _ _ => rfl
  rw [h']; simp
theorem trim_cons_nil (x : Int) (xs : List Int) (h : trim xs = []) : trim (x :: xs) = if x = 0 then [] else [x] := by
  unfold trim at *
  rw [List.reverse_cons, List.dropWhile_append]
  have h' : (List.dropWhile (fun x => x == 0) xs.reverse).isEmpty = true := by
    simpa using h
  rw [h']
  by_cases hx : x = 0 <;> simp [hx]

theorem trim_eq {xs : List Int} (h : Dig xs) : trim xs = parts (val xs).toNat := by
  induction xs with
  | nil => simp [val, trim, parts_zero]
  | cons x xs ih =>
    have h1 := ih h.tail
    have h2 := val_nonneg h.tail
    have h3 := h.head
    by_cases hv : val xs = 0
    · rw [hv] at h1
      rw [trim_cons_nil x xs (by rw [h1]; exact parts_zero)]
      by_cases hx : x = 0
      · simp [hx, val, hv, parts_zero]
      · rw [if_neg hx, val, hv, parts_pos _ (by omega)]
        have e1 : (((x + 1000000000 * 0).toNat % 1000000000 : Nat) : Int) = x := by omega
        have e2 : (x + 1000000000 * 0).toNat / 1000000000 = 0 := by omega
        rw [e1, e2, parts_zero]
    · have hne : trim xs ≠ [] := by
        rw [h1, parts_pos _ (by omega)]; simp
      rw [trim_cons_ne x xs hne, h1, val, parts_pos (x + 1000000000 * val xs).toNat (by omega)]
      have e1 : (((x + 1000000000 * val xs).toNat % 1000000000 : Nat) : Int) = x := by omega
      have e2 : (x + 1000000000 * val xs).toNat / 1000000000 = (val xs).toNat := by omega
      rw [e1, e2]

theorem trim_parts (n : Nat) : trim (parts n) = parts n := by
  rw [trim_eq (parts_dig n), val_parts]; simp
theorem trim_of_last {xs : List Int} (h : xs.getLast? ≠ some 0) : trim xs = xs := by
  rcases List.eq_nil_or_concat xs with rfl | ⟨ys, y, rfl⟩
  · rfl
  · rw [List.concat_eq_append] at *
    exact trim_snoc ys y (by simpa using h)
theorem canon {xs : List Int} (h : Dig xs) (hl : xs.getLast? ≠ some 0) : xs = parts (val xs).toNat := by
  rw [← trim_eq h, trim_of_last hl]
theorem trim_length (xs : List Int) : (trim xs).length ≤ xs.length := by
  unfold trim
  rw [List.length_reverse]
  have := (List.dropWhile_sublist (fun x : Int => x == 0) (l := xs.reverse)).length_le
  simpa using this

theorem parts_inj {m n : Nat} (h : parts m = parts n) : m = n := by
  have := congrArg val h
  rw [val_parts, val_parts] at this; omega

theorem val_lt {xs : List Int} (h : Dig xs) : val xs < 1000000000 ^ xs.length := by
  induction xs with
  | nil => simp [val]
  | cons x xs ih =>
    have h1 := ih h.tail
    have h3 := h.head
    rw [val, List.length_cons, Int.pow_succ]
    omega

theorem parts_len (n k : Nat) : (parts n).length ≤ k ↔ n < 1000000000 ^ k := by
  induction k generalizing n with
  | zero =>
    by_cases h : n = 0
    · subst h; simp [parts_zero]
    · rw [parts_pos n (by omega)]; simp; omega
  | succ k ih =>
    by_cases h : n = 0
    · subst h
      rw [parts_zero]
      have : 0 < 1000000000 ^ (k + 1) := Nat.pow_pos (by omega)
      simp only [List.length_nil, Nat.zero_le, true_iff]
      exact this
    · rw [parts_pos n (by omega), List.length_cons, Nat.pow_succ]
      have := ih (n / 1000000000)
      rw [Nat.div_lt_iff_lt_mul (by omega)] at this
      omega

theorem parts_ge (n k : Nat) : k < (parts n).length ↔ 1000000000 ^ k ≤ n := by
  have := parts_len n k
  omega

theorem parts_nil_iff (n : Nat) : parts n = [] ↔ n = 0 := by
  constructor
  · intro h
    have := congrArg val h
    rw [val_parts] at this
    simp [val] at this; exact this
  · rintro rfl; exact parts_zero

theorem parts_last (n : Nat) : (parts n).getLast? ≠ some 0 := by
  intro h
  have h1 := trim_parts n
  rcases List.eq_nil_or_concat (parts n) with h0 | ⟨ys, y, hy⟩
  · rw [h0] at h; cases h
  · rw [hy, List.concat_eq_append] at h h1
    have : y = 0 := by simpa using h
    subst this
    rw [trim_snoc_zero] at h1
    have := congrArg List.length h1
    have h2 := trim_length ys
    simp at this; omega

/-- -1, 0 or 1. -/
def cmp3 (x y : Int) : Int := if x < y then -1 else if x = y then 0 else 1
/-- Two lists of one length, compared from their ends. -/
def cmpE : List Int → List Int → Int
  | x :: xs, y :: ys => if cmpE xs ys = 0 then cmp3 x y else cmpE xs ys
  | _, _ => 0
/-- Lists, the shorter one first. -/
def cmpL (xs ys : List Int) : Int := if xs.length < ys.length then -1 else if ys.length < xs.length then 1 else cmpE xs ys

theorem cmp3_self (x : Int) : cmp3 x x = 0 := by simp [cmp3]
theorem cmp3_zero {x y : Int} : cmp3 x y = 0 ↔ x = y := by
  unfold cmp3; split
  · constructor <;> intro h <;> omega
  · split <;> simp_all
theorem cmpE_snoc (xs ys : List Int) (x y : Int) (h : xs.length = ys.length) : cmpE (xs ++ [x]) (ys ++ [y]) = if x = y then cmpE xs ys else cmp3 x y := by
  induction xs generalizing ys with
  | nil =>
    cases ys with
    | nil => simp only [List.nil_append, cmpE, if_true]; split <;> simp_all [cmp3_self]
    | cons _ _ => simp at h
  | cons a xs ih =>
    cases ys with
    | nil => simp at h
    | cons b ys =>
      simp only [List.cons_append, cmpE]
      rw [ih ys (by simpa using h)]
      by_cases hxy : x = y
      · simp [hxy]
      · simp only [hxy, if_false]
        have : cmp3 x y ≠ 0 := fun h0 => hxy (cmp3_zero.1 h0)
        simp [this]
theorem cmpE_take (xs ys : List Int) (k : Nat) (hx : k < xs.length) (hy : k < ys.length) :
    cmpE (xs.take (k + 1)) (ys.take (k + 1)) = if xs.getD k 0 = ys.getD k 0 then cmpE (xs.take k) (ys.take k) else cmp3 (xs.getD k 0) (ys.getD k 0) := by
  rw [List.take_succ_eq_append_getElem hx, List.take_succ_eq_append_getElem hy, cmpE_snoc _ _ _ _ (by simp; omega)]
  rw [getD_of_lt _ _ hx, getD_of_lt _ _ hy]
theorem cmpE_val {xs ys : List Int} (h : xs.length = ys.length) (hx : Dig xs) (hy : Dig ys) : cmpE xs ys = cmp3 (val xs) (val ys) := by
  induction xs generalizing ys with
  | nil =>
    cases ys with
    | nil => simp [cmpE, cmp3]
    | cons _ _ => simp at h
  | cons a xs ih =>
    cases ys with
    | nil => simp at h
    | cons b ys =>
      have h1 := ih (by simpa using h) hx.tail hy.tail
      have h2 := hx.head
      have h3 := hy.head
      rw [cmpE, val, val, h1]
      unfold cmp3
      split <;> (try split) <;> (try split) <;> (try split) <;> (try split) <;> omega
theorem cmpL_parts (m n : Nat) : cmpL (parts m) (parts n) = cmp3 m n := by
  unfold cmpL
  split
  · rename_i h
    rw [parts_ge] at h
    have := (parts_len m (parts m).length).1 (Nat.le_refl _)
    unfold cmp3; rw [if_pos (by omega)]
  · split
    · rename_i h
      rw [parts_ge] at h
      have := (parts_len n (parts n).length).1 (Nat.le_refl _)
      unfold cmp3; rw [if_neg (by omega), if_neg (by omega)]
    · rw [cmpE_val (by omega) (parts_dig m) (parts_dig n), val_parts, val_parts]

theorem val_set (xs : List Int) (i : Nat) (v : Int) (h : i < xs.length) : val (xs.set i v) = val xs + 1000000000 ^ i * (v - xs.getD i 0) := by
  induction xs generalizing i with
  | nil => simp at h
  | cons x xs ih =>
    cases i with
    | zero => simp [val]; omega
    | succ i => simp only [List.set_cons_succ, val, List.getD_cons_succ]; rw [ih i (by simpa using h)]; grind
theorem val_replicate (n : Nat) : val (List.replicate n 0) = 0 := by
  induction n with
  | zero => rfl
  | succ n ih => rw [List.replicate_succ, val, ih]; rfl
theorem val_take_succ (xs : List Int) (k : Nat) (h : k < xs.length) : val (xs.take (k + 1)) = val (xs.take k) + 1000000000 ^ k * xs.getD k 0 := by
  rw [List.take_succ_eq_append_getElem h, val_append, List.length_take, getD_of_lt _ _ h, Nat.min_eq_left (by omega)]
  simp [val]
theorem val_take_all (xs : List Int) (k : Nat) (h : xs.length ≤ k) : val (xs.take k) = val xs := by rw [List.take_of_length_le h]
theorem val_drop (xs : List Int) (k : Nat) (h : k ≤ xs.length) : val xs = val (xs.take k) + 1000000000 ^ k * val (xs.drop k) := by
  have := val_append (xs.take k) (xs.drop k)
  rw [List.take_append_drop, List.length_take, Nat.min_eq_left h] at this
  exact this
end Go.Proofs.YtfjnplhhgdfepaaGreatDoor

/- Slices of ints in memory: what it is that a slice value reads as a list of ints, and that it does so behind calls that leave what was there as it was. The contract of cut. -/
namespace Go.Proofs.YtfjnplhhgdfepaaGreatDoor
open Go.RowKit

/-- The slice value with these three parts reads as the list of ints. -/
def Sl (w : World) (ao : Option Addr) (len cap : Nat) (xs : List Int) : Prop :=
  xs.length = len ∧ len ≤ cap ∧ cap ≤ maxLen ∧ ((ao = none ∧ cap = 0) ∨ ∃ b o, ao = some ⟨b, o, none⟩ ∧ ∀ j, j < len → w.cell? ⟨b, o + j, none⟩ = some (.int .i64 (xs.getD j 0)))

theorem Sl.at {w : World} {ao : Option Addr} {len cap : Nat} {xs : List Int} (h : Sl w ao len cap xs) (h0 : 0 < len) :
    ∃ b o, ao = some ⟨b, o, none⟩ ∧ ∀ j, j < len → w.cell? ⟨b, o + j, none⟩ = some (.int .i64 (xs.getD j 0)) := by
  obtain ⟨_, h2, _, ⟨_, h4⟩ | h5⟩ := h
  · omega
  · exact h5
theorem Sl.cellAt {w : World} {b o len cap : Nat} {xs : List Int} (h : Sl w (some ⟨b, o, none⟩) len cap xs) (j : Nat) (hj : j < len) : w.cell? ⟨b, o + j, none⟩ = some (.int .i64 (xs.getD j 0)) := by
  obtain ⟨b', o', h1, h2⟩ := h.at (by omega)
  injection h1 with h1
  injection h1 with h3 h4 _
  subst h3; subst h4
  exact h2 j hj
theorem Sl.len_le {w : World} {ao : Option Addr} {len cap : Nat} {xs : List Int} (h : Sl w ao len cap xs) : len ≤ cap ∧ cap ≤ 9223372036854775807 := by
  obtain ⟨_, h2, h3, _⟩ := h
  unfold maxLen at h3
  exact ⟨h2, h3⟩
theorem Sl.length {w : World} {ao : Option Addr} {len cap : Nat} {xs : List Int} (h : Sl w ao len cap xs) : xs.length = len := h.1
theorem Sl.nil (w : World) : Sl w none 0 0 [] := ⟨rfl, Nat.le_refl _, by unfold maxLen; omega, .inl ⟨rfl, rfl⟩⟩
theorem cell_lt {w : World} {a : Addr} {v : Value} (h : w.cell? a = some v) : a.block < w.heap.size := by
  unfold World.cell? at h
  split at h
  · rename_i hh; exact (Array.getElem?_eq_some_iff.1 hh).1
  · cases h
theorem Sl.of_cells {w w' : World} {ao : Option Addr} {len cap : Nat} {xs : List Int} (h : Sl w ao len cap xs)
    (k : ∀ a v, w.cell? a = some v → w'.cell? a = some v) : Sl w' ao len cap xs := by
  obtain ⟨h1, h2, h3, h4 | ⟨b, o, h5, h6⟩⟩ := h
  · exact ⟨h1, h2, h3, .inl h4⟩
  · exact ⟨h1, h2, h3, .inr ⟨b, o, h5, fun j hj => k _ _ (h6 j hj)⟩⟩
theorem Sl.below {w w' : World} {ao : Option Addr} {len cap : Nat} {xs : List Int} (h : Sl w ao len cap xs) (hb : Below w.heap.size w w') : Sl w' ao len cap xs :=
  h.of_cells fun a v ha => by rw [hb.cell (cell_lt ha)]; exact ha
theorem Sl.alloc {w : World} {ao : Option Addr} {len cap : Nat} {xs : List Int} (h : Sl w ao len cap xs) (o : Obj) : Sl (w.alloc o) ao len cap xs :=
  h.below ((Below.refl _ _).alloc (Nat.le_refl _) o)
theorem Sl.drew {w : World} {ao : Option Addr} {len cap : Nat} {xs : List Int} (h : Sl w ao len cap xs) : Sl w.drew ao len cap xs := h.below (Below.refl _ _).drew

/-- A cut of the end. -/
theorem Sl.cut {w : World} {ao : Option Addr} {len cap : Nat} {xs : List Int} (h : Sl w ao len cap xs) (n : Nat) (hn : n ≤ len) : Sl w ao n cap (xs.take n) := by
  obtain ⟨h1, h2, h3, h4⟩ := h
  refine ⟨by rw [List.length_take]; omega, by omega, h3, ?_⟩
  rcases h4 with h4 | ⟨b, o, h5, h6⟩
  · exact .inl h4
  · refine .inr ⟨b, o, h5, fun j hj => ?_⟩
    rw [h6 j (by omega)]
    simp [List.getD, hj]

/-- Block g is a row of ints of its own. -/
def RowOf (w : World) (g : Nat) (xs : List Int) : Prop := w.heap[g]? = some (.cells (xs.map (Value.int .i64)).toArray 3 (0, 0))
theorem RowOf.lt {w : World} {g : Nat} {xs : List Int} (h : RowOf w g xs) : g < w.heap.size := (Array.getElem?_eq_some_iff.1 h).1
theorem RowOf.cell {w : World} {g : Nat} {xs : List Int} (h : RowOf w g xs) (i : Nat) (hi : i < xs.length) : w.cell? ⟨g, i, none⟩ = some (.int .i64 (xs.getD i 0)) := by
  unfold RowOf at h
  simp [World.cell?, h, hi, List.getD]
theorem RowOf.cell0 {w : World} {g : Nat} {xs : List Int} (h : RowOf w g xs) (i : Nat) (hi : i < xs.length) : w.cell? ⟨g, 0 + i, none⟩ = some (.int .i64 (xs.getD i 0)) := by
  rw [Nat.zero_add]; exact h.cell i hi
theorem RowOf.frozen {w : World} {g : Nat} {xs : List Int} (h : RowOf w g xs) (i : Nat) : w.frozen? ⟨g, i, none⟩ = false := by
  unfold RowOf at h
  simp [World.frozen?, h]
theorem RowOf.set {w : World} {g : Nat} {xs : List Int} (h : RowOf w g xs) (i : Nat) (v : Int) : RowOf (w.setCell ⟨g, i, none⟩ (.int .i64 v)) g (xs.set i v) := by
  unfold RowOf at *
  obtain ⟨hlt, hk⟩ := Array.getElem?_eq_some_iff.1 h
  show (w.heap.modify g _)[g]? = _
  rw [Array.getElem?_eq_getElem (by rw [Array.size_modify]; exact hlt), Array.getElem_modify_self, hk]
  simp [List.map_set]
theorem RowOf.below {w w' : World} {g : Nat} {xs : List Int} (h : RowOf w g xs) (hb : Below w.heap.size w w') : RowOf w' g xs := by
  have hl := h.lt
  unfold RowOf at *
  rw [hb.block g hl]; exact h
theorem RowOf.alloc {w : World} {g : Nat} {xs : List Int} (h : RowOf w g xs) (o : Obj) : RowOf (w.alloc o) g xs := h.below ((Below.refl _ _).alloc (Nat.le_refl _) o)
theorem RowOf.drew {w : World} {g : Nat} {xs : List Int} (h : RowOf w g xs) : RowOf w.drew g xs := h
theorem RowOf.sl {w : World} {g : Nat} {xs : List Int} (h : RowOf w g xs) (n : Nat) (hn : xs.length = n) (hm : n ≤ 1000000000000) : Sl w (some ⟨g, 0, none⟩) n n xs :=
  ⟨hn, Nat.le_refl _, by unfold maxLen; omega, .inr ⟨g, 0, rfl, fun j hj => h.cell0 j (by omega)⟩⟩
theorem RowOf.other {w : World} {g : Nat} {xs : List Int} (h : RowOf w g xs) (a : Addr) (v : Value) (hne : a.block ≠ g) : RowOf (w.setCell a v) g xs := by
  unfold RowOf at *
  rw [Below.heap_setCell _ _ _ _ (by omega)]; exact h

theorem Tryz.info3 : (Tryz.prog.info? 3).map (fun i => (i.zero, i.size, i.bytes)) = some (some (.int .i64 0), 1, 8) := by kernel_rfl

/-- What 'make([]int, n)' makes. -/
theorem RowOf.made {w : World} {g n cap : Nat} (h : w.ownsRow g 3 1 (.slice (some ⟨g, 0, none⟩) n cap) n (madeCells #[Value.int .i64 0] n).toList) (hc : cap = n) : RowOf w g (List.replicate n 0) := by
  subst hc
  obtain ⟨h1, ⟨h2, _⟩ | ⟨g', c', cur, h2, _, h3, h4, h5, h6, h7⟩⟩ := h
  · cases h2
  · injection h2 with e1 e2 e3
    injection e1 with e1
    injection e1 with e1
    subst e1; subst e3
    unfold RowOf
    rw [h3]
    have hs : cur.toList = (madeCells #[Value.int .i64 0] cap).toList := by
      rw [← h7, List.take_of_length_le (by simp [h6])]
    have hs' : cur = madeCells #[Value.int .i64 0] cap := Array.toList_inj.1 hs
    rw [hs']
    refine congrArg (fun a => some (Obj.cells a 3 (0, 0))) ?_
    apply Array.ext
    · simp [madeCells]
    · intro i h1 h2
      simp [madeCells, Nat.mod_one]

/-- A call that hands back a slice that reads as these ints. -/
def RetS (xs : List Int) (w : World) (e : Ending) (w' : World) : Prop := ∃ ao len cap, e = .returned (.slice ao len cap) ∧ Sl w' ao len cap xs ∧ Below w.heap.size w w'

set_option maxHeartbeats 400000 in
theorem cut_any (ao : Option Addr) (len cap : Nat) (xs : List Int) (w : World) (hs : Sl w ao len cap xs) :
    Calls Tryz.prog 117 #[.slice ao len cap] w fun e w' => e = .returned (.slice ao (trim xs).length cap) ∧ w = w' := by
  have hb := hs.len_le
  have hl : xs.length = len := hs.1
  go_enter Tryz.func117, Tryz.ntmps117
  go_wp2
  go_loop [0] (fun s => ∃ n : Nat, n ≤ len ∧ s = .slice ao n cap ∧ trim (xs.take n) = trim xs) (fun s => match s with | .slice _ n _ => n | _ => 0)
  case atStart => exact ⟨len, Nat.le_refl _, rfl, by rw [← hl, List.take_length]⟩
  case round =>
    obtain ⟨n, hn, rfl, ht⟩ := hrel
    have Ht := Lib.hid ht
    have Hl := Lib.hid hl
    clear ht hl
    rcases n with _ | n
    · go_wp2
      go_ret
      have e : trim xs = [] := by rw [← Ht.out]; rfl
      exact ⟨by rw [e]; rfl, rfl⟩
    · obtain ⟨b, o, rfl, hc⟩ := hs.at (by omega)
      have hcn := hc n (by omega)
      clear hc
      by_cases hz : xs.getD n 0 = 0
      · have Hz := Lib.hid hz
        rw [hz] at hcn
        clear hz
        go_wp2
        go_round
        case rel => exact ⟨n, by omega, rfl, by rw [← Ht.out, trim_take_succ xs n (by have := Hl.out; omega) Hz.out]⟩
        case measure => simp
      · have hz' : (xs.getD n 0 == 0) = false := by simpa using hz
        have hv : ∃ v, v = xs.getD n 0 := ⟨_, rfl⟩
        obtain ⟨v, hv⟩ := hv
        rw [← hv] at hcn hz'
        have Hv := Lib.hid hv
        clear hv
        have hl := Hl.out
        have HT := Lib.hid (trim_take_stop xs n (by omega) hz)
        have HL := Lib.hid (show (xs.take (n+1)).length = n + 1 by rw [List.length_take]; omega)
        clear hz hl
        go_wp2
        go_ret
        have e : trim xs = xs.take (n+1) := by rw [← Ht.out]; exact HT.out
        exact ⟨by rw [e, HL.out]; rfl, rfl⟩

theorem Sl.trim {w : World} {ao : Option Addr} {len cap : Nat} {xs : List Int} (h : Sl w ao len cap xs) (hd : Dig xs) : Sl w ao (trim xs).length cap (parts (val xs).toNat) := by
  have hl := h.length
  have := h.cut (Go.Proofs.YtfjnplhhgdfepaaGreatDoor.trim xs).length (by have := trim_length xs; omega)
  rw [← trim_eq hd]
  have e : xs.take (Go.Proofs.YtfjnplhhgdfepaaGreatDoor.trim xs).length = Go.Proofs.YtfjnplhhgdfepaaGreatDoor.trim xs := by
    have hp : (Go.Proofs.YtfjnplhhgdfepaaGreatDoor.trim xs) <+: xs := by
      unfold Go.Proofs.YtfjnplhhgdfepaaGreatDoor.trim
      have h1 := List.dropWhile_suffix (fun x : Int => x == 0) (l := xs.reverse)
      have h2 := List.reverse_prefix.2 h1
      rwa [List.reverse_reverse] at h2
    exact (List.prefix_iff_eq_take.1 hp).symm
  rwa [e] at this
end Go.Proofs.YtfjnplhhgdfepaaGreatDoor

/- The contract of addParts: of two lists of parts the parts of their sum. -/
namespace Go.Proofs.YtfjnplhhgdfepaaGreatDoor
open Go.RowKit

def AddInv (xs ys : List Int) (k : Nat) (c : Int) (zs : List Int) : Prop :=
  zs.length = xs.length + 1 ∧ Dig zs ∧ (∀ j, k ≤ j → zs.getD j 0 = 0) ∧ 0 ≤ c ∧ c ≤ 1 ∧ val zs + 1000000000 ^ k * c = val (xs.take k) + val (ys.take k)

theorem getD_set_ne (zs : List Int) (k j : Nat) (v : Int) (h : k ≠ j) : (zs.set k v).getD j 0 = zs.getD j 0 := by
  simp [List.getD, List.getElem?_set_ne h]
theorem getD_set_eq (zs : List Int) (k : Nat) (v : Int) (h : k < zs.length) : (zs.set k v).getD k 0 = v := by
  simp [List.getD, h]
theorem getD_replicate (n j : Nat) : (List.replicate n (0 : Int)).getD j 0 = 0 := by
  simp [List.getD, List.getElem?_replicate]
  split <;> rfl

theorem val_take_step (xs : List Int) (k : Nat) : val (xs.take (k + 1)) = val (xs.take k) + 1000000000 ^ k * xs.getD k 0 := by
  by_cases h : k < xs.length
  · exact val_take_succ xs k h
  · rw [List.take_of_length_le (by omega), List.take_of_length_le (by omega), getD_of_ge _ _ (by omega)]; omega

theorem AddInv.start (xs ys : List Int) : AddInv xs ys 0 0 (List.replicate (xs.length + 1) 0) :=
  ⟨by simp, Dig.replicate _, fun j _ => getD_replicate _ _, by omega, by omega, by rw [val_replicate]; simp [val]⟩
theorem AddInv.step {xs ys : List Int} {k : Nat} {c : Int} {zs : List Int} (h : AddInv xs ys k c zs) (hk : k < xs.length) (hx : Dig xs) (hy : Dig ys) (p : Int) (hp : p = xs.getD k 0 + c + ys.getD k 0) :
    AddInv xs ys (k + 1) (p / 1000000000) (zs.set k (p % 1000000000)) := by
  obtain ⟨h1, h2, h3, h4, h5, h6⟩ := h
  have hxk := hx.getD k
  have hyk := hy.getD k
  refine ⟨by simp [h1], h2.set _ _ (by omega) (by omega), fun j hj => ?_, by omega, by omega, ?_⟩
  · rw [getD_set_ne _ _ _ _ (by omega)]; exact h3 j (by omega)
  · rw [val_set _ _ _ (by omega), h3 k (Nat.le_refl _), val_take_step, val_take_step, Int.pow_succ]
    have e : p % 1000000000 + 1000000000 * (p / 1000000000) = p := by omega
    grind
theorem AddInv.finish {xs ys : List Int} {c : Int} {zs : List Int} (h : AddInv xs ys xs.length c zs) (hl : ys.length ≤ xs.length) :
    Dig (zs.set xs.length c) ∧ val (zs.set xs.length c) = val xs + val ys := by
  obtain ⟨h1, h2, h3, h4, h5, h6⟩ := h
  refine ⟨h2.set _ _ (by omega) (by omega), ?_⟩
  rw [val_set _ _ _ (by omega), h3 _ (Nat.le_refl _)]
  rw [List.take_length, val_take_all ys _ hl] at h6
  grind

set_option maxHeartbeats 1000000 in
theorem add_ge (ax : Option Addr) (la ca : Nat) (xs : List Int) (ay : Option Addr) (lb cb : Nat) (ys : List Int) (w : World) (hx : Sl w ax la ca xs) (hy : Sl w ay lb cb ys)
    (dx : Dig xs) (dy : Dig ys) (hm : la ≤ 1000000) (hge : ¬ la < lb) :
    Calls Tryz.prog 135 #[.slice ax la ca, .slice ay lb cb] w (RetS (parts (val xs + val ys).toNat) w) := by
  obtain ⟨i0, hi, hz0, hz1, hz2⟩ := info_parts Tryz.info3
  go_enter Tryz.func135, Tryz.ntmps135
  go_wp2_with (at_make; refine wpList_make_full _ rfl _ _ 22 rfl w.heap.size 3 i0 (.int .i64 0) 1 Tryz.underlying22 hi hz0 hz1 _ _ _ _ (la + 1) rfl rfl ?c1 ?c2 ?c3 ?c4 ?c5 ?_)
  case c1 => omega
  case c2 => omega
  case c3 => rw [hz2]; omega
  case c4 => unfold maxLen; omega
  case c5 => omega
  intro w1 hown hgrow
  have hrow := RowOf.made hown rfl
  have hb1 : Below w.heap.size w w1 := (Below.refl _ _).grown hgrow (Nat.le_refl _) (fun _ h => by cases h)
  generalize hg : w.heap.size = g at *
  have Hg := Lib.hid hg
  clear hg hown hgrow
  go_wp2
  have hlx := Lib.hid hx.length
  have hly := Lib.hid hy.length
  go_loopw [6, 22] (fun c i wr => ∃ (k : Nat) (cv : Int) (zs : List Int), k ≤ la ∧ i = .int .i64 k ∧ c = .int .i64 cv ∧ AddInv xs ys k cv zs ∧ RowOf wr g zs ∧ Below g w wr) (fun _ i _ => la - (intOf i).toNat)
  case atStart => exact ⟨0, 0, _, Nat.zero_le _, rfl, rfl, by have := AddInv.start xs ys; rwa [hlx.out] at this, hrow, hb1⟩
  case round =>
    clear hb1 hrow
    obtain ⟨k, cv, zs, hk, rfl, rfl, hinv, hrow, hbel⟩ := hrel
    have hsx := hx.below (by rw [Hg.out]; exact hbel)
    have hsy := hy.below (by rw [Hg.out]; exact hbel)
    have hc0 := hinv.2.2.2.1
    have hc1 := hinv.2.2.2.2.1
    have hzl := Lib.hid hinv.1
    by_cases hlt : k < la
    · obtain ⟨bx, ox, rfl, hcx⟩ := hsx.at (by omega)
      have hcxk := hcx k hlt
      have hxd := dx.getD k
      generalize hxk : xs.getD k 0 = x at hcxk hxd
      have Hxk := Lib.hid hxk
      have hfz := hrow.frozen k
      have hcz := hrow.cell k (by rw [hzl.out, hlx.out]; omega)
      clear hcx hxk
      by_cases hlb : k < lb
      · obtain ⟨by', oy, rfl, hcy⟩ := hsy.at (by omega)
        have hcyk := hcy k hlb
        have hyd := dy.getD k
        generalize hyk : ys.getD k 0 = y at hcyk hyd
        have Hyk := Lib.hid hyk
        clear hcy hyk
        go_wp2
        go_roundw
        case rel => exact ⟨k + 1, _, _, hlt, by go_num, rfl, hinv.step (by rw [hlx.out]; exact hlt) dx dy _ (by rw [Hxk.out, Hyk.out]), hrow.set _ _, hbel.setCell (Nat.le_refl _) _⟩
        case measure => simp [intOf]; omega
      · go_wp2
        go_roundw
        case rel => exact ⟨k + 1, _, _, hlt, by go_num, rfl, hinv.step (by rw [hlx.out]; exact hlt) dx dy _ (by rw [Hxk.out, getD_of_ge ys k (by rw [hly.out]; omega)]; omega), hrow.set _ _, hbel.setCell (Nat.le_refl _) _⟩
        case measure => simp [intOf]; omega
    · have hkl : k = la := by omega
      subst hkl
      have hfz := hrow.frozen k
      have hcz := hrow.cell k (by rw [hzl.out, hlx.out]; omega)
      have hfin := Lib.hid (AddInv.finish (c := cv) (zs := zs) (by rw [hlx.out]; exact hinv) (by rw [hlx.out, hly.out]; omega))
      have hrow2 := hrow.set k cv
      have hsl := hrow2.sl (k + 1) (by rw [List.length_set, hzl.out, hlx.out]) (by omega)
      rw [hlx.out] at hfin
      clear hinv
      go_wp2_with fail
      refine (cut_any _ _ _ _ _ hsl).mono ?_
      rintro e w' ⟨rfl, rfl⟩
      go_wp2
      go_ret
      refine ⟨_, _, _, rfl, ?_, ?_⟩
      · have := hsl.trim hfin.out.1
        rw [hfin.out.2] at this
        exact this
      · rw [Hg.out]; exact hbel.setCell (Nat.le_refl _) _
set_option maxHeartbeats 1000000 in
theorem add_lt (ax : Option Addr) (la ca : Nat) (xs : List Int) (ay : Option Addr) (lb cb : Nat) (ys : List Int) (w : World) (hx : Sl w ax la ca xs) (hy : Sl w ay lb cb ys)
    (dx : Dig xs) (dy : Dig ys) (hm : la ≤ 1000000) (hge : lb < la) :
    Calls Tryz.prog 135 #[.slice ay lb cb, .slice ax la ca] w (RetS (parts (val xs + val ys).toNat) w) := by
  obtain ⟨i0, hi, hz0, hz1, hz2⟩ := info_parts Tryz.info3
  go_enter Tryz.func135, Tryz.ntmps135
  go_wp2_with (at_make; refine wpList_make_full _ rfl _ _ 22 rfl w.heap.size 3 i0 (.int .i64 0) 1 Tryz.underlying22 hi hz0 hz1 _ _ _ _ (la + 1) rfl rfl ?c1 ?c2 ?c3 ?c4 ?c5 ?_)
  case c1 => omega
  case c2 => omega
  case c3 => rw [hz2]; omega
  case c4 => unfold maxLen; omega
  case c5 => omega
  intro w1 hown hgrow
  have hrow := RowOf.made hown rfl
  have hb1 : Below w.heap.size w w1 := (Below.refl _ _).grown hgrow (Nat.le_refl _) (fun _ h => by cases h)
  generalize hg : w.heap.size = g at *
  have Hg := Lib.hid hg
  clear hg hown hgrow
  go_wp2
  have hlx := Lib.hid hx.length
  have hly := Lib.hid hy.length
  go_loopw [6, 22] (fun c i wr => ∃ (k : Nat) (cv : Int) (zs : List Int), k ≤ la ∧ i = .int .i64 k ∧ c = .int .i64 cv ∧ AddInv xs ys k cv zs ∧ RowOf wr g zs ∧ Below g w wr) (fun _ i _ => la - (intOf i).toNat)
  case atStart => exact ⟨0, 0, _, Nat.zero_le _, rfl, rfl, by have := AddInv.start xs ys; rwa [hlx.out] at this, hrow, hb1⟩
  case round =>
    clear hb1 hrow
    obtain ⟨k, cv, zs, hk, rfl, rfl, hinv, hrow, hbel⟩ := hrel
    have hsx := hx.below (by rw [Hg.out]; exact hbel)
    have hsy := hy.below (by rw [Hg.out]; exact hbel)
    have hc0 := hinv.2.2.2.1
    have hc1 := hinv.2.2.2.2.1
    have hzl := Lib.hid hinv.1
    by_cases hlt : k < la
    · obtain ⟨bx, ox, rfl, hcx⟩ := hsx.at (by omega)
      have hcxk := hcx k hlt
      have hxd := dx.getD k
      generalize hxk : xs.getD k 0 = x at hcxk hxd
      have Hxk := Lib.hid hxk
      have hfz := hrow.frozen k
      have hcz := hrow.cell k (by rw [hzl.out, hlx.out]; omega)
      clear hcx hxk
      by_cases hlb : k < lb
      · obtain ⟨by', oy, rfl, hcy⟩ := hsy.at (by omega)
        have hcyk := hcy k hlb
        have hyd := dy.getD k
        generalize hyk : ys.getD k 0 = y at hcyk hyd
        have Hyk := Lib.hid hyk
        clear hcy hyk
        go_wp2
        go_roundw
        case rel => exact ⟨k + 1, _, _, hlt, by go_num, rfl, hinv.step (by rw [hlx.out]; exact hlt) dx dy _ (by rw [Hxk.out, Hyk.out]), hrow.set _ _, hbel.setCell (Nat.le_refl _) _⟩
        case measure => simp [intOf]; omega
      · go_wp2
        go_roundw
        case rel => exact ⟨k + 1, _, _, hlt, by go_num, rfl, hinv.step (by rw [hlx.out]; exact hlt) dx dy _ (by rw [Hxk.out, getD_of_ge ys k (by rw [hly.out]; omega)]; omega), hrow.set _ _, hbel.setCell (Nat.le_refl _) _⟩
        case measure => simp [intOf]; omega
    · have hkl : k = la := by omega
      subst hkl
      have hfz := hrow.frozen k
      have hcz := hrow.cell k (by rw [hzl.out, hlx.out]; omega)
      have hfin := Lib.hid (AddInv.finish (c := cv) (zs := zs) (by rw [hlx.out]; exact hinv) (by rw [hlx.out, hly.out]; omega))
      have hrow2 := hrow.set k cv
      have hsl := hrow2.sl (k + 1) (by rw [List.length_set, hzl.out, hlx.out]) (by omega)
      rw [hlx.out] at hfin
      clear hinv
      go_wp2_with fail
      refine (cut_any _ _ _ _ _ hsl).mono ?_
      rintro e w' ⟨rfl, rfl⟩
      go_wp2
      go_ret
      refine ⟨_, _, _, rfl, ?_, ?_⟩
      · have := hsl.trim hfin.out.1
        rw [hfin.out.2] at this
        exact this
      · rw [Hg.out]; exact hbel.setCell (Nat.le_refl _) _

theorem add_any (ax : Option Addr) (la ca : Nat) (xs : List Int) (ay : Option Addr) (lb cb : Nat) (ys : List Int) (w : World) (hx : Sl w ax la ca xs) (hy : Sl w ay lb cb ys)
    (dx : Dig xs) (dy : Dig ys) (hm : la ≤ 1000000) (hn : lb ≤ 1000000) :
    Calls Tryz.prog 135 #[.slice ax la ca, .slice ay lb cb] w (RetS (parts (val xs + val ys).toNat) w) := by
  by_cases h : la < lb
  · have := add_lt ay lb cb ys ax la ca xs w hy hx dy dx hn h
    rwa [Int.add_comm] at this
  · exact add_ge ax la ca xs ay lb cb ys w hx hy dx dy hm h

/-- Of two numbers. -/
theorem add_parts (ax : Option Addr) (la ca m : Nat) (ay : Option Addr) (lb cb n : Nat) (w : World) (hx : Sl w ax la ca (parts m)) (hy : Sl w ay lb cb (parts n)) (hm : la ≤ 1000000) (hn : lb ≤ 1000000) :
    Calls Tryz.prog 135 #[.slice ax la ca, .slice ay lb cb] w (RetS (parts (m + n)) w) := by
  have := add_any ax la ca _ ay lb cb _ w hx hy (parts_dig m) (parts_dig n) hm hn
  rw [val_parts, val_parts] at this
  exact this
end Go.Proofs.YtfjnplhhgdfepaaGreatDoor

/- The contracts of mulSmall and divSmall. -/
namespace Go.Proofs.YtfjnplhhgdfepaaGreatDoor
open Go.RowKit

def MulSInv (xs : List Int) (n : Int) (k : Nat) (c : Int) (zs : List Int) : Prop :=
  zs.length = xs.length + 1 ∧ Dig zs ∧ (∀ j, k ≤ j → zs.getD j 0 = 0) ∧ 0 ≤ c ∧ c < 1000000000 ∧ val zs + 1000000000 ^ k * c = n * val (xs.take k)

theorem mul_bd {x n a b : Int} (h0 : 0 ≤ x) (h1 : x ≤ a) (h2 : 0 ≤ n) (h3 : n ≤ b) : 0 ≤ x * n ∧ x * n ≤ a * b :=
  ⟨Int.mul_nonneg h0 h2, Int.mul_le_mul h1 h3 h2 (by omega)⟩
theorem MulSInv.start (xs : List Int) (n : Int) : MulSInv xs n 0 0 (List.replicate (xs.length + 1) 0) :=
  ⟨by simp, Dig.replicate _, fun j _ => getD_replicate _ _, by omega, by omega, by rw [val_replicate]; simp [val]⟩
theorem MulSInv.step {xs : List Int} {n : Int} {k : Nat} {c : Int} {zs : List Int} (h : MulSInv xs n k c zs) (hk : k < xs.length) (hx : Dig xs) (h0 : 0 ≤ n) (h1 : n ≤ 1000000000) (p : Int) (hp : p = xs.getD k 0 * n + c) :
    MulSInv xs n (k + 1) (p / 1000000000) (zs.set k (p % 1000000000)) := by
  obtain ⟨g1, g2, g3, g4, g5, g6⟩ := h
  have hxk := hx.getD k
  have := mul_bd hxk.1 (show xs.getD k 0 ≤ 999999999 by omega) h0 h1
  refine ⟨by simp [g1], g2.set _ _ (by omega) (by omega), fun j hj => ?_, by omega, by omega, ?_⟩
  · rw [getD_set_ne _ _ _ _ (by omega)]; exact g3 j (by omega)
  · rw [val_set _ _ _ (by omega), g3 k (Nat.le_refl _), val_take_step, Int.pow_succ]
    have e : p % 1000000000 + 1000000000 * (p / 1000000000) = p := by omega
    grind
theorem MulSInv.finish {xs : List Int} {n c : Int} {zs : List Int} (h : MulSInv xs n xs.length c zs) :
    Dig (zs.set xs.length c) ∧ val (zs.set xs.length c) = n * val xs := by
  obtain ⟨h1, h2, h3, h4, h5, h6⟩ := h
  refine ⟨h2.set _ _ (by omega) (by omega), ?_⟩
  rw [val_set _ _ _ (by omega), h3 _ (Nat.le_refl _)]
  rw [List.take_length] at h6
  grind

/-- A call that hands back a new row of its own of which P holds. -/
def RetRow (P : List Int → Prop) (w : World) (e : Ending) (w' : World) : Prop :=
  ∃ g zs n, e = .returned (.slice (some ⟨g, 0, none⟩) n n) ∧ w.heap.size ≤ g ∧ RowOf w' g zs ∧ zs.length = n ∧ P zs ∧ Below w.heap.size w w'

set_option maxHeartbeats 1000000 in
theorem mulSmall_any (ax : Option Addr) (la ca : Nat) (xs : List Int) (n : Int) (w : World) (hx : Sl w ax la ca xs) (dx : Dig xs) (hm : la ≤ 1000000) (h0 : 0 ≤ n) (h1 : n ≤ 1000000000) :
    Calls Tryz.prog 138 #[.slice ax la ca, .int .i64 n] w (RetRow (fun zs => zs.length = la + 1 ∧ Dig zs ∧ val zs = n * val xs) w) := by
  obtain ⟨i0, hi, hz0, hz1, hz2⟩ := info_parts Tryz.info3
  go_enter Tryz.func138, Tryz.ntmps138
  go_wp2_with (at_make; refine wpList_make_full _ rfl _ _ 22 rfl w.heap.size 3 i0 (.int .i64 0) 1 Tryz.underlying22 hi hz0 hz1 _ _ _ _ (la + 1) rfl rfl ?c1 ?c2 ?c3 ?c4 ?c5 ?_)
  case c1 => omega
  case c2 => omega
  case c3 => rw [hz2]; omega
  case c4 => unfold maxLen; omega
  case c5 => omega
  intro w1 hown hgrow
  have hrow := RowOf.made hown rfl
  have hb1 : Below w.heap.size w w1 := (Below.refl _ _).grown hgrow (Nat.le_refl _) (fun _ h => by cases h)
  generalize hg : w.heap.size = g at *
  have Hg := Lib.hid hg
  clear hg hown hgrow
  go_wp2
  have hlx := Lib.hid hx.length
  go_loopw [6, 16] (fun c i wr => ∃ (k : Nat) (cv : Int) (zs : List Int), k ≤ la ∧ i = .int .i64 k ∧ c = .int .i64 cv ∧ MulSInv xs n k cv zs ∧ RowOf wr g zs ∧ Below g w wr) (fun _ i _ => la - (intOf i).toNat)
  case atStart => exact ⟨0, 0, _, Nat.zero_le _, rfl, rfl, by have := MulSInv.start xs n; rwa [hlx.out] at this, hrow, hb1⟩
  case round =>
    clear hb1 hrow
    obtain ⟨k, cv, zs, hk, rfl, rfl, hinv, hrow, hbel⟩ := hrel
    have hsx := hx.below (by rw [Hg.out]; exact hbel)
    have hc0 := hinv.2.2.2.1
    have hc1 := hinv.2.2.2.2.1
    have hzl := Lib.hid hinv.1
    by_cases hlt : k < la
    · obtain ⟨bx, ox, rfl, hcx⟩ := hsx.at (by omega)
      have hcxk := hcx k hlt
      have hxd := dx.getD k
      generalize hxk : xs.getD k 0 = x at hcxk hxd
      have Hxk := Lib.hid hxk
      have hfz := hrow.frozen k
      have hcz := hrow.cell k (by rw [hzl.out, hlx.out]; omega)
      obtain ⟨hp0, hp1⟩ := mul_bd hxd.1 (show x ≤ 999999999 by omega) h0 h1
      clear hcx hxk
      go_wp2
      go_roundw
      case rel => exact ⟨k + 1, _, _, hlt, by go_num, rfl, hinv.step (by rw [hlx.out]; exact hlt) dx h0 h1 _ (by rw [Hxk.out]), hrow.set _ _, hbel.setCell (Nat.le_refl _) _⟩
      case measure => simp [intOf]; omega
    · have hkl : k = la := by omega
      subst hkl
      have hfz := hrow.frozen k
      have hcz := hrow.cell k (by rw [hzl.out, hlx.out]; omega)
      have hfin := Lib.hid (MulSInv.finish (c := cv) (zs := zs) (by rw [hlx.out]; exact hinv))
      have hrow2 := hrow.set k cv
      have hl2 := Lib.hid (show (zs.set k cv).length = k + 1 by rw [List.length_set, hzl.out, hlx.out])
      rw [hlx.out] at hfin
      clear hinv
      go_wp2
      go_ret
      exact ⟨g, _, _, rfl, by rw [Hg.out]; exact Nat.le_refl _, hrow2, hl2.out, ⟨hl2.out, hfin.out.1, hfin.out.2⟩, by rw [Hg.out]; exact hbel.setCell (Nat.le_refl _) _⟩

def DivSInv (xs : List Int) (n : Int) (k : Nat) (r : Int) (zs : List Int) : Prop :=
  zs.length = xs.length ∧ Dig zs ∧ (∀ j, j < k → zs.getD j 0 = 0) ∧ 0 ≤ r ∧ r < n ∧ val zs * n + 1000000000 ^ k * r + val (xs.take k) = val xs
theorem DivSInv.start (xs : List Int) (n : Int) (h : 0 < n) : DivSInv xs n xs.length 0 (List.replicate xs.length 0) :=
  ⟨by simp, Dig.replicate _, fun j _ => getD_replicate _ _, by omega, h, by rw [val_replicate]; simp⟩
theorem DivSInv.step {xs : List Int} {n : Int} {k : Nat} {r : Int} {zs : List Int} (h : DivSInv xs n (k + 1) r zs) (hk : k < xs.length) (hx : Dig xs) (h0 : 0 < n) (h1 : n ≤ 1000000000) (p : Int) (hp : p = r * 1000000000 + xs.getD k 0) :
    DivSInv xs n k (p % n) (zs.set k (p / n)) := by
  obtain ⟨g1, g2, g3, g4, g5, g6⟩ := h
  have hxk := hx.getD k
  have hp0 : 0 ≤ p := by omega
  have hp1 : p < n * 1000000000 := by omega
  have hq0 : 0 ≤ p / n := Int.ediv_nonneg hp0 (by omega)
  have hq1 : p / n < 1000000000 := Int.ediv_lt_of_lt_mul h0 (by rw [Int.mul_comm]; exact hp1)
  have hr0 := Int.emod_nonneg p (show n ≠ 0 by omega)
  have hr1 := Int.emod_lt_of_pos p h0
  have e : n * (p / n) + p % n = p := Int.mul_ediv_add_emod p n
  refine ⟨by simp [g1], g2.set _ _ hq0 hq1, fun j hj => ?_, hr0, hr1, ?_⟩
  · rw [getD_set_ne _ _ _ _ (by omega)]; exact g3 j (by omega)
  · rw [val_set _ _ _ (by omega), g3 k (by omega)]
    rw [val_take_step, Int.pow_succ] at g6
    grind
theorem DivSInv.finish {xs : List Int} {n r : Int} {zs : List Int} (h : DivSInv xs n 0 r zs) (h0 : 0 < n) : Dig zs ∧ val zs = val xs / n ∧ r = val xs % n := by
  obtain ⟨g1, g2, g3, g4, g5, g6⟩ := h
  have e : val xs = n * val zs + r := by
    rw [← g6]
    simp [val]
    grind
  refine ⟨g2, ?_, ?_⟩
  · rw [e, Int.add_comm, Int.add_mul_ediv_left _ _ (by omega), Int.ediv_eq_zero_of_lt g4 g5]; omega
  · rw [e, Int.add_comm, Int.add_mul_emod_self_left, Int.emod_eq_of_lt g4 g5]

/-- A call that hands back a slice and a number. -/
def RetSI (xs : List Int) (r : Int) (w : World) (e : Ending) (w' : World) : Prop := ∃ ao len cap, e = .returned (.tuple #[.slice ao len cap, .int .i64 r]) ∧ Sl w' ao len cap xs ∧ Below w.heap.size w w'

set_option maxHeartbeats 1000000 in
theorem divSmall_any (ax : Option Addr) (la ca : Nat) (xs : List Int) (n : Int) (w : World) (hx : Sl w ax la ca xs) (dx : Dig xs) (hm : la ≤ 1000000) (h0 : 0 < n) (h1 : n ≤ 1000000000) :
    Calls Tryz.prog 134 #[.slice ax la ca, .int .i64 n] w (RetSI (parts (val xs / n).toNat) (val xs % n) w) := by
  obtain ⟨i0, hi, hz0, hz1, hz2⟩ := info_parts Tryz.info3
  go_enter Tryz.func134, Tryz.ntmps134
  go_wp2_with (at_make; refine wpList_make_full _ rfl _ _ 22 rfl w.heap.size 3 i0 (.int .i64 0) 1 Tryz.underlying22 hi hz0 hz1 _ _ _ _ la rfl rfl ?c1 ?c2 ?c3 ?c4 ?c5 ?_)
  case c1 => omega
  case c2 => omega
  case c3 => rw [hz2]; omega
  case c4 => unfold maxLen; omega
  case c5 => omega
  intro w1 hown hgrow
  have hrow := RowOf.made hown rfl
  have hb1 : Below w.heap.size w w1 := (Below.refl _ _).grown hgrow (Nat.le_refl _) (fun _ h => by cases h)
  generalize hg : w.heap.size = g at *
  have Hg := Lib.hid hg
  clear hg hown hgrow
  go_wp2
  have hlx := Lib.hid hx.length
  have hn0 : (n == 0) = false := by simp; omega
  go_loopw [7, 8] (fun r i wr => ∃ (k : Nat) (rv : Int) (zs : List Int), k ≤ la ∧ (∃ iv : Int, i = .int .i64 iv ∧ iv = (k : Int) - 1) ∧ r = .int .i64 rv ∧ DivSInv xs n k rv zs ∧ RowOf wr g zs ∧ Below g w wr) (fun _ i _ => (intOf i + 1).toNat)
  case atStart => exact ⟨la, 0, _, Nat.le_refl _, ⟨_, rfl, rfl⟩, rfl, by have := DivSInv.start xs n h0; rwa [hlx.out] at this, hrow, hb1⟩
  case round =>
    clear hb1 hrow
    obtain ⟨k, rv, zs, hk, ⟨iv, rfl, hiv⟩, rfl, hinv, hrow, hbel⟩ := hrel
    have hsx := hx.below (by rw [Hg.out]; exact hbel)
    have hc0 := hinv.2.2.2.1
    have hc1 := hinv.2.2.2.2.1
    have hzl := Lib.hid hinv.1
    rcases k with _ | k
    · obtain rfl : iv = -1 := by omega
      clear hiv
      have hfin := Lib.hid (hinv.finish h0)
      have hsl := hrow.sl la (by rw [hzl.out, hlx.out]) (by omega)
      clear hinv
      go_wp2_with fail
      refine (cut_any _ _ _ _ _ hsl).mono ?_
      rintro e w' ⟨rfl, rfl⟩
      go_wp2
      go_ret2
      refine ⟨_, _, _, by rw [← hfin.out.2.2]; rfl, ?_, ?_⟩
      · have := hsl.trim hfin.out.1
        rw [hfin.out.2.1] at this
        exact this
      · rw [Hg.out]; exact hbel
    · obtain rfl : iv = (k : Int) := by omega
      clear hiv
      have hlt : k < la := by omega
      obtain ⟨bx, ox, rfl, hcx⟩ := hsx.at (by omega)
      have hcxk := hcx k hlt
      have hxd := dx.getD k
      generalize hxk : xs.getD k 0 = x at hcxk hxd
      have Hxk := Lib.hid hxk
      have hfz := hrow.frozen k
      have hcz := hrow.cell k (by rw [hzl.out, hlx.out]; omega)
      have hq0 : 0 ≤ (rv * 1000000000 + x) / n := Int.ediv_nonneg (by omega) (by omega)
      have hq1 : (rv * 1000000000 + x) / n < 1000000000 := Int.ediv_lt_of_lt_mul h0 (by omega)
      clear hcx hxk
      go_wp2
      go_region
      go_wp2
      go_roundw
      case rel => exact ⟨k, _, _, by omega, ⟨_, rfl, rfl⟩, rfl, hinv.step (by rw [hlx.out]; exact hlt) dx h0 h1 _ (by rw [Hxk.out]), (hrow.set _ _).drew, (hbel.setCell (Nat.le_refl _) _).drew⟩
      case measure => simp [intOf]
end Go.Proofs.YtfjnplhhgdfepaaGreatDoor

/- Integers as values: signed, mustFit. -/
namespace Go.Proofs.YtfjnplhhgdfepaaGreatDoor
open Go.RowKit

/-- A call that hands back the integer z; what was there is as it was. -/
def RetN (z : Int) (w : World) (e : Ending) (w' : World) : Prop :=
  ∃ ao len cap, e = .returned (.agg #[.bool (decide (z < 0)), .slice ao len cap]) ∧ Sl w' ao len cap (parts z.natAbs) ∧ Below w.heap.size w w'

/-- What a walk wants to know of a block that holds the two cells of an integer. -/
theorem box2 {w : World} {g : Nat} {a b : Value} {t : TypeId} (h : w.heap[g]? = some (.cells #[a, b] t (0, 0))) :
    w.cell? ⟨g, 0, none⟩ = some a ∧ w.cell? ⟨g, 1, none⟩ = some b ∧ w.frozen? ⟨g, 0, none⟩ = false ∧ w.frozen? ⟨g, 1, none⟩ = false ∧ g < w.heap.size := by
  refine ⟨?_, ?_, ?_, ?_, (Array.getElem?_eq_some_iff.1 h).1⟩ <;> simp [World.cell?, World.frozen?, h]
theorem heap_new (w : World) (o : Obj) : (w.alloc o).heap[w.heap.size]? = some o := by
  show (w.heap.push o)[w.heap.size]? = _
  rw [Array.getElem?_push, if_pos rfl]
theorem heap_new2 (w : World) (o p : Obj) : ((w.alloc o).alloc p).heap[w.heap.size + 1]? = some p := by
  have := heap_new (w.alloc o) p
  simpa using this
theorem heap_new1 (w : World) (o p : Obj) : ((w.alloc o).alloc p).heap[w.heap.size]? = some o := by
  rw [Below.heap_alloc _ _ _ (by simp)]
  exact heap_new w o
theorem heap3_0 (w : World) (o p q : Obj) : (((w.alloc o).alloc p).alloc q).heap[w.heap.size]? = some o := by
  rw [Below.heap_alloc _ _ _ (by simp; omega)]
  exact heap_new1 w o p
theorem heap3_1 (w : World) (o p q : Obj) : (((w.alloc o).alloc p).alloc q).heap[w.heap.size + 1]? = some p := by
  rw [Below.heap_alloc _ _ _ (by simp)]
  exact heap_new2 w o p
theorem heap3_2 (w : World) (o p q : Obj) : (((w.alloc o).alloc p).alloc q).heap[w.heap.size + 2]? = some q := by
  have := heap_new ((w.alloc o).alloc p) q
  simpa using this
theorem below3 (w : World) (o p q : Obj) : Below w.heap.size w (((w.alloc o).alloc p).alloc q) := (((Below.refl _ w).alloc (Nat.le_refl _) _).alloc (by simp) _).alloc (by simp; omega) _
/-- What three blocks are behind a call that leaves all that was there as it was. -/
theorem kept3 (w : World) (o p q : Obj) {w0 : World} (hb : Below (((w.alloc o).alloc p).alloc q).heap.size (((w.alloc o).alloc p).alloc q) w0) :
    w0.heap[w.heap.size]? = some o ∧ w0.heap[w.heap.size + 1]? = some p ∧ w0.heap[w.heap.size + 2]? = some q ∧ w.heap.size + 2 < w0.heap.size ∧ Below w.heap.size w w0 := by
  have hs := hb.size
  simp at hs
  refine ⟨?_, ?_, ?_, by omega, (below3 w o p q).trans (hb.mono (by simp; omega))⟩
  · rw [hb.block _ (by simp <;> omega)]; exact heap3_0 w o p q
  · rw [hb.block _ (by simp <;> omega)]; exact heap3_1 w o p q
  · rw [hb.block _ (by simp)]; exact heap3_2 w o p q
theorem heap4_3 (w : World) (o p q r : Obj) : ((((w.alloc o).alloc p).alloc q).alloc r).heap[w.heap.size + 3]? = some r := by
  have := heap_new (((w.alloc o).alloc p).alloc q) r
  simpa using this
theorem kept4 (w : World) (o p q r : Obj) {w0 : World} (hb : Below ((((w.alloc o).alloc p).alloc q).alloc r).heap.size ((((w.alloc o).alloc p).alloc q).alloc r) w0) :
    w0.heap[w.heap.size]? = some o ∧ w0.heap[w.heap.size + 1]? = some p ∧ w0.heap[w.heap.size + 2]? = some q ∧ w0.heap[w.heap.size + 3]? = some r ∧ w.heap.size + 3 < w0.heap.size ∧ Below w.heap.size w w0 := by
  have hs := hb.size
  simp at hs
  have ha : ∀ k, k < (((w.alloc o).alloc p).alloc q).heap.size → ((((w.alloc o).alloc p).alloc q).alloc r).heap[k]? = (((w.alloc o).alloc p).alloc q).heap[k]? := fun k hk => Below.heap_alloc _ _ _ hk
  refine ⟨?_, ?_, ?_, ?_, by omega, ((below3 w o p q).alloc (by simp; omega) r).trans (hb.mono (by simp; omega))⟩
  · rw [hb.block _ (by simp <;> omega), ha _ (by simp <;> omega)]; exact heap3_0 w o p q
  · rw [hb.block _ (by simp <;> omega), ha _ (by simp <;> omega)]; exact heap3_1 w o p q
  · rw [hb.block _ (by simp <;> omega), ha _ (by simp <;> omega)]; exact heap3_2 w o p q
  · rw [hb.block _ (by simp <;> omega)]; exact heap4_3 w o p q r
theorem kept2 (w : World) (o p : Obj) {w0 : World} (hb : Below ((w.alloc o).alloc p).heap.size ((w.alloc o).alloc p) w0) :
    w0.heap[w.heap.size]? = some o ∧ w0.heap[w.heap.size + 1]? = some p ∧ w.heap.size + 1 < w0.heap.size ∧ Below w.heap.size w w0 := by
  have hs := hb.size
  simp at hs
  refine ⟨?_, ?_, by omega, ((((Below.refl _ w).alloc (Nat.le_refl _) _).alloc (by simp) _)).trans (hb.mono (by simp; omega))⟩
  · rw [hb.block _ (by simp <;> omega)]; exact heap_new1 w o p
  · rw [hb.block _ (by simp)]; exact heap_new2 w o p
theorem kept1 (w : World) (o : Obj) {w0 : World} (hb : Below (w.alloc o).heap.size (w.alloc o) w0) :
    w0.heap[w.heap.size]? = some o ∧ w.heap.size < w0.heap.size ∧ Below w.heap.size w w0 := by
  have hs := hb.size
  simp at hs
  refine ⟨?_, by omega, ((Below.refl _ w).alloc (Nat.le_refl _) _).trans (hb.mono (by simp))⟩
  rw [hb.block _ (by simp)]; exact heap_new w o
theorem Below.undrew {B : Nat} {X w : World} (h : Below B X.drew w) : Below B X w := ⟨h.os, h.tape, h.output, h.size, h.block⟩
theorem heap_set2 {w : World} {g : Nat} {a b u v : Value} {t : TypeId} (h : w.heap[g]? = some (.cells #[a, b] t (0, 0))) :
    ((w.setCell ⟨g, 0, none⟩ u).setCell ⟨g, 1, none⟩ v).heap[g]? = some (.cells #[u, v] t (0, 0)) := by
  simp [World.setCell, Array.getElem?_modify, h]
theorem heap_set2_ne {w : World} {g k : Nat} {u v : Value} (h : k ≠ g) : ((w.setCell ⟨g, 0, none⟩ u).setCell ⟨g, 1, none⟩ v).heap[k]? = w.heap[k]? := by
  rw [Below.heap_setCell _ _ _ _ h, Below.heap_setCell _ _ _ _ h]
theorem cell3 {w : World} {a : Addr} {v : Value} (h : w.cell? a = some v) (o p q : Obj) : (((w.alloc o).alloc p).alloc q).cell? a = some v := by
  have hl : a.block < w.heap.size := by
    unfold World.cell? at h
    split at h
    · rename_i hh; exact (Array.getElem?_eq_some_iff.1 hh).1
    · cases h
  rw [World.cell?_of_block (w := w) (by rw [Below.heap_alloc _ _ _ (by simp; omega), Below.heap_alloc _ _ _ (by simp; omega), Below.heap_alloc _ _ _ hl])]; exact h
theorem cell1 {w : World} {a : Addr} {v : Value} (h : w.cell? a = some v) (o : Obj) : (w.alloc o).cell? a = some v := by
  have hl : a.block < w.heap.size := by
    unfold World.cell? at h
    split at h
    · rename_i hh; exact (Array.getElem?_eq_some_iff.1 hh).1
    · cases h
  rw [World.cell?_of_block (w := w) (Below.heap_alloc _ _ _ hl)]; exact h
theorem heap_old (w : World) (o : Obj) (k : Nat) (h : k < w.heap.size) : (w.alloc o).heap[k]? = w.heap[k]? := Below.heap_alloc w o k h

theorem cell_set_ne {w : World} {a b : Addr} {u : Value} (h : a ≠ b) (hs : a.spot = none) (hs' : b.spot = none) : (w.setCell a u).cell? b = w.cell? b := by
  by_cases hb : a.block = b.block
  · have ho : a.off ≠ b.off := fun e => h (by cases a; cases b; simp_all)
    simp only [World.cell?, World.setCell, Array.getElem?_modify, hb, if_true]
    cases hh : w.heap[b.block]? with
    | none => rfl
    | some x => cases x <;> simp [hs, hs', ho]
  · exact World.cell?_of_block (Below.heap_setCell _ _ _ _ (fun e => hb e.symm))
theorem set2_other {w : World} {g : Nat} {u v : Value} {a : Addr} {x : Option Value} (hx : w.cell? a = x) (h : a.block ≠ g) : ((w.setCell ⟨g, 0, none⟩ u).setCell ⟨g, 1, none⟩ v).cell? a = x := by
  rw [World.cell?_of_block (Below.heap_setCell _ _ _ _ h), World.cell?_of_block (Below.heap_setCell _ _ _ _ h)]; exact hx
/-- A store into a cell that holds no int changes no slice of ints. -/
theorem Sl.store {w : World} {ao : Option Addr} {len cap : Nat} {xs : List Int} (h : Sl w ao len cap xs) {g o : Nat} {v : Value} (hv : w.cell? ⟨g, o, none⟩ = some v) (hn : ∀ n, v ≠ .int .i64 n) (u : Value) :
    Sl (w.setCell ⟨g, o, none⟩ u) ao len cap xs := by
  obtain ⟨h1, h2, h3, h4 | ⟨b, p, h5, h6⟩⟩ := h
  · exact ⟨h1, h2, h3, .inl h4⟩
  · refine ⟨h1, h2, h3, .inr ⟨b, p, h5, fun j hj => ?_⟩⟩
    rw [cell_set_ne (fun e => ?_) rfl rfl]
    · exact h6 j hj
    · rw [e, h6 j hj] at hv
      injection hv with hv
      exact hn _ hv.symm
/-- Likewise into both cells of an integer's box. -/
theorem Sl.store2 {w : World} {ao : Option Addr} {len cap : Nat} {xs : List Int} (h : Sl w ao len cap xs) {g : Nat} {p : Bool} {q : Option Addr} {r s : Nat}
    (f1 : w.cell? ⟨g, 0, none⟩ = some (.bool p)) (f2 : w.cell? ⟨g, 1, none⟩ = some (.slice q r s)) (u v : Value) :
    Sl ((w.setCell ⟨g, 0, none⟩ u).setCell ⟨g, 1, none⟩ v) ao len cap xs :=
  (h.store f1 (fun _ e => by cases e) u).store (v := .slice q r s) (by rw [cell_set_ne (by simp) rfl rfl]; exact f2) (fun _ e => by cases e) v

/-- The number of a sign and parts. -/
def num (neg : Bool) (v : Int) : Int := if neg then -v else v
theorem num_natAbs (neg : Bool) {v : Int} (h : 0 ≤ v) : (num neg v).natAbs = v.toNat := by unfold num; split <;> omega
theorem num_opp (z : Int) : num (!decide (z < 0)) (val (parts z.natAbs)) = -z := by
  rw [val_parts]; unfold num; by_cases h : z < 0 <;> simp [h] <;> omega
theorem num_same (z : Int) : num (decide (z < 0)) (val (parts z.natAbs)) = z := by
  rw [val_parts]; unfold num; by_cases h : z < 0 <;> simp [h] <;> omega
theorem num_neg (neg : Bool) {v : Int} (h : 0 ≤ v) : decide (num neg v < 0) = (neg && decide (0 < v)) := by
  unfold num
  cases neg <;> simp <;> omega

set_option maxHeartbeats 1000000 in
theorem signed_any (neg : Bool) (ao : Option Addr) (len cap : Nat) (xs : List Int) (w : World) (hs : Sl w ao len cap xs) (dx : Dig xs) :
    Calls Tryz.prog 79 #[.bool neg, .slice ao len cap] w (RetN (num neg (val xs)) w) := by
  have hv := val_nonneg dx
  have ht := hs.trim dx
  have hn := Lib.hid (num_natAbs neg hv)
  have hd := Lib.hid (num_neg neg hv)
  have htl := Lib.hid (trim_eq dx)
  have h1 := (hs.alloc (.cells #[.bool false, .slice none 0 0] 24))
  have hlen := Lib.hid (show decide (0 < (trim xs).length) = decide (0 < val xs) by
    rw [htl.out]
    have := parts_nil_iff (val xs).toNat
    by_cases h : 0 < val xs
    · have h2 : parts (val xs).toNat ≠ [] := fun e => by have := this.1 e; omega
      have h3 := List.length_pos_iff.2 h2
      simp [h, h3]
    · have h2 : parts (val xs).toNat = [] := this.2 (by omega)
      simp [h, h2])
  clear hv
  cases neg
  · go_enter Tryz.func79, Tryz.ntmps79
    go_wp2_with fail
    refine (cut_any _ _ _ _ _ h1).mono ?_
    rintro e w' ⟨rfl, rfl⟩
    go_wp2
    refine bodyPost_ret (v := .agg #[.bool false, .slice ao (trim xs).length cap]) (by simp [results, Tryz.results79, go_sem]) rfl ?_
    refine ⟨ao, (trim xs).length, cap, ?_, ?_, (Below.refl _ w).alloc (Nat.le_refl _) _⟩
    · rw [hd.out]; rfl
    · rw [hn.out]; exact ht.alloc _
  · go_enter Tryz.func79, Tryz.ntmps79
    go_wp2_with fail
    refine (cut_any _ _ _ _ _ h1).mono ?_
    rintro e w' ⟨rfl, rfl⟩
    go_wp2
    refine bodyPost_ret (v := .agg #[.bool (decide (0 < (trim xs).length)), .slice ao (trim xs).length cap]) (by simp [results, Tryz.results79, go_sem]) rfl ?_
    refine ⟨ao, (trim xs).length, cap, ?_, ?_, (Below.refl _ w).alloc (Nat.le_refl _) _⟩
    · rw [hd.out, hlen.out]; simp
    · rw [hn.out]; exact ht.alloc _
end Go.Proofs.YtfjnplhhgdfepaaGreatDoor

/- slices.Clone at []int; copied, opposite, mustFit. -/
namespace Go.Proofs.YtfjnplhhgdfepaaGreatDoor
open Go.RowKit

theorem Sl.of_owns {w : World} {base n : Nat} {v : Value} {xs : List Int} (h : w.ownsRow base 3 1 v n (xs.map (Value.int .i64))) :
    ∃ ao cap, v = .slice ao n cap ∧ Sl w ao n cap xs := by
  obtain ⟨h1, ⟨h2, h3⟩ | ⟨g, cap, cur, h2, _, h3, h4, h5, h6, h7⟩⟩ := h
  · subst h3
    have hx : xs = [] := by simpa using h1
    subst hx
    exact ⟨none, 0, h2, Sl.nil w⟩
  · refine ⟨_, cap, h2, by simpa using h1, h4, h5, .inr ⟨g, 0, rfl, fun j hj => ?_⟩⟩
    have hl : xs.length = n := by simpa using h1
    have e : cur.toList[j]? = some (.int .i64 (xs.getD j 0)) := by
      have h8 : (cur.toList.take (n * 1))[j]? = (xs.map (Value.int .i64))[j]? := by rw [h7]
      rw [List.getElem?_take, if_pos (by omega)] at h8
      rw [h8, List.getElem?_map, List.getElem?_eq_getElem (by omega), getD_of_lt _ _ (by omega)]
      rfl
    simp only [World.cell?, h3, Nat.zero_add]
    rw [Array.getElem?_toList] at e
    simpa using e

set_option maxHeartbeats 1000000 in
theorem clone_any (ao : Option Addr) (len cap : Nat) (xs : List Int) (w : World) (hs : Sl w ao len cap xs) (hm : len ≤ 1000000) :
    Calls Tryz.prog 126 #[.slice ao len cap] w (RetS xs w) := by
  have hlx := Lib.hid hs.length
  have q22 : ∀ (w : World) (a : Option Addr) (n c n' c' : Nat), (binOp .eql 22 (.slice a n c) (.slice none n' c')).run Tryz.prog w = .ok (.bool a.isNone) w := fun w a n c n' c' => Lib.run_eql_slice_nil w _ _ a n c n' c' Tryz.underlying22
  obtain ⟨i0, hi, hz0, hz1, hz2⟩ := info_parts Tryz.info3
  rcases hs.2.2.2 with ⟨rfl, hc⟩ | ⟨b, o, rfl, hc⟩
  · have hl := hs.len_le
    obtain rfl : len = 0 := by omega
    obtain rfl : xs = [] := List.eq_nil_of_length_eq_zero hlx.out
    go_enter Tryz.func126, Tryz.ntmps126
    go_wp2
    go_ret
    exact ⟨none, 0, 0, rfl, Sl.nil _, Below.refl _ _⟩
  · have HC := Lib.hid hc
    clear hc
    go_enter Tryz.func126, Tryz.ntmps126
    go_wp2_with (at_builtin; refine wpList_append_own _ rfl _ _ 22 rfl w.heap.size 3 i0 (.int .i64 0) 1 8 Tryz.underlying22 hi hz0 hz1 hz2 rfl (by decide) _ _ _ rfl (World.ownsRow_made w #[] 0 (Nat.le_refl _) (Nat.zero_le _) rfl) ⟨b, o, none⟩ len cap (xs.map (Value.int .i64)) rfl ?qc1 ?qc2 ?qc3 ?qc4 ?qc5 ?qc6 ?_)
    case qc1 => rw [List.length_map, hlx.out]; omega
    case qc2 =>
      intro j u hj
      have hjn : j < len := by
        have := (List.getElem?_eq_some_iff.1 hj).1
        rwa [List.length_map, hlx.out] at this
      rw [Addr.add_lit, (hs.alloc (.cells #[] 3)).cellAt j hjn]
      rw [List.getElem?_map, List.getElem?_eq_getElem (by rw [hlx.out]; exact hjn)] at hj
      rw [getD_of_lt _ _ (by rw [hlx.out]; exact hjn)]
      exact hj
    case qc3 => exact ints_oneCell _ _
    case qc4 => unfold maxLen; omega
    case qc5 => omega
    case qc6 => simp
    intro v' w1 hown hgrow hnil
    go_wp2
    go_ret
    obtain ⟨ao', cap', hv, hsl⟩ := Sl.of_owns hown
    exact ⟨ao', len, cap', by rw [hv]; rfl, hsl, ((Below.refl _ w).alloc (Nat.le_refl _) _).grown hgrow (by simp) (by intro k hk; simp [Value.ownBlock] at hk; omega)⟩
end Go.Proofs.YtfjnplhhgdfepaaGreatDoor

/- copied, opposite, mustFit. -/
namespace Go.Proofs.YtfjnplhhgdfepaaGreatDoor
open Go.RowKit

theorem fit_ok (neg : Bool) (ao : Option Addr) (len cap : Nat) (w : World) (h : len ≤ 40) :
    Calls Tryz.prog 137 #[.agg #[.bool neg, .slice ao len cap]] w fun e w' => e = .returned (.tuple #[]) ∧ Below w.heap.size w w' := by
  go_enter Tryz.func137, Tryz.ntmps137
  go_wp2
  go_end0
  exact ⟨rfl, (Below.refl _ _).alloc (Nat.le_refl _) _⟩

theorem fit_panics (neg : Bool) (ao : Option Addr) (len cap : Nat) (w : World) (h : 40 < len) (h2 : len ≤ 9223372036854775807) :
    Calls Tryz.prog 137 #[.agg #[.bool neg, .slice ao len cap]] w fun e w' => e = .panicked [{ v := .iface 28 (.int .i64 2), recovered := false }] ∧ Below w.heap.size w w' := by
  go_enter Tryz.func137, Tryz.ntmps137
  go_wp2
  exact ⟨rfl, rfl, (Below.refl _ _).alloc (Nat.le_refl _) _⟩

set_option maxHeartbeats 1000000 in
theorem opp_any (z : Int) (ao : Option Addr) (len cap : Nat) (w : World) (hs : Sl w ao len cap (parts z.natAbs)) (hm : len ≤ 1000000) :
    Calls Tryz.prog 95 #[.agg #[.bool (decide (z < 0)), .slice ao len cap]] w (RetN (-z) w) := by
  generalize hn : decide (z < 0) = neg
  have Hn := Lib.hid hn
  clear hn
  go_enter Tryz.func95, Tryz.ntmps95
  go_wp2_with fail
  go_region_with (first | (go_at_call 126; (refine (clone_any _ _ _ _ _ (by exact ((hs.alloc _).alloc _).drew) hm).mono ?_); rintro e w1 ⟨ao1, len1, cap1, rfl, hs1, hb1⟩; obtain ⟨k1, k2, k3, k4, k5⟩ := box2 (w := w1) (g := w.heap.size) (by rw [hb1.block _ (by simp; omega)]; exact heap_new1 _ _ _)) | (go_at_call 79; (refine (signed_any _ _ _ _ _ _ hs1 (parts_dig _)).mono ?_); rintro e w2 ⟨ao2, len2, cap2, rfl, hs2, hb2⟩; obtain ⟨f1, f2, f3, f4, f5⟩ := box2 (w := w2) (g := w.heap.size + 1) (by rw [hb2.block _ (by have := hb1.size; simp at this; omega), hb1.block _ (by simp)]; exact heap_new2 _ _ _)))
  all_goals go_wp2
  all_goals (refine bodyPost_ret (v := .agg #[.bool (decide (num (!neg) (val (parts z.natAbs)) < 0)), .slice ao2 len2 cap2]) (by simp [results, Tryz.results95, go_sem, f1, f2]) rfl ?_)
  all_goals (rw [← Hn.out, num_opp] at hs2 ⊢; exact ⟨ao2, len2, cap2, rfl, hs2.store2 f1 f2 _ _, (((((((Below.refl _ w).alloc (Nat.le_refl _) _).alloc (by simp) _).drew).trans (hb1.mono (by simp; omega))).trans (hb2.mono (by omega))).setCell (by simp) _).setCell (by simp) _⟩)

set_option maxHeartbeats 1000000 in
theorem copied_any (z : Int) (ao : Option Addr) (len cap : Nat) (w : World) (hs : Sl w ao len cap (parts z.natAbs)) (hm : len ≤ 1000000) :
    Calls Tryz.prog 104 #[.agg #[.bool (decide (z < 0)), .slice ao len cap]] w (RetN z w) := by
  generalize hn : decide (z < 0) = neg
  have Hn := Lib.hid hn
  clear hn
  go_enter Tryz.func104, Tryz.ntmps104
  go_wp2_with fail
  go_region_with (first | (go_at_call 126; (refine (clone_any _ _ _ _ _ (by exact ((hs.alloc _).alloc _).drew) hm).mono ?_); rintro e w1 ⟨ao1, len1, cap1, rfl, hs1, hb1⟩; obtain ⟨k1, k2, k3, k4, k5⟩ := box2 (w := w1) (g := w.heap.size) (by rw [hb1.block _ (by simp; omega)]; exact heap_new1 _ _ _); obtain ⟨f1, f2, f3, f4, f5⟩ := box2 (w := w1) (g := w.heap.size + 1) (by rw [hb1.block _ (by simp)]; exact heap_new2 _ _ _)))
  all_goals go_wp2
  all_goals (refine bodyPost_ret (v := .agg #[.bool neg, .slice ao1 len1 cap1]) (by simp [results, Tryz.results104, go_sem, f1, f2]) rfl ?_)
  all_goals (rw [← Hn.out]; exact ⟨ao1, len1, cap1, rfl, hs1.store2 f1 f2 _ _, ((((((Below.refl _ w).alloc (Nat.le_refl _) _).alloc (by simp) _).drew).trans (hb1.mono (by simp; omega))).setCell (by simp) _).setCell (by simp) _⟩)
end Go.Proofs.YtfjnplhhgdfepaaGreatDoor

/- The contract of subParts: of the parts of m and of n, which is not greater, the parts of m - n. -/
namespace Go.Proofs.YtfjnplhhgdfepaaGreatDoor
open Go.RowKit

def SubInv (xs ys : List Int) (k : Nat) (c : Int) (zs : List Int) : Prop :=
  zs.length = xs.length ∧ Dig zs ∧ (∀ j, k ≤ j → zs.getD j 0 = 0) ∧ 0 ≤ c ∧ c ≤ 1 ∧ val zs - 1000000000 ^ k * c = val (xs.take k) - val (ys.take k)

theorem SubInv.start (xs ys : List Int) : SubInv xs ys 0 0 (List.replicate xs.length 0) :=
  ⟨by simp, Dig.replicate _, fun j _ => getD_replicate _ _, by omega, by omega, by rw [val_replicate]; simp [val]⟩
theorem SubInv.pos {xs ys : List Int} {k : Nat} {c : Int} {zs : List Int} (h : SubInv xs ys k c zs) (hk : k < xs.length) (hx : Dig xs) (hy : Dig ys) (p : Int) (hp : p = xs.getD k 0 - c - ys.getD k 0) (h0 : 0 ≤ p) :
    SubInv xs ys (k + 1) 0 (zs.set k p) := by
  obtain ⟨h1, h2, h3, h4, h5, h6⟩ := h
  have hxk := hx.getD k
  have hyk := hy.getD k
  refine ⟨by simp [h1], h2.set _ _ (by omega) (by omega), fun j hj => ?_, by omega, by omega, ?_⟩
  · rw [getD_set_ne _ _ _ _ (by omega)]; exact h3 j (by omega)
  · rw [val_set _ _ _ (by omega), h3 k (Nat.le_refl _), val_take_step, val_take_step]
    grind
theorem SubInv.neg {xs ys : List Int} {k : Nat} {c : Int} {zs : List Int} (h : SubInv xs ys k c zs) (hk : k < xs.length) (hx : Dig xs) (hy : Dig ys) (p : Int) (hp : p = xs.getD k 0 - c - ys.getD k 0 + 1000000000) (h0 : p < 1000000000) :
    SubInv xs ys (k + 1) 1 (zs.set k p) := by
  obtain ⟨h1, h2, h3, h4, h5, h6⟩ := h
  have hxk := hx.getD k
  have hyk := hy.getD k
  refine ⟨by simp [h1], h2.set _ _ (by omega) (by omega), fun j hj => ?_, by omega, by omega, ?_⟩
  · rw [getD_set_ne _ _ _ _ (by omega)]; exact h3 j (by omega)
  · rw [val_set _ _ _ (by omega), h3 k (Nat.le_refl _), val_take_step, val_take_step, Int.pow_succ]
    grind
theorem SubInv.finish {xs ys : List Int} {c : Int} {zs : List Int} (h : SubInv xs ys xs.length c zs) (hl : ys.length ≤ xs.length) (hv : val ys ≤ val xs) :
    Dig zs ∧ val zs = val xs - val ys := by
  obtain ⟨h1, h2, h3, h4, h5, h6⟩ := h
  refine ⟨h2, ?_⟩
  rw [List.take_length, val_take_all ys _ hl] at h6
  have hlt := val_lt h2
  rw [h1] at hlt
  have : c = 0 := by
    rcases (show c = 0 ∨ c = 1 by omega) with h | h
    · exact h
    · rw [h] at h6; omega
  rw [this] at h6
  omega

set_option maxHeartbeats 1000000 in
theorem sub_any (ax : Option Addr) (la ca : Nat) (xs : List Int) (ay : Option Addr) (lb cb : Nat) (ys : List Int) (w : World) (hx : Sl w ax la ca xs) (hy : Sl w ay lb cb ys)
    (dx : Dig xs) (dy : Dig ys) (hm : la ≤ 1000000) (hge : lb ≤ la) (hv : val ys ≤ val xs) :
    Calls Tryz.prog 152 #[.slice ax la ca, .slice ay lb cb] w (RetS (parts (val xs - val ys).toNat) w) := by
  obtain ⟨i0, hi, hz0, hz1, hz2⟩ := info_parts Tryz.info3
  have Hv := Lib.hid hv
  clear hv
  go_enter Tryz.func152, Tryz.ntmps152
  go_wp2_with (at_make; refine wpList_make_full _ rfl _ _ 22 rfl w.heap.size 3 i0 (.int .i64 0) 1 Tryz.underlying22 hi hz0 hz1 _ _ _ _ la rfl rfl ?c1 ?c2 ?c3 ?c4 ?c5 ?_)
  case c1 => omega
  case c2 => omega
  case c3 => rw [hz2]; omega
  case c4 => unfold maxLen; omega
  case c5 => omega
  intro w1 hown hgrow
  have hrow := RowOf.made hown rfl
  have hb1 : Below w.heap.size w w1 := (Below.refl _ _).grown hgrow (Nat.le_refl _) (fun _ h => by cases h)
  generalize hg : w.heap.size = g at *
  have Hg := Lib.hid hg
  clear hg hown hgrow
  go_wp2
  have hlx := Lib.hid hx.length
  have hly := Lib.hid hy.length
  go_loopw [6, 14] (fun c i wr => ∃ (k : Nat) (cv : Int) (zs : List Int), k ≤ la ∧ i = .int .i64 k ∧ c = .int .i64 cv ∧ SubInv xs ys k cv zs ∧ RowOf wr g zs ∧ Below g w wr) (fun _ i _ => la - (intOf i).toNat)
  case atStart => exact ⟨0, 0, _, Nat.zero_le _, rfl, rfl, by have := SubInv.start xs ys; rwa [hlx.out] at this, hrow, hb1⟩
  case round =>
    clear hb1 hrow
    obtain ⟨k, cv, zs, hk, rfl, rfl, hinv, hrow, hbel⟩ := hrel
    have hsx := hx.below (by rw [Hg.out]; exact hbel)
    have hsy := hy.below (by rw [Hg.out]; exact hbel)
    have hc0 := hinv.2.2.2.1
    have hc1 := hinv.2.2.2.2.1
    have hzl := Lib.hid hinv.1
    by_cases hlt : k < la
    · obtain ⟨bx, ox, rfl, hcx⟩ := hsx.at (by omega)
      have hcxk := hcx k hlt
      have hxd := dx.getD k
      generalize hxk : xs.getD k 0 = x at hcxk hxd
      have Hxk := Lib.hid hxk
      have hfz := hrow.frozen k
      have hcz := hrow.cell k (by rw [hzl.out, hlx.out]; omega)
      clear hcx hxk
      by_cases hlb : k < lb
      · obtain ⟨by', oy, rfl, hcy⟩ := hsy.at (by omega)
        have hcyk := hcy k hlb
        have hyd := dy.getD k
        generalize hyk : ys.getD k 0 = y at hcyk hyd
        have Hyk := Lib.hid hyk
        clear hcy hyk
        by_cases hneg : x - cv - y < 0
        · go_wp2
          go_roundw
          case rel => exact ⟨k + 1, _, _, hlt, by go_num, rfl, hinv.neg (by rw [hlx.out]; exact hlt) dx dy _ (by rw [Hxk.out, Hyk.out]) (by omega), hrow.set _ _, hbel.setCell (Nat.le_refl _) _⟩
          case measure => simp [intOf]; omega
        · go_wp2
          go_roundw
          case rel => exact ⟨k + 1, _, _, hlt, by go_num, rfl, hinv.pos (by rw [hlx.out]; exact hlt) dx dy _ (by rw [Hxk.out, Hyk.out]) (by omega), hrow.set _ _, hbel.setCell (Nat.le_refl _) _⟩
          case measure => simp [intOf]; omega
      · have Hyk := Lib.hid (getD_of_ge ys k (by rw [hly.out]; omega))
        by_cases hneg : x - cv < 0
        · go_wp2
          go_roundw
          case rel => exact ⟨k + 1, _, _, hlt, by go_num, rfl, hinv.neg (by rw [hlx.out]; exact hlt) dx dy _ (by rw [Hxk.out, Hyk.out]; omega) (by omega), hrow.set _ _, hbel.setCell (Nat.le_refl _) _⟩
          case measure => simp [intOf]; omega
        · go_wp2
          go_roundw
          case rel => exact ⟨k + 1, _, _, hlt, by go_num, rfl, hinv.pos (by rw [hlx.out]; exact hlt) dx dy _ (by rw [Hxk.out, Hyk.out]; omega) (by omega), hrow.set _ _, hbel.setCell (Nat.le_refl _) _⟩
          case measure => simp [intOf]; omega
    · have hkl : k = la := by omega
      subst hkl
      have hfin := Lib.hid (SubInv.finish (c := cv) (zs := zs) (by rw [hlx.out]; exact hinv) (by rw [hlx.out, hly.out]; omega) Hv.out)
      have hsl := hrow.sl k (by rw [hzl.out, hlx.out]) (by omega)
      clear hinv
      go_wp2_with fail
      refine (cut_any _ _ _ _ _ hsl).mono ?_
      rintro e w' ⟨rfl, rfl⟩
      go_wp2
      go_ret
      refine ⟨_, _, _, rfl, ?_, ?_⟩
      · have := hsl.trim hfin.out.1
        rw [hfin.out.2] at this
        exact this
      · rw [Hg.out]; exact hbel

theorem parts_len_mono {m n : Nat} (h : n ≤ m) : (parts n).length ≤ (parts m).length := by
  rw [parts_len]
  have := (parts_len m (parts m).length).1 (Nat.le_refl _)
  omega
/-- Of two numbers. -/
theorem sub_parts (ax : Option Addr) (la ca m : Nat) (ay : Option Addr) (lb cb n : Nat) (w : World) (hx : Sl w ax la ca (parts m)) (hy : Sl w ay lb cb (parts n)) (hm : la ≤ 1000000) (hn : n ≤ m) :
    Calls Tryz.prog 152 #[.slice ax la ca, .slice ay lb cb] w (RetS (parts (m - n)) w) := by
  have hl := parts_len_mono hn
  rw [hx.length, hy.length] at hl
  have := sub_any ax la ca _ ay lb cb _ w hx hy (parts_dig m) (parts_dig n) hm hl (by rw [val_parts, val_parts]; omega)
  rw [val_parts, val_parts] at this
  rwa [show ((m : Int) - (n : Int)).toNat = m - n by omega] at this
end Go.Proofs.YtfjnplhhgdfepaaGreatDoor

/- The contract of mulParts. -/
namespace Go.Proofs.YtfjnplhhgdfepaaGreatDoor
open Go.RowKit

/-- What holds at the head of a round of the inner loop: R is the number that the row had when the outer round began. -/
def MulInv (i : Nat) (x : Int) (ys : List Int) (R : Int) (n : Nat) (k : Nat) (c : Int) (zs : List Int) : Prop :=
  zs.length = n ∧ Dig zs ∧ (∀ j, i + ys.length ≤ j → zs.getD j 0 = 0) ∧ 0 ≤ c ∧ c < 1000000000 ∧ val zs + 1000000000 ^ (i + k) * c = R + 1000000000 ^ i * (x * val (ys.take k))
theorem MulInv.step {i : Nat} {x : Int} {ys : List Int} {R : Int} {n k : Nat} {c : Int} {zs : List Int} (h : MulInv i x ys R n k c zs) (hk : k < ys.length) (hn : i + k < n) (hx0 : 0 ≤ x) (hx1 : x ≤ 999999999) (hy : Dig ys)
    (p : Int) (hp : p = zs.getD (i + k) 0 + x * ys.getD k 0 + c) : MulInv i x ys R n (k + 1) (p / 1000000000) (zs.set (i + k) (p % 1000000000)) := by
  obtain ⟨g1, g2, g3, g4, g5, g6⟩ := h
  have hyk := hy.getD k
  have hzk := g2.getD (i + k)
  have := mul_bd hx0 hx1 hyk.1 (show ys.getD k 0 ≤ 999999999 by omega)
  refine ⟨by simp [g1], g2.set _ _ (by omega) (by omega), fun j hj => ?_, by omega, by omega, ?_⟩
  · rw [getD_set_ne _ _ _ _ (by omega)]; exact g3 j (by omega)
  · rw [val_set _ _ _ (by omega), val_take_step, show i + (k + 1) = (i + k) + 1 from by omega, Int.pow_succ]
    rw [Int.pow_add] at *
    have e : p % 1000000000 + 1000000000 * (p / 1000000000) = p := by omega
    grind
/-- At the head of a round of the outer loop. -/
def MulOut (xs ys : List Int) (i : Nat) (zs : List Int) : Prop :=
  zs.length = xs.length + ys.length ∧ Dig zs ∧ (∀ j, i + ys.length ≤ j → zs.getD j 0 = 0) ∧ val zs = val (xs.take i) * val ys
theorem MulOut.start (xs ys : List Int) : MulOut xs ys 0 (List.replicate (xs.length + ys.length) 0) :=
  ⟨by simp, Dig.replicate _, fun j _ => getD_replicate _ _, by rw [val_replicate]; simp [val]⟩
theorem MulOut.enter {xs ys : List Int} {i : Nat} {zs : List Int} (h : MulOut xs ys i zs) (x : Int) : MulInv i x ys (val zs) (xs.length + ys.length) 0 0 zs :=
  ⟨h.1, h.2.1, h.2.2.1, by omega, by omega, by simp [val]⟩
theorem MulOut.leave {xs ys : List Int} {i : Nat} {zs : List Int} (h : MulOut xs ys i zs) (hi : i < xs.length) {c : Int} {zs' : List Int}
    (k : MulInv i (xs.getD i 0) ys (val zs) (xs.length + ys.length) ys.length c zs') : MulOut xs ys (i + 1) (zs'.set (i + ys.length) c) := by
  obtain ⟨_, _, _, g4⟩ := h
  obtain ⟨k1, k2, k3, k4, k5, k6⟩ := k
  refine ⟨by simp [k1], k2.set _ _ k4 k5, fun j hj => ?_, ?_⟩
  · rw [getD_set_ne _ _ _ _ (by omega)]; exact k3 j (by omega)
  · rw [val_set _ _ _ (by omega), k3 _ (Nat.le_refl _), val_take_step]
    rw [List.take_length] at k6
    grind

set_option maxHeartbeats 2000000 in
theorem mul_any (ax : Option Addr) (la ca : Nat) (xs : List Int) (ay : Option Addr) (lb cb : Nat) (ys : List Int) (w : World) (hx : Sl w ax la ca xs) (hy : Sl w ay lb cb ys)
    (dx : Dig xs) (dy : Dig ys) (hm : la ≤ 1000000) (hn : lb ≤ 1000000) :
    Calls Tryz.prog 132 #[.slice ax la ca, .slice ay lb cb] w (RetS (parts (val xs * val ys).toNat) w) := by
  obtain ⟨i0, hi, hz0, hz1, hz2⟩ := info_parts Tryz.info3
  go_enter Tryz.func132, Tryz.ntmps132
  go_wp2_with (at_make; refine wpList_make_full _ rfl _ _ 22 rfl w.heap.size 3 i0 (.int .i64 0) 1 Tryz.underlying22 hi hz0 hz1 _ _ _ _ (la + lb) rfl rfl ?c1 ?c2 ?c3 ?c4 ?c5 ?_)
  case c1 => omega
  case c2 => omega
  case c3 => rw [hz2]; omega
  case c4 => unfold maxLen; omega
  case c5 => omega
  intro w1 hown hgrow
  have hrow := RowOf.made hown rfl
  have hb1 : Below w.heap.size w w1 := (Below.refl _ _).grown hgrow (Nat.le_refl _) (fun _ h => by cases h)
  generalize hg : w.heap.size = g at *
  have Hg := Lib.hid hg
  clear hg hown hgrow
  go_wp2
  have hlx := Lib.hid hx.length
  have hly := Lib.hid hy.length
  go_loopw [8, 20, 27] (fun _ i _ wr => ∃ (k : Nat) (zs : List Int), k ≤ la ∧ i = .int .i64 k ∧ MulOut xs ys k zs ∧ RowOf wr g zs ∧ Below g w wr) (fun _ i _ _ => la - (intOf i).toNat)
  case atStart => exact ⟨0, _, Nat.zero_le _, rfl, by have := MulOut.start xs ys; rwa [hlx.out, hly.out] at this, hrow, hb1⟩
  case round =>
    clear hb1 hrow
    obtain ⟨k, zs, hk, rfl, hout, hrow, hbel⟩ := hrel
    have hsx := hx.below (by rw [Hg.out]; exact hbel)
    by_cases hlt : k < la
    · obtain ⟨bx, ox, rfl, hcx⟩ := hsx.at (by omega)
      have hcxk := hcx k hlt
      have hxd := dx.getD k
      generalize hxk : xs.getD k 0 = x at hcxk hxd
      have Hxk := Lib.hid hxk
      clear hcx hxk
      obtain ⟨hx0, hx1⟩ := hxd
      go_wp2
      obtain ⟨wo, rfl⟩ : ∃ wo : World, wo = wr := ⟨_, rfl⟩
      go_loopw [8, 27] (fun c i wr => ∃ (j : Nat) (cv : Int) (vs : List Int), j ≤ lb ∧ i = .int .i64 j ∧ c = .int .i64 cv ∧ MulInv k x ys (val zs) (la + lb) j cv vs ∧ RowOf wr g vs ∧ Below g w wr) (fun _ i _ => lb - (intOf i).toNat)
      case atStart => exact ⟨0, 0, zs, Nat.zero_le _, rfl, rfl, by have := hout.enter x; rwa [hlx.out, hly.out] at this, hrow, hbel⟩
      case round =>
        clear hrow hbel
        obtain ⟨j, cv, vs, hj, rfl, rfl, hinv, hrow, hbel⟩ := hrel
        have hsy := hy.below (by rw [Hg.out]; exact hbel)
        have hc0 := hinv.2.2.2.1
        have hc1 := hinv.2.2.2.2.1
        have hzl := Lib.hid hinv.1
        by_cases hjt : j < lb
        · obtain ⟨by', oy, rfl, hcy⟩ := hsy.at (by omega)
          have hcyk := hcy j hjt
          have hyd := dy.getD j
          generalize hyk : ys.getD j 0 = y at hcyk hyd
          have Hyk := Lib.hid hyk
          have hfz := hrow.frozen (k + j)
          have hcz := hrow.cell (k + j) (by rw [hzl.out]; omega)
          have hzd := hinv.2.1.getD (k + j)
          generalize hzk : vs.getD (k + j) 0 = z at hcz hzd
          have Hzk := Lib.hid hzk
          obtain ⟨hp0, hp1⟩ := mul_bd hx0 (show x ≤ 999999999 by omega) hyd.1 (show y ≤ 999999999 by omega)
          clear hcy hyk hzk
          go_wp2
          go_roundw
          case rel => exact ⟨j + 1, _, _, hjt, by go_num, rfl, hinv.step (by rw [hly.out]; exact hjt) (by omega) hx0 (by omega) dy _ (by rw [Hyk.out, Hzk.out]), hrow.set _ _, hbel.setCell (Nat.le_refl _) _⟩
          case measure => simp [intOf]; omega
        · have hjl : j = lb := by omega
          subst hjl
          have hfz := hrow.frozen (k + j)
          have hcz := hrow.cell (k + j) (by rw [hzl.out]; omega)
          go_wp2
          go_roundw
          case rel => exact ⟨k + 1, _, hlt, by go_num, by have := hout.leave (c := cv) (zs' := vs) (by rw [hlx.out]; exact hlt) (by rw [Hxk.out, hlx.out, hly.out]; exact hinv); rwa [hly.out] at this, hrow.set _ _, hbel.setCell (Nat.le_refl _) _⟩
          case measure => simp [intOf]; omega
    · have hkl : k = la := by omega
      subst hkl
      have hsl := hrow.sl (k + lb) (by rw [hout.1, hlx.out, hly.out]) (by omega)
      have hfin := Lib.hid hout
      clear hout
      go_wp2_with fail
      refine (cut_any _ _ _ _ _ hsl).mono ?_
      rintro e w' ⟨rfl, rfl⟩
      go_wp2
      go_ret
      refine ⟨_, _, _, rfl, ?_, ?_⟩
      · have := hsl.trim hfin.out.2.1
        rw [hfin.out.2.2.2, ← hlx.out, List.take_length] at this
        rw [← hlx.out]
        exact this
      · rw [Hg.out]; exact hbel

/-- Of two numbers. -/
theorem mul_parts (ax : Option Addr) (la ca m : Nat) (ay : Option Addr) (lb cb n : Nat) (w : World) (hx : Sl w ax la ca (parts m)) (hy : Sl w ay lb cb (parts n)) (hm : la ≤ 1000000) (hn : lb ≤ 1000000) :
    Calls Tryz.prog 132 #[.slice ax la ca, .slice ay lb cb] w (RetS (parts (m * n)) w) := by
  have := mul_any ax la ca _ ay lb cb _ w hx hy (parts_dig m) (parts_dig n) hm hn
  rw [val_parts, val_parts, show ((m : Int) * (n : Int)).toNat = m * n from by rw [← Int.natCast_mul]; exact Int.toNat_natCast _] at this
  exact this
end Go.Proofs.YtfjnplhhgdfepaaGreatDoor

/- The contracts of cmp.Compare at ints and of compareParts. -/
namespace Go.Proofs.YtfjnplhhgdfepaaGreatDoor
open Go.RowKit

theorem nan_any (x : Int) (w : World) : Calls Tryz.prog 145 #[.int .i64 x] w fun e w' => e = .returned (.bool false) ∧ w = w' := by
  go_enter Tryz.func145, Tryz.ntmps145
  go_wp2
  go_ret
  exact ⟨by simp, rfl⟩

theorem cmp_any (x y : Int) (w : World) : Calls Tryz.prog 125 #[.int .i64 x, .int .i64 y] w fun e w' => e = .returned (.int .i64 (cmp3 x y)) ∧ w = w' := by
  rcases Int.lt_trichotomy x y with h | h | h
  · go_enter Tryz.func125, Tryz.ntmps125
    go_wp2_with (go_at_call 145; refine (nan_any _ _).mono ?_; rintro e w' ⟨rfl, rfl⟩)
    go_ret
    exact ⟨by rw [cmp3, if_pos h]; rfl, rfl⟩
  · subst h
    go_enter Tryz.func125, Tryz.ntmps125
    go_wp2_with (go_at_call 145; refine (nan_any _ _).mono ?_; rintro e w' ⟨rfl, rfl⟩)
    go_ret
    exact ⟨by rw [cmp3_self]; rfl, rfl⟩
  · have h' : ¬ x < y := by omega
    go_enter Tryz.func125, Tryz.ntmps125
    go_wp2_with (go_at_call 145; refine (nan_any _ _).mono ?_; rintro e w' ⟨rfl, rfl⟩)
    go_ret
    exact ⟨by rw [cmp3, if_neg (by omega), if_neg (by omega)]; rfl, rfl⟩

/-- A call that hands back a number; what was there is as it was. -/
def RetI (n : Int) (w : World) (e : Ending) (w' : World) : Prop := e = .returned (.int .i64 n) ∧ ∃ k, w' = w.drewN k

theorem cmpE_done (xs ys : List Int) : cmpE (xs.take 0) (ys.take 0) = 0 := rfl

set_option maxHeartbeats 1000000 in
theorem comp_any (ax : Option Addr) (la ca : Nat) (xs : List Int) (ay : Option Addr) (lb cb : Nat) (ys : List Int) (w : World) (hx : Sl w ax la ca xs) (hy : Sl w ay lb cb ys) :
    Calls Tryz.prog 93 #[.slice ax la ca, .slice ay lb cb] w (RetI (cmpL xs ys) w) := by
  have hbx := hx.len_le
  have hby := hy.len_le
  have hlx := Lib.hid hx.length
  have hly := Lib.hid hy.length
  by_cases hne : la = lb
  · subst hne
    have hq : ((la : Int) != (la : Int)) = false := by simp
    go_enter Tryz.func93, Tryz.ntmps93
    go_wp2
    go_loopw [5] (fun i wr => ∃ k : Nat, k ≤ la ∧ (∃ iv : Int, i = .int .i64 iv ∧ iv = (k : Int) - 1) ∧ cmpE (xs.take k) (ys.take k) = cmpE xs ys ∧ ∃ n, wr = w.drewN n) (fun i _ => (intOf i + 1).toNat)
    case atStart => exact ⟨la, Nat.le_refl _, ⟨_, rfl, rfl⟩, by rw [List.take_of_length_le (by rw [hlx.out]; exact Nat.le_refl _), List.take_of_length_le (by rw [hly.out]; exact Nat.le_refl _)], 0, rfl⟩
    case round =>
      obtain ⟨k, hk, ⟨iv, rfl, hiv⟩, hc, n, rfl⟩ := hrel
      have Hc := Lib.hid hc
      clear hc
      rcases k with _ | k
      · obtain rfl : iv = -1 := by omega
        clear hiv
        go_wp2
        go_ret
        refine ⟨?_, n, rfl⟩
        have : cmpL xs ys = 0 := by unfold cmpL; rw [hlx.out, hly.out, if_neg (by omega), if_neg (by omega), ← Hc.out]; rfl
        rw [this]; rfl
      · obtain rfl : iv = (k : Int) := by omega
        clear hiv
        obtain ⟨bx, ox, rfl, hcx⟩ := hx.at (by omega)
        obtain ⟨by', oy, rfl, hcy⟩ := hy.at (by omega)
        have hcxk := hcx k (by omega)
        have hcyk := hcy k (by omega)
        have hstep := Lib.hid (cmpE_take xs ys k (by rw [hlx.out]; omega) (by rw [hly.out]; omega))
        generalize hxk : xs.getD k 0 = x at hcxk hstep
        generalize hyk : ys.getD k 0 = y at hcyk hstep
        clear hcx hcy hxk hyk
        have hcx' : (w.drewN n).cell? ⟨bx, ox + k, none⟩ = some (.int .i64 x) := hcxk
        have hcy' : (w.drewN n).cell? ⟨by', oy + k, none⟩ = some (.int .i64 y) := hcyk
        by_cases hxy : x = y
        · subst hxy
          have hq2 : (x != x) = false := by simp
          go_wp2
          go_region
          go_wp2
          go_roundw
          case rel => exact ⟨k, by omega, ⟨_, rfl, rfl⟩, by rw [← Hc.out, hstep.out]; simp, n + 1, rfl⟩
          case measure => simp [intOf]
        · have hq2 : (x != y) = true := by simpa using hxy
          go_wp2
          go_region
          obtain ⟨w2, hw2⟩ : ∃ w2, w2 = w.drewN (n + 1) := ⟨_, rfl⟩
          have c1 : w2.cell? ⟨bx, ox + k, none⟩ = some (.int .i64 x) := by rw [hw2]; exact hcxk
          have c2 : w2.cell? ⟨by', oy + k, none⟩ = some (.int .i64 y) := by rw [hw2]; exact hcyk
          go_wp2
          rw [← hw2]
          have Hw2 := Lib.hid hw2
          clear hw2 hcx' hcy' hcxk hcyk
          go_quiet ((go_at_call 125; exact Calls.quiet_of_same ((cmp_any _ _ _).mono fun _ _ h => ⟨h.1, h.2.symm⟩)))
          go_wp2
          go_ret
          refine ⟨?_, n + 1 + nq, by rw [Hw2.out, World.drewN_drewN]⟩
          have : cmpL xs ys = cmp3 x y := by
            unfold cmpL; rw [hlx.out, hly.out, if_neg (by omega), if_neg (by omega), ← Hc.out, hstep.out, if_neg hxy]
          rw [this]; rfl
  · have hq : ((la : Int) != (lb : Int)) = true := by simp; omega
    go_enter Tryz.func93, Tryz.ntmps93
    go_wp2_with (go_at_call 125; refine (cmp_any _ _ _).mono ?_; rintro e w' ⟨rfl, rfl⟩)
    go_ret
    refine ⟨?_, 0, rfl⟩
    have : cmpL xs ys = cmp3 la lb := by
      unfold cmpL cmp3
      rw [hlx.out, hly.out]
      split
      · rw [if_pos (by omega)]
      · split
        · rw [if_neg (by omega), if_neg (by omega)]
        · omega
    rw [this]; rfl
end Go.Proofs.YtfjnplhhgdfepaaGreatDoor

/- plus, minus, times of integers of any size. -/
namespace Go.Proofs.YtfjnplhhgdfepaaGreatDoor
open Go.RowKit

theorem num_mul (x y : Int) : num (!(decide (x < 0) == decide (y < 0))) (val (parts (x.natAbs * y.natAbs))) = x * y := by
  rw [val_parts, Int.natCast_mul]
  unfold num
  rcases (show x < 0 ∨ 0 ≤ x by omega) with hx | hx <;> rcases (show y < 0 ∨ 0 ≤ y by omega) with hy | hy
  · rw [show (x.natAbs : Int) = -x by omega, show (y.natAbs : Int) = -y by omega]
    simp [hx, hy, Int.neg_mul_neg]
  · rw [show (x.natAbs : Int) = -x by omega, show (y.natAbs : Int) = y by omega]
    simp [hx, show ¬ y < 0 by omega, Int.neg_mul]
  · rw [show (x.natAbs : Int) = x by omega, show (y.natAbs : Int) = -y by omega]
    simp [hy, show ¬ x < 0 by omega, Int.mul_neg]
  · rw [show (x.natAbs : Int) = x by omega, show (y.natAbs : Int) = y by omega]
    simp [show ¬ x < 0 by omega, show ¬ y < 0 by omega]

set_option maxHeartbeats 2000000 in
theorem times_any (x y : Int) (ax : Option Addr) (la ca : Nat) (ay : Option Addr) (lb cb : Nat) (w : World) (hx : Sl w ax la ca (parts x.natAbs)) (hy : Sl w ay lb cb (parts y.natAbs)) (hm : la ≤ 1000000) (hn : lb ≤ 1000000) :
    Calls Tryz.prog 109 #[.agg #[.bool (decide (x < 0)), .slice ax la ca], .agg #[.bool (decide (y < 0)), .slice ay lb cb]] w (RetN (x * y) w) := by
  have hfin := Lib.hid (num_mul x y)
  generalize hsx : decide (x < 0) = sx at *
  generalize hsy : decide (y < 0) = sy at *
  clear hsx hsy
  go_enter Tryz.func109, Tryz.ntmps109
  go_wp2_with fail
  go_region_held3 (fun w' => w'.cell? ⟨w.heap.size, 0, none⟩ = some (.bool sx) ∧ w'.cell? ⟨w.heap.size, 1, none⟩ = some (.slice ax la ca) ∧ w'.cell? ⟨w.heap.size + 1, 0, none⟩ = some (.bool sy) ∧ w'.cell? ⟨w.heap.size + 1, 1, none⟩ = some (.slice ay lb cb)) (first | exact ⟨m1, m2, n1, n2⟩ | exact ⟨set2_other m1 (by simp; omega), set2_other m2 (by simp; omega), set2_other n1 (by simp), set2_other n2 (by simp)⟩ | exact ⟨k1, k2, l1, l2⟩ | go_keep) (first | (go_at_call 132; (refine (mul_parts _ _ _ _ _ _ _ _ _ (by exact (((hx.alloc _).alloc _).alloc _).drew) (by exact (((hy.alloc _).alloc _).alloc _).drew) hm hn).mono ?_); rintro e w1 ⟨ao1, len1, cap1, rfl, hs1, hb1⟩; obtain ⟨k1, k2, k3, k4, k5⟩ := box2 (w := w1) (g := w.heap.size) (by rw [hb1.block _ (by simp <;> omega)]; exact heap3_0 _ _ _ _); obtain ⟨l1, l2, l3, l4, l5⟩ := box2 (w := w1) (g := w.heap.size + 1) (by rw [hb1.block _ (by simp <;> omega)]; exact heap3_1 _ _ _ _)) | (go_at_call 79; (refine (signed_any _ _ _ _ _ _ hs1 (parts_dig _)).mono ?_); rintro e w2 ⟨ao2, len2, cap2, rfl, hs2, hb2⟩; obtain ⟨f1, f2, f3, f4, f5⟩ := box2 (w := w2) (g := w.heap.size + 2) (by rw [hb2.block _ (by have := hb1.size; simp at this; omega), hb1.block _ (by simp)]; exact heap3_2 _ _ _ _); obtain ⟨m1, m2, m3, m4, m5⟩ := box2 (w := w2) (g := w.heap.size) (by rw [hb2.block _ (by omega), hb1.block _ (by simp <;> omega)]; exact heap3_0 _ _ _ _); obtain ⟨n1, n2, n3, n4, n5⟩ := box2 (w := w2) (g := w.heap.size + 1) (by rw [hb2.block _ (by omega), hb1.block _ (by simp <;> omega)]; exact heap3_1 _ _ _ _)))
  all_goals go_wp2
  all_goals (refine bodyPost_ret (v := .agg #[.bool (decide (num (!(sx == sy)) (val (parts (x.natAbs * y.natAbs))) < 0)), .slice ao2 len2 cap2]) (by simp [results, Tryz.results109, go_sem, f1, f2]) rfl ?_)
  all_goals (rw [hfin.out] at hs2 ⊢; exact ⟨ao2, len2, cap2, rfl, hs2.store2 f1 f2 _ _, ((((((below3 w _ _ _).drew).trans (hb1.mono (by simp; omega))).trans (hb2.mono (by omega))).setCell (by simp; omega) _).setCell (by simp; omega) _)⟩)

theorem comp_below (ax : Option Addr) (la ca : Nat) (xs : List Int) (ay : Option Addr) (lb cb : Nat) (ys : List Int) (w : World) (hx : Sl w ax la ca xs) (hy : Sl w ay lb cb ys) :
    Calls Tryz.prog 93 #[.slice ax la ca, .slice ay lb cb] w fun e w' => e = .returned (.int .i64 (cmpL xs ys)) ∧ Below w.heap.size w w' :=
  (comp_any ax la ca xs ay lb cb ys w hx hy).mono fun _ _ ⟨h, k, hk⟩ => ⟨h, by rw [hk]; exact ⟨rfl, rfl, rfl, Nat.le_refl _, fun _ _ => rfl⟩⟩

theorem num_add (x y : Int) (h : decide (x < 0) = decide (y < 0)) : num (decide (x < 0)) (val (parts (x.natAbs + y.natAbs))) = x + y := by
  rw [val_parts]; unfold num
  by_cases hx : x < 0
  · have hy : y < 0 := by simpa [hx] using h
    simp [hx]; omega
  · have hy : ¬ y < 0 := by simpa [hx] using h
    simp [hx]; omega
theorem num_sub (x y : Int) (h : decide (x < 0) ≠ decide (y < 0)) (hl : y.natAbs ≤ x.natAbs) : num (decide (x < 0)) (val (parts (x.natAbs - y.natAbs))) = x + y := by
  rw [val_parts]; unfold num
  by_cases hx : x < 0
  · have hy : ¬ y < 0 := by simpa [hx] using h
    simp [hx]; omega
  · have hy : y < 0 := by simpa [hx] using h
    simp [hx]; omega

set_option maxHeartbeats 2000000 in
/-- plus, where the signs are equal. -/
theorem plus_same (x y : Int) (ax : Option Addr) (la ca : Nat) (ay : Option Addr) (lb cb : Nat) (w : World) (hx : Sl w ax la ca (parts x.natAbs)) (hy : Sl w ay lb cb (parts y.natAbs)) (hm : la ≤ 1000000) (hn : lb ≤ 1000000)
    (hs : decide (x < 0) = decide (y < 0)) :
    Calls Tryz.prog 147 #[.agg #[.bool (decide (x < 0)), .slice ax la ca], .agg #[.bool (decide (y < 0)), .slice ay lb cb]] w (RetN (x + y) w) := by
  have hfin := Lib.hid (num_add x y hs)
  rw [← hs]
  generalize hsx : decide (x < 0) = sx at *
  clear hsx hs
  go_enter Tryz.func147, Tryz.ntmps147
  go_wp2_with fail
  go_region_held3 (fun w' => w'.cell? ⟨w.heap.size, 0, none⟩ = some (.bool sx) ∧ w'.cell? ⟨w.heap.size, 1, none⟩ = some (.slice ax la ca) ∧ w'.cell? ⟨w.heap.size + 1, 0, none⟩ = some (.bool sx) ∧ w'.cell? ⟨w.heap.size + 1, 1, none⟩ = some (.slice ay lb cb)) (first | exact ⟨m1, m2, n1, n2⟩ | exact ⟨set2_other m1 (by simp; omega), set2_other m2 (by simp; omega), set2_other n1 (by simp), set2_other n2 (by simp)⟩ | exact ⟨k1, k2, l1, l2⟩ | go_keep) (first | (go_at_call 135; (refine (add_parts _ _ _ _ _ _ _ _ _ (by exact (((hx.alloc _).alloc _).alloc _).drew) (by exact (((hy.alloc _).alloc _).alloc _).drew) hm hn).mono ?_); rintro e w1 ⟨ao1, len1, cap1, rfl, hs1, hb1⟩; obtain ⟨k1, k2, k3, k4, k5⟩ := box2 (w := w1) (g := w.heap.size) (by rw [hb1.block _ (by simp <;> omega)]; exact heap3_0 _ _ _ _); obtain ⟨l1, l2, l3, l4, l5⟩ := box2 (w := w1) (g := w.heap.size + 1) (by rw [hb1.block _ (by simp <;> omega)]; exact heap3_1 _ _ _ _)) | (go_at_call 79; (refine (signed_any _ _ _ _ _ _ hs1 (parts_dig _)).mono ?_); rintro e w2 ⟨ao2, len2, cap2, rfl, hs2, hb2⟩; obtain ⟨f1, f2, f3, f4, f5⟩ := box2 (w := w2) (g := w.heap.size + 2) (by rw [hb2.block _ (by have := hb1.size; simp at this; omega), hb1.block _ (by simp)]; exact heap3_2 _ _ _ _); obtain ⟨m1, m2, m3, m4, m5⟩ := box2 (w := w2) (g := w.heap.size) (by rw [hb2.block _ (by omega), hb1.block _ (by simp <;> omega)]; exact heap3_0 _ _ _ _); obtain ⟨n1, n2, n3, n4, n5⟩ := box2 (w := w2) (g := w.heap.size + 1) (by rw [hb2.block _ (by omega), hb1.block _ (by simp <;> omega)]; exact heap3_1 _ _ _ _)))
  all_goals go_wp2
  all_goals (refine bodyPost_ret (v := .agg #[.bool (decide (num sx (val (parts (x.natAbs + y.natAbs))) < 0)), .slice ao2 len2 cap2]) (by simp [results, Tryz.results147, go_sem, f1, f2]) rfl ?_)
  all_goals (rw [hfin.out] at hs2 ⊢; exact ⟨ao2, len2, cap2, rfl, hs2.store2 f1 f2 _ _, ((((((below3 w _ _ _).drew).trans (hb1.mono (by simp; omega))).trans (hb2.mono (by omega))).setCell (by simp; omega) _).setCell (by simp; omega) _)⟩)

set_option maxHeartbeats 2000000 in
/-- plus, where the signs are different and the first number is not smaller in size. -/
theorem plus_ge (x y : Int) (ax : Option Addr) (la ca : Nat) (ay : Option Addr) (lb cb : Nat) (w : World) (hx : Sl w ax la ca (parts x.natAbs)) (hy : Sl w ay lb cb (parts y.natAbs)) (hm : la ≤ 1000000)
    (hs : decide (x < 0) ≠ decide (y < 0)) (hl : y.natAbs ≤ x.natAbs) :
    Calls Tryz.prog 147 #[.agg #[.bool (decide (x < 0)), .slice ax la ca], .agg #[.bool (decide (y < 0)), .slice ay lb cb]] w (RetN (x + y) w) := by
  have hfin := Lib.hid (num_sub x y hs hl)
  generalize hsx : decide (x < 0) = sx at *
  generalize hsy : decide (y < 0) = sy at *
  have hq : (sx == sy) = false := by simpa using hs
  have hc : decide (cmpL (parts x.natAbs) (parts y.natAbs) < 0) = false := by
    rw [cmpL_parts]; unfold cmp3; rw [if_neg (by omega)]; split <;> simp
  generalize hcv : cmpL (parts x.natAbs) (parts y.natAbs) = cv at hc
  clear hsx hsy hs
  go_enter Tryz.func147, Tryz.ntmps147
  go_wp2_with fail
  refine (comp_below _ _ _ _ _ _ _ _ _ (((hx.alloc _).alloc _).alloc _) (((hy.alloc _).alloc _).alloc _)).mono ?_
  rintro e w0 ⟨rfl, hb0⟩
  rw [hcv]
  have hx0 := (((hx.alloc (.cells #[.bool sx, .slice ax la ca] 24)).alloc (.cells #[.bool sy, .slice ay lb cb] 24)).alloc (.cells #[.bool false, .slice none 0 0] 24)).below hb0
  have hy0 := (((hy.alloc (.cells #[.bool sx, .slice ax la ca] 24)).alloc (.cells #[.bool sy, .slice ay lb cb] 24)).alloc (.cells #[.bool false, .slice none 0 0] 24)).below hb0
  obtain ⟨hA, hB, hR, hsz, hbb⟩ := kept3 _ _ _ _ hb0
  have HA := Lib.hid hA; have HB := Lib.hid hB; have HR := Lib.hid hR
  obtain ⟨k1, k2, k3, k4, k5⟩ := box2 hA
  obtain ⟨l1, l2, l3, l4, l5⟩ := box2 hB
  clear hA hB hR hb0 hcv
  go_wp2
  go_region_held3 (fun w' => w'.cell? ⟨w.heap.size, 0, none⟩ = some (.bool sx) ∧ w'.cell? ⟨w.heap.size, 1, none⟩ = some (.slice ax la ca) ∧ w'.cell? ⟨w.heap.size + 1, 0, none⟩ = some (.bool sy) ∧ w'.cell? ⟨w.heap.size + 1, 1, none⟩ = some (.slice ay lb cb)) (first | exact ⟨set2_other m1 (by simp; omega), set2_other m2 (by simp; omega), set2_other n1 (by simp), set2_other n2 (by simp)⟩ | exact ⟨m1, m2, n1, n2⟩ | exact ⟨p1, p2, q1, q2⟩ | exact ⟨k1, k2, l1, l2⟩) (first | (go_at_call 152; (refine (sub_parts _ _ _ _ _ _ _ _ _ (by exact hx0.drew) (by exact hy0.drew) hm hl).mono ?_); rintro e w1 ⟨ao1, len1, cap1, rfl, hs1, hb1⟩; obtain ⟨p1, p2, p3, p4, p5⟩ := box2 (w := w1) (g := w.heap.size) (by rw [hb1.block _ (by show _ < w0.heap.size; omega)]; exact HA.out); obtain ⟨q1, q2, q3, q4, q5⟩ := box2 (w := w1) (g := w.heap.size + 1) (by rw [hb1.block _ (by show _ < w0.heap.size; omega)]; exact HB.out)) | (go_at_call 79; (refine (signed_any _ _ _ _ _ _ hs1 (parts_dig _)).mono ?_); rintro e w2 ⟨ao2, len2, cap2, rfl, hs2, hb2⟩; have hz1 : w0.heap.size ≤ w1.heap.size := hb1.size; obtain ⟨f1, f2, f3, f4, f5⟩ := box2 (w := w2) (g := w.heap.size + 2) (by rw [hb2.block _ (by omega), hb1.block _ (by show _ < w0.heap.size; omega)]; exact HR.out); obtain ⟨m1, m2, m3, m4, m5⟩ := box2 (w := w2) (g := w.heap.size) (by rw [hb2.block _ (by omega), hb1.block _ (by show _ < w0.heap.size; omega)]; exact HA.out); obtain ⟨n1, n2, n3, n4, n5⟩ := box2 (w := w2) (g := w.heap.size + 1) (by rw [hb2.block _ (by omega), hb1.block _ (by show _ < w0.heap.size; omega)]; exact HB.out)))
  all_goals go_wp2
  all_goals (refine bodyPost_ret (v := .agg #[.bool (decide (num sx (val (parts (x.natAbs - y.natAbs))) < 0)), .slice ao2 len2 cap2]) (by simp [results, Tryz.results147, go_sem, f1, f2]) rfl ?_)
  all_goals (rw [hfin.out] at hs2 ⊢; exact ⟨ao2, len2, cap2, rfl, hs2.store2 f1 f2 _ _, ((((hbb.trans ((Below.undrew hb1).mono (by show _ ≤ w0.heap.size; omega))).trans (hb2.mono (by omega))).setCell (by simp; omega) _).setCell (by simp; omega) _)⟩)

end Go.Proofs.YtfjnplhhgdfepaaGreatDoor

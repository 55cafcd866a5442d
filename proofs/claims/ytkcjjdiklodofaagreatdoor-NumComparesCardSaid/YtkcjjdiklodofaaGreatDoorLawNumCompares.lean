/- NumCompares: for every input the law answers true, and each argument reads afterwards as it read before. Condition: the table of the powers of ten lies as the program's text lays it (tied by the card). -/
import Derived.Laws.BytesArg
import Derived.Test.YtkcjjdiklodofaaGreatDoorK8
set_option linter.all false

/- The reference's digits: the decimal digits of a number of parts. -/
namespace Go.Proofs.YtkcjjdiklodofaaGreatDoor
open Go.RowKit
open Go.Lib (decDigits nDigits nDigits_small nDigits_big)

/-- The last k decimal digits of v. -/
def fixD : Nat → Nat → List UInt8
  | 0, _ => []
  | k + 1, v => fixD k (v / 10) ++ [UInt8.ofNat (48 + v % 10)]
theorem fixD_length (k v : Nat) : (fixD k v).length = k := by
  induction k generalizing v with
  | zero => rfl
  | succ k ih => simp [fixD, ih]
theorem fixD_zero (k : Nat) : fixD k 0 = List.replicate k 48 := by
  induction k with
  | zero => rfl
  | succ k ih => rw [fixD, ih, List.replicate_succ']; rfl
theorem fixD_cons (d k v : Nat) (hd : d < 10) (hv : v < 10 ^ k) : UInt8.ofNat (48 + d) :: fixD k v = fixD (k + 1) (d * 10 ^ k + v) := by
  induction k generalizing v with
  | zero =>
    obtain rfl : v = 0 := by simp at hv; omega
    simp [fixD, Nat.mod_eq_of_lt hd]
  | succ k ih =>
    have h10 : v / 10 < 10 ^ k := by rw [Nat.pow_succ] at hv; omega
    have e1 : (d * 10 ^ (k + 1) + v) / 10 = d * 10 ^ k + v / 10 := by
      have : d * 10 ^ (k + 1) = 10 * (d * 10 ^ k) := by rw [Nat.pow_succ]; grind
      omega
    have e2 : (d * 10 ^ (k + 1) + v) % 10 = v % 10 := by
      have : d * 10 ^ (k + 1) = 10 * (d * 10 ^ k) := by rw [Nat.pow_succ]; grind
      omega
    rw [fixD, ← List.cons_append, ih _ h10, show fixD (k + 1 + 1) (d * 10 ^ (k + 1) + v) = fixD (k + 1) ((d * 10 ^ (k + 1) + v) / 10) ++ [UInt8.ofNat (48 + (d * 10 ^ (k + 1) + v) % 10)] from rfl, e1, e2]
theorem fixD_dec (L n : Nat) (h0 : 0 < n) (h : n < 10 ^ L) : fixD L n = List.replicate (L - nDigits n) 48 ++ decDigits n := by
  induction L generalizing n with
  | zero => simp at h; omega
  | succ L ih =>
    by_cases hn : n < 10
    · rw [fixD, nDigits_small hn, decDigits, dif_pos hn, Nat.div_eq_of_lt hn, fixD_zero, Nat.mod_eq_of_lt hn]
      rfl
    · have hq : n / 10 < 10 ^ L := by rw [Nat.pow_succ] at h; omega
      rw [fixD, ih (n / 10) (by omega) hq, nDigits_big hn, decDigits.eq_1 n, dif_neg hn, List.append_assoc, show L + 1 - (nDigits (n / 10) + 1) = L - nDigits (n / 10) by omega]
theorem dec_head (n : Nat) (h : 0 < n) : ∃ c r, decDigits n = c :: r ∧ c ≠ 48 := by
  induction n using Nat.strongRecOn with
  | _ n ih =>
    by_cases hn : n < 10
    · refine ⟨UInt8.ofNat (48 + n), [], by rw [decDigits, dif_pos hn], fun e => ?_⟩
      have := congrArg UInt8.toNat e
      simp at this
      omega
    · obtain ⟨c, r, e, hc⟩ := ih (n / 10) (by omega) (by omega)
      exact ⟨c, r ++ [UInt8.ofNat (48 + n % 10)], by rw [decDigits, dif_neg hn, e]; rfl, hc⟩
theorem pow9 (i : Nat) : (1000000000 : Nat) ^ i = 10 ^ (9 * i) := by rw [Nat.pow_mul]
/-- One digit more. -/
theorem dig_step (V i x k : Nat) (hV : V < 10 ^ (9 * i)) : UInt8.ofNat (48 + x / 10 ^ k % 10) :: fixD (9 * i + k) (V + 10 ^ (9 * i) * (x % 10 ^ k)) = fixD (9 * i + (k + 1)) (V + 10 ^ (9 * i) * (x % 10 ^ (k + 1))) := by
  have h1 : V + 10 ^ (9 * i) * (x % 10 ^ k) < 10 ^ (9 * i + k) := by
    have h2 : x % 10 ^ k < 10 ^ k := Nat.mod_lt _ (Nat.pow_pos (by omega))
    rw [Nat.pow_add]
    calc V + 10 ^ (9 * i) * (x % 10 ^ k) < 10 ^ (9 * i) * 1 + 10 ^ (9 * i) * (x % 10 ^ k) := by omega
      _ = 10 ^ (9 * i) * (1 + x % 10 ^ k) := by rw [Nat.mul_add]
      _ ≤ 10 ^ (9 * i) * 10 ^ k := Nat.mul_le_mul_left _ (by omega)
  rw [fixD_cons _ _ _ (Nat.mod_lt _ (by omega)) h1, Nat.mod_pow_succ, Nat.mul_add, Nat.pow_add, show 9 * i + k + 1 = 9 * i + (k + 1) by omega]
  congr 1
  grind

theorem cat1 (c : UInt8) (l : List UInt8) : Value.string ((⟨#[c]⟩ : ByteArray) ++ ⟨l.toArray⟩) = Value.string ⟨(c :: l).toArray⟩ := by
  rfl
theorem cut1 (c : UInt8) (l : List UInt8) : (⟨(c :: l).toArray⟩ : ByteArray).extract 1 (l.length + 1) = ⟨l.toArray⟩ := by
  apply ByteArray.ext
  simp
theorem one_byte (w : World) (q : Nat) (c : UInt8) (hc : UInt8.ofNat (48 + q % 10) = c) :
    (convert 25 9 (.slice (some ⟨w.heap.size, 0, none⟩) 1 1)).run Tryz.prog (w.alloc (.cells #[.int .u8 (48 + (q : Int) % 10)] 5)) = .ok (.string ⟨#[c]⟩) (w.alloc (.cells #[.int .u8 (48 + (q : Int) % 10)] 5)) := by
  have h := run_convert_bytes_arg (P := Tryz.prog) (w.alloc (.cells #[.int .u8 (48 + (q : Int) % 10)] 5)) 25 5 Tryz.underlying25 Tryz.underlying5 w.heap.size 0 1 1 [48 + (q : Int) % 10] rfl (fun i hi => by
    obtain rfl : i = 0 := by omega
    have hh := heap_new w (.cells #[.int .u8 (48 + (q : Int) % 10)] 5)
    unfold World.cell?
    rw [hh]
    rfl) 9 Tryz.underlying9
  have e : strOfNums [48 + (q : Int) % 10] = ⟨#[c]⟩ := by
    rw [← hc]
    unfold strOfNums
    rw [List.map_cons, List.map_nil, show (48 + (q : Int) % 10).toNat = 48 + q % 10 by omega]
  rw [h, e]
set_option maxRecDepth 100000 in
set_option maxHeartbeats 1000000 in
theorem digits_any (n : Nat) (ao : Option Addr) (len cap : Nat) (w : World) (hs : Sl w ao len cap (parts n)) (hm : len ≤ 1000) :
    Calls Tryz.prog 85 #[.slice ao len cap] w fun e w' => e = .returned (.string ⟨(decDigits n).toArray⟩) ∧ Below w.heap.size w w' := by
  have hl := hs.length
  by_cases h0 : n = 0
  · subst h0
    rw [parts_zero] at hl
    obtain rfl : len = 0 := by simpa using hl.symm
    have hd : decDigits 0 = [48] := by rw [decDigits, dif_pos (by omega)]; rfl
    rw [hd]
    go_enter Tryz.func85, Tryz.ntmps85
    go_wp2
    go_ret
    exact ⟨rfl, Below.refl _ _⟩
  · have hlen : 0 < len := by
      have := parts_nil_iff n
      rcases Nat.eq_zero_or_pos len with h | h
      · rw [h] at hl
        exact absurd (this.1 (List.eq_nil_of_length_eq_zero hl)) h0
      · exact h
    have hne : ((len : Int) == 0) = false := by simp; omega
    obtain ⟨b, o, rfl, hc⟩ := hs.at hlen
    have Hc := Lib.hid hc
    have Hl := Lib.hid hl
    have hbd := hs.len_le
    clear hc hl
    go_enter Tryz.func85, Tryz.ntmps85
    go_wp2
    go_loopw [3, 4] (fun s i wr => ∃ k : Nat, k ≤ len ∧ i = .int .i64 k ∧ s = .string ⟨(fixD (9 * k) (val ((parts n).take k)).toNat).toArray⟩ ∧ Below w.heap.size w wr) (fun _ i _ => len - (intOf i).toNat)
    case atStart => exact ⟨0, Nat.zero_le _, rfl, rfl, Below.refl _ _⟩
    case round =>
      obtain ⟨i, hi, rfl, rfl, hbel⟩ := hrel
      by_cases hlt : i < len
      · have hdg := (parts_dig n).getD i
        have hci := (hbel.cell (p := ⟨b, o + i, none⟩) (cell_lt (Hc.out i hlt))).trans (Hc.out i hlt)
        have hvl : val ((parts n).take i) < 1000000000 ^ i := by
          have := val_lt ((parts_dig n).take i)
          rwa [List.length_take, Nat.min_eq_left (by rw [Hl.out]; omega)] at this
        have hvn := val_nonneg ((parts_dig n).take i)
        have hts := val_take_succ (parts n) i (by rw [Hl.out]; exact hlt)
        obtain ⟨x, hx⟩ : ∃ x : Nat, (parts n).getD i 0 = x := ⟨((parts n).getD i 0).toNat, by omega⟩
        obtain ⟨V, hV⟩ : ∃ V : Nat, val ((parts n).take i) = V := ⟨(val ((parts n).take i)).toNat, by omega⟩
        rw [hx] at hdg hci hts
        rw [hV] at hvl hts ⊢
        have hVl : V < 10 ^ (9 * i) := by rw [← pow9]; exact Int.ofNat_lt.1 (by rw [Int.natCast_pow]; exact hvl)
        have hnext : (val ((parts n).take (i + 1))).toNat = V + 10 ^ (9 * i) * x := by
          rw [hts, ← pow9]
          have : ((1000000000 : Int) ^ i * x) = (((1000000000 : Nat) ^ i * x : Nat) : Int) := by rw [Int.natCast_mul, Int.natCast_pow]; rfl
          rw [this]; omega
        have HV := Lib.hid hVl
        have HN := Lib.hid hnext
        have hx0 : x < 1000000000 := by omega
        clear hV hx hvl hvn hts hVl hnext hdg
        rw [show ((V : Int)).toNat = V by omega]
        generalize hL : fixD (9 * i) V = L
        have HL := Lib.hid hL
        clear hL
        go_wp2
        go_loopw [3, 5, 6] (fun s y k wr => ∃ (k' q : Nat) (l : List UInt8), k' ≤ 9 ∧ k = .int .i64 k' ∧ y = .int .i64 q ∧ q < 1000000000 ∧ s = .string ⟨l.toArray⟩ ∧ Hid (q = x / 10 ^ k' ∧ l = fixD (9 * i + k') (V + 10 ^ (9 * i) * (x % 10 ^ k'))) ∧ Below w.heap.size w wr) (fun _ _ k _ => 9 - (intOf k).toNat)
        case atStart => exact ⟨0, x, L, by omega, rfl, rfl, hx0, rfl, Lib.hid ⟨by rw [Nat.pow_zero, Nat.div_one], by rw [Nat.pow_zero, Nat.mod_one, Nat.mul_zero, Nat.add_zero, Nat.add_zero]; exact HL.out.symm⟩, hbel⟩
        case round =>
          obtain ⟨k, q, l, hk, rfl, rfl, hq, rfl, hh, hb2⟩ := hrel
          by_cases hk9 : k < 9
          · obtain ⟨c, hc⟩ : ∃ c, UInt8.ofNat (48 + q % 10) = c := ⟨_, rfl⟩
            have hcv := one_byte wr q c hc
            have hh2 : Hid (q / 10 = x / 10 ^ (k + 1) ∧ c :: l = fixD (9 * i + (k + 1)) (V + 10 ^ (9 * i) * (x % 10 ^ (k + 1)))) := by
              obtain ⟨e1, e2⟩ := hh.out
              refine Lib.hid ⟨by rw [e1, Nat.pow_succ, Nat.div_div_eq_div_mul], ?_⟩
              rw [← dig_step V i x k HV.out, ← e2, ← e1, hc]
            have hll : ¬ 9223372036854775807 < 1 + l.length := by
              rw [hh.out.2, fixD_length]; omega
            clear hc hh
            go_wp2
            go_roundw
            case rel => exact ⟨k + 1, q / 10, c :: l, by omega, by go_num, by go_num, by omega, cat1 c l, hh2, hb2.alloc hb2.size _⟩
            case measure => simp [intOf]; omega
          · obtain rfl : k = 9 := by omega
            have hfin : Hid (l = fixD (9 * (i + 1)) (val ((parts n).take (i + 1))).toNat) := by
              refine Lib.hid ?_
              rw [hh.out.2, HN.out, Nat.mod_eq_of_lt (show x < 10 ^ 9 by omega)]
              rfl
            clear hh
            go_wp2
            go_roundw
            case rel => exact ⟨i + 1, by omega, by go_num, by rw [← hfin.out], hb2⟩
            case measure => simp [intOf]; omega
      · obtain rfl : i = len := by omega
        have hfin : fixD (9 * i) (val ((parts n).take i)).toNat = List.replicate (9 * i - nDigits n) 48 ++ decDigits n := by
          rw [val_take_all _ _ (by rw [Hl.out]; exact Nat.le_refl _), val_parts, Int.toNat_natCast]
          refine fixD_dec _ _ (by omega) ?_
          rw [← pow9]
          exact (parts_len n i).1 (by rw [Hl.out]; exact Nat.le_refl _)
        rw [hfin]
        obtain ⟨j, hj⟩ : ∃ j, 9 * i - nDigits n = j := ⟨_, rfl⟩
        rw [hj]
        obtain ⟨c0, r0, hd0, hc0⟩ := dec_head n (by omega)
        have hsz0 : (decDigits n).length ≤ 9 * i := by
          have := congrArg List.length hfin
          rw [fixD_length, List.length_append, List.length_replicate] at this
          omega
        have hj9 : j ≤ 9 * i := by omega
        generalize hDD : decDigits n = D at *
        have Hd0 := Lib.hid hd0
        have HDD := Lib.hid hDD
        clear hfin hj hd0 hDD
        have hhead : ∀ j, ∃ c r, List.replicate j 48 ++ D = c :: r := by
          intro j
          cases j with
          | zero => exact ⟨c0, r0, by rw [Hd0.out]; rfl⟩
          | succ j => exact ⟨48, List.replicate j 48 ++ D, rfl⟩
        obtain ⟨c1, r1, h1⟩ := hhead j
        rw [h1]
        have H1 := Lib.hid h1
        have Hh := Lib.hid hhead
        clear h1 hhead
        go_wp2
        go_loopw [3] (fun s wr => ∃ (c : UInt8) (r : List UInt8) (j' : Nat), s = .string ⟨(c :: r).toArray⟩ ∧ j' ≤ j ∧ Hid (List.replicate j' 48 ++ D = c :: r) ∧ Below w.heap.size w wr) (fun s _ => match s with | .string b => b.size | _ => 0)
        case atStart => exact ⟨c1, r1, j, rfl, Nat.le_refl _, H1, hbel⟩
        case round =>
          obtain ⟨c, r, j', rfl, hj', hh, hb3⟩ := hrel
          rcases j' with _ | j'
          · have hcc : c = c0 ∧ c :: r = D := by
              have h := hh.out
              rw [List.replicate_zero, List.nil_append] at h
              exact ⟨by rw [Hd0.out] at h; injection h with h _; exact h.symm, h.symm⟩
            obtain ⟨rfl, hD⟩ := hcc
            have hq1 : ((c.toNat : Int) == 48) = false := by
              simp only [beq_eq_false_iff_ne]
              intro e
              exact hc0 (UInt8.toNat_inj.1 (by have : (48 : UInt8).toNat = 48 := rfl; omega))
            have hq2 : (c == 48) = false := by simpa using hc0
            have HD := Lib.hid hD
            clear hh hD
            rcases r with _ | ⟨c2, r2⟩
            · go_wp2
              go_ret
              exact ⟨by rw [HDD.out, ← HD.out]; rfl, hb3⟩
            · have hq3 : ∀ h : 0 < (⟨(c :: c2 :: r2).toArray⟩ : ByteArray).size, ((((⟨(c :: c2 :: r2).toArray⟩ : ByteArray)[0]'h).toNat : Int) == 48) = false := fun _ => hq1
              go_wp2
              go_ret
              exact ⟨by rw [HDD.out, ← HD.out]; rfl, hb3⟩
          · obtain ⟨c2, r2, h2⟩ := Hh.out j'
            have hcc : c = 48 ∧ r = c2 :: r2 := by
              have h := hh.out
              rw [List.replicate_succ, List.cons_append, h2] at h
              injection h with h h'
              exact ⟨h.symm, h'.symm⟩
            obtain ⟨rfl, rfl⟩ := hcc
            have H2 := Lib.hid h2
            clear h2 hh
            have hx := cut1 48 (c2 :: r2)
            have Hx := Lib.hid hx
            clear hx
            go_wp2
            refine ⟨⟨c2, r2, j', ?_, by omega, H2, hb3⟩, ?_⟩
            · exact congrArg Value.string Hx.out
            · show ((⟨(48 :: c2 :: r2).toArray⟩ : ByteArray).extract 1 (r2.length + 1 + 1)).size < (⟨(48 :: c2 :: r2).toArray⟩ : ByteArray).size
              rw [show (⟨(48 :: c2 :: r2).toArray⟩ : ByteArray).extract 1 (r2.length + 1 + 1) = ⟨(c2 :: r2).toArray⟩ from Hx.out]
              simp [ByteArray.size]
end Go.Proofs.YtkcjjdiklodofaaGreatDoor

/- Digits, the program's and the reference's. -/
namespace Go.Proofs.YtkcjjdiklodofaaGreatDoor
open Go.RowKit
open Go.Lib (decDigits nDigits decDigits_length)

/-- How many decimal digits. -/
def digN (n : Nat) : Int := (decDigits n).length
theorem digN_top (l : Nat) (d m : Nat) (hd : 0 < d) (hm : m < 1000000000 ^ l) : digN (d * 1000000000 ^ l + m) = l * 9 + digN d := by
  unfold digN
  rw [pow9] at *
  rcases Nat.eq_zero_or_pos l with h | h
  · subst h
    obtain rfl : m = 0 := by simp at hm; omega
    simp
  · have := dec_pad (9 * l) d m (by omega) hd hm
    rw [Nat.mul_comm, this]
    have h2 := nDigits_le m (9 * l) (by omega) hm
    have h3 := decDigits_length m
    simp only [List.length_append, List.length_replicate]
    omega
set_option maxRecDepth 100000 in
set_option maxHeartbeats 1000000 in
theorem Digits_any (neg : Bool) (ao : Option Addr) (len cap : Nat) (xs : List Int) (w : World) (ht : Tab w) (hs : Sl w ao len cap xs) :
    Calls Tryz.prog 36 #[.agg #[.bool neg, .slice ao len cap]] w (RetII (if okInt neg xs then digN (val xs).toNat else 0) (errOf (okInt neg xs)) w) := by
  by_cases ho : okInt neg xs = true
  · obtain ⟨z, hz, rfl, rfl⟩ := (okInt_iff neg xs).1 ho
    have hl := hs.length
    have hlen : len ≤ 40 := by have := hz; unfold Lim at this; rwa [hl] at this
    have hck := fun w h => check_any (decide (z < 0)) ao len cap (parts z.natAbs) w h
    rw [ho] at *
    rw [if_pos rfl, val_parts, Int.toNat_natCast]
    rw [show errOf true = 0 from rfl] at *
    by_cases h0 : len = 0
    · subst h0
      have hn : z.natAbs = 0 := (parts_nil_iff _).1 (List.eq_nil_of_length_eq_zero hl)
      have hd : digN z.natAbs = 1 := by
        rw [hn]; unfold digN; rw [decDigits, dif_pos (by omega)]; rfl
      rw [hd]
      generalize decide (z < 0) = neg at *
      generalize parts z.natAbs = xs at *
      have Hck := Lib.hid hck
      clear hck ho hz hd hn hl
      go_enter Tryz.func36, Tryz.ntmps36
      go_wp2_with fail
      (with_reducible refine (Hck.out _ (hs.alloc _)).mono ?_)
      rintro e w1 ⟨rfl, b1⟩
      obtain ⟨hA, hz1, hb⟩ := kept1 _ _ b1
      obtain ⟨f1, f2, f3, f4, f5⟩ := box2 hA
      clear b1 hA
      go_wp2
      go_ret2
      exact ⟨rfl, hb⟩
    · obtain ⟨l, rfl⟩ : ∃ l, len = l + 1 := ⟨len - 1, by omega⟩
      obtain ⟨b, o, rfl, hc⟩ := hs.at (by omega)
      have hcl := hc l (by omega)
      have hdg := (parts_dig z.natAbs).getD l
      have hlast := parts_last z.natAbs
      rw [getLast_getD _ (by omega), hl, Nat.add_sub_cancel] at hlast
      obtain ⟨d, hd⟩ : ∃ d : Nat, (parts z.natAbs).getD l 0 = d := ⟨((parts z.natAbs).getD l 0).toNat, by omega⟩
      rw [hd] at hcl hdg hlast
      have hd0 : 0 < d := by
        rcases Nat.eq_zero_or_pos d with h | h
        · subst h; exact absurd rfl hlast
        · exact h
      have hN : digN z.natAbs = l * 9 + digN d := by
        have h1 := val_take_succ (parts z.natAbs) l (by omega)
        rw [val_take_all _ _ (by omega), val_parts, hd] at h1
        have h2 := val_nonneg ((parts_dig z.natAbs).take l)
        have h3 := val_lt ((parts_dig z.natAbs).take l)
        rw [List.length_take, Nat.min_eq_left (by omega)] at h3
        obtain ⟨m, hm⟩ : ∃ m : Nat, val ((parts z.natAbs).take l) = m := ⟨(val ((parts z.natAbs).take l)).toNat, by omega⟩
        rw [hm] at h1 h3
        have h4 : m < 1000000000 ^ l := Int.ofNat_lt.1 (by rw [Int.natCast_pow]; exact h3)
        have h5 : z.natAbs = d * 1000000000 ^ l + m := by
          have : ((1000000000 : Int) ^ l * d) = (((d * 1000000000 ^ l : Nat)) : Int) := by rw [Int.natCast_mul, Int.natCast_pow, Int.mul_comm]; rfl
          rw [this] at h1
          omega
        rw [h5]
        exact digN_top l d m hd0 h4
      have hit := fun w ht => itoa_any d (by omega) w ht
      have hdl : (decDigits d).length ≤ 9 := by
        rw [decDigits_length]
        exact nDigits_le d 9 (by omega) (by omega)
      rw [hN]
      unfold digN
      generalize decDigits d = D at *
      have hcell : ∀ w', Below w.heap.size w w' → w'.cell? ⟨b, o + l, none⟩ = some (.int .i64 d) := fun w' hb => (hb.cell (p := ⟨b, o + l, none⟩) (cell_lt hcl)).trans hcl
      generalize decide (z < 0) = neg at *
      generalize parts z.natAbs = xs at *
      have Hck := Lib.hid hck
      have Hit := Lib.hid hit
      have Hcell := Lib.hid hcell
      have hbd := hs.len_le
      clear hck hit hcell ho hz hl hN hc hcl hd hlast hdg
      go_enter Tryz.func36, Tryz.ntmps36
      go_wp2_with fail
      (with_reducible refine (Hck.out _ (hs.alloc _)).mono ?_)
      rintro e w1 ⟨rfl, b1⟩
      obtain ⟨hA, hz1, hb⟩ := kept1 _ _ b1
      obtain ⟨f1, f2, f3, f4, f5⟩ := box2 hA
      have ht1 := ht.below hb
      have k1 := Hcell.out _ hb
      clear b1 hA ht
      go_wp2_with fail
      (with_reducible refine (Hit.out _ ht1).mono ?_)
      rintro e w2 ⟨rfl, b2⟩
      have hb2 := hb.trans (b2.mono hb.size)
      clear b2 hb
      go_wp2
      go_ret2
      exact ⟨rfl, hb2⟩
  · have ho' : okInt neg xs = false := by simpa using ho
    have hck := fun w h => check_any neg ao len cap xs w h
    rw [ho', show errOf false = 10 from rfl] at *
    have Hck := Lib.hid hck
    clear hck ho ho'
    go_enter Tryz.func36, Tryz.ntmps36
    go_wp2_with fail
    (with_reducible refine (Hck.out _ (hs.alloc _)).mono ?_)
    rintro e w1 ⟨rfl, b1⟩
    have hb := (kept1 _ _ b1).2.2
    clear b1
    go_wp2
    go_ret2
    exact ⟨rfl, hb⟩
set_option maxRecDepth 100000 in
set_option maxHeartbeats 1000000 in
theorem refDigits_any (neg : Bool) (ao : Option Addr) (len cap : Nat) (xs : List Int) (w : World) (hs : Sl w ao len cap xs) :
    Calls Tryz.prog 37 #[.agg #[.bool neg, .slice ao len cap]] w (RetII (if okInt neg xs then digN (val xs).toNat else 0) (errOf (okInt neg xs)) w) := by
  by_cases ho : okInt neg xs = true
  · obtain ⟨z, hz, rfl, rfl⟩ := (okInt_iff neg xs).1 ho
    have hlen : len ≤ 40 := by have := hz; unfold Lim at this; rwa [hs.length] at this
    have his := fun w h => is_any (decide (z < 0)) ao len cap (parts z.natAbs) w h
    have hdg := fun w h => digits_any z.natAbs ao len cap w h (by omega)
    rw [ho] at *
    rw [if_pos rfl, val_parts, Int.toNat_natCast]
    unfold digN
    generalize decDigits z.natAbs = D at *
    generalize decide (z < 0) = neg at *
    generalize parts z.natAbs = xs at *
    have His := Lib.hid his
    have Hdg := Lib.hid hdg
    clear his hdg ho hz
    go_enter Tryz.func37, Tryz.ntmps37
    go_wp2_with fail
    (with_reducible refine (His.out _ (hs.alloc _)).mono ?_)
    rintro e w1 ⟨rfl, b1⟩
    obtain ⟨hA, hz1, hb⟩ := kept1 _ _ b1
    obtain ⟨f1, f2, f3, f4, f5⟩ := box2 hA
    have s1 := hs.below hb
    clear b1 hA
    go_wp2_with fail
    (with_reducible refine (Hdg.out _ s1).mono ?_)
    rintro e w2 ⟨rfl, b2⟩
    have hb2 := hb.trans (b2.mono hb.size)
    clear b2 hb
    go_wp2
    go_ret2
    exact ⟨rfl, hb2⟩
  · have ho' : okInt neg xs = false := by simpa using ho
    have his := fun w h => is_any neg ao len cap xs w h
    rw [ho'] at *
    have His := Lib.hid his
    clear his ho ho'
    go_enter Tryz.func37, Tryz.ntmps37
    go_wp2_with fail
    (with_reducible refine (His.out _ (hs.alloc _)).mono ?_)
    rintro e w1 ⟨rfl, b1⟩
    have hb := (kept1 _ _ b1).2.2
    clear b1
    go_wp2
    go_ret2
    exact ⟨rfl, hb⟩
end Go.Proofs.YtkcjjdiklodofaaGreatDoor

/- The walk of NumCompares. -/
namespace Go.Proofs.YtkcjjdiklodofaaGreatDoor
open Go.RowKit

theorem few2 (n1 : Bool) (a1 : Option Addr) (l1 c1 : Nat) (n2 : Bool) (a2 : Option Addr) (l2 c2 : Nat) (w : World) (g : Nat) (hg : w.heap[g]? = some (.cells #[.bool n1, .slice a1 l1 c1, .bool n2, .slice a2 l2 c2] 24 (0, 0))) (r : Bool) (hr : (!(decide (100 < l1) || decide (100 < l2))) = r) :
    Calls Tryz.prog 17 #[.slice (some ⟨g, 0, none⟩) 2 2] w (RetBool r w) := by
  have := few_any g [⟨n1, a1, l1, c1, []⟩, ⟨n2, a2, l2, c2, []⟩] w hg (by simp)
  rw [show (List.any [(⟨n1, a1, l1, c1, []⟩ : Dat), ⟨n2, a2, l2, c2, []⟩] fun d => decide (100 < d.len)) = (decide (100 < l1) || decide (100 < l2)) by simp, hr] at this
  exact this
set_option maxRecDepth 100000 in
set_option maxHeartbeats 4000000 in
theorem compares_long (na : Bool) (aa : Option Addr) (la ca : Nat) (xa : List Int) (nb : Bool) (ab : Option Addr) (lb cb : Nat) (xb : List Int) (w : World) (ht : Tab w) (sa : Sl w aa la ca xa) (sb : Sl w ab lb cb xb) (hr : (!(decide (100 < la) || decide (100 < lb))) = false) : Calls Tryz.prog 4 #[.agg #[.bool na, .slice aa la ca], .agg #[.bool nb, .slice ab lb cb]] w (RetBool true w) := by
  have Hf := Lib.hid (fun w g hg => few2 na aa la ca nb ab lb cb w g hg false hr)
  clear hr
  go_enter Tryz.func4, Tryz.ntmps4
  have U0 := Below.refl w.heap.size w
  go_wp2_with fail
  replace U0 := U0.alloc U0.size (.cells #[.bool na, .slice aa la ca] 24)
  replace ht := ht.alloc (.cells #[.bool na, .slice aa la ca] 24)
  replace sa := sa.alloc (.cells #[.bool na, .slice aa la ca] 24)
  replace sb := sb.alloc (.cells #[.bool na, .slice aa la ca] 24)
  have Ta := BoxI.new w (w.heap.size) (by first | rfl | simp) na aa la ca
  have cTa0 := Ta.cells.1
  have cTa1 := Ta.cells.2
  have zTa := Ta.lt
  replace U0 := U0.alloc U0.size (.cells #[.bool nb, .slice ab lb cb] 24)
  replace ht := ht.alloc (.cells #[.bool nb, .slice ab lb cb] 24)
  replace sa := sa.alloc (.cells #[.bool nb, .slice ab lb cb] 24)
  replace sb := sb.alloc (.cells #[.bool nb, .slice ab lb cb] 24)
  replace Ta := Ta.alloc (.cells #[.bool nb, .slice ab lb cb] 24)
  replace cTa0 := Ta.cells.1
  replace cTa1 := Ta.cells.2
  replace zTa := Ta.lt
  have Tb := BoxI.new (w.alloc (.cells #[.bool na, .slice aa la ca] 24)) (w.heap.size + 1) (by first | rfl | simp) nb ab lb cb
  have cTb0 := Tb.cells.1
  have cTb1 := Tb.cells.2
  have zTb := Tb.lt
  (with_reducible refine (sane_any _ (by exact ht)).mono ?_)
  rintro e w1 ⟨rfl, b1⟩
  replace U0 := U0.trans (b1.mono U0.size)
  replace ht := ht.below b1
  replace sa := sa.below b1
  replace sb := sb.below b1
  replace Ta := Ta.below b1
  replace Tb := Tb.below b1
  replace cTa0 := Ta.cells.1
  replace cTa1 := Ta.cells.2
  replace zTa := Ta.lt
  replace cTb0 := Tb.cells.1
  replace cTb1 := Tb.cells.2
  replace zTb := Tb.lt
  clear b1
  go_wp2_with fail
  replace U0 := U0.alloc U0.size (.cells #[.bool na, .slice aa la ca, .bool nb, .slice ab lb cb] 24)
  replace ht := ht.alloc (.cells #[.bool na, .slice aa la ca, .bool nb, .slice ab lb cb] 24)
  replace sa := sa.alloc (.cells #[.bool na, .slice aa la ca, .bool nb, .slice ab lb cb] 24)
  replace sb := sb.alloc (.cells #[.bool na, .slice aa la ca, .bool nb, .slice ab lb cb] 24)
  replace Ta := Ta.alloc (.cells #[.bool na, .slice aa la ca, .bool nb, .slice ab lb cb] 24)
  replace Tb := Tb.alloc (.cells #[.bool na, .slice aa la ca, .bool nb, .slice ab lb cb] 24)
  replace cTa0 := Ta.cells.1
  replace cTa1 := Ta.cells.2
  replace zTa := Ta.lt
  replace cTb0 := Tb.cells.1
  replace cTb1 := Tb.cells.2
  replace zTb := Tb.lt
  (with_reducible refine (Hf.out _ _ (heap_new _ _)).mono ?_)
  rintro e w2 ⟨rfl, b2⟩
  replace U0 := U0.trans (b2.mono U0.size)
  replace ht := ht.below b2
  replace sa := sa.below b2
  replace sb := sb.below b2
  replace Ta := Ta.below b2
  replace Tb := Tb.below b2
  replace cTa0 := Ta.cells.1
  replace cTa1 := Ta.cells.2
  replace zTa := Ta.lt
  replace cTb0 := Tb.cells.1
  replace cTb1 := Tb.cells.2
  replace zTb := Tb.lt
  clear b2
  go_wp2
  go_ret
  exact ⟨rfl, U0⟩

set_option maxRecDepth 100000 in
set_option maxHeartbeats 4000000 in
theorem compares_few (na : Bool) (aa : Option Addr) (la ca : Nat) (xa : List Int) (nb : Bool) (ab : Option Addr) (lb cb : Nat) (xb : List Int) (w : World) (ht : Tab w) (sa : Sl w aa la ca xa) (sb : Sl w ab lb cb xb) (hr : (!(decide (100 < la) || decide (100 < lb))) = true) : Calls Tryz.prog 4 #[.agg #[.bool na, .slice aa la ca], .agg #[.bool nb, .slice ab lb cb]] w (RetBool true w) := by
  have Hf := Lib.hid (fun w g hg => few2 na aa la ca nb ab lb cb w g hg true hr)
  have hla := sa.len_le
  have D1 := fun w ht hs => Digits_any na aa la ca xa w ht hs
  have D2 := fun w hs => refDigits_any na aa la ca xa w hs
  have C1 := fun w ha hb => compare_any na aa la ca xa nb ab lb cb xb w ha hb
  have C2 := fun w ha hb => refCompare_any na aa la ca xa nb ab lb cb xb w ha hb
  have S1 := fun w => sign_any na aa la ca w (by omega)
  have S2 := fun w => refSign_any na aa la ca w (by omega)
  generalize (if okInt na xa then digN (val xa).toNat else 0) = dn at *
  generalize errOf (okInt na xa) = de at *
  generalize cmpI na xa nb xb = cv at *
  generalize signOf na la = sv at *
  have D1 := Lib.hid D1
  have D2 := Lib.hid D2
  have C1 := Lib.hid C1
  have C2 := Lib.hid C2
  have S1 := Lib.hid S1
  have S2 := Lib.hid S2
  have q1 : (cv == cv) = true := by simp
  have q2 : (sv == sv) = true := by simp
  have q3 : (dn == dn) = true := by simp
  have q4 : (de == de) = true := by simp
  clear hr hla
  go_enter Tryz.func4, Tryz.ntmps4
  have U0 := Below.refl w.heap.size w
  go_wp2_with fail
  replace U0 := U0.alloc U0.size (.cells #[.bool na, .slice aa la ca] 24)
  replace ht := ht.alloc (.cells #[.bool na, .slice aa la ca] 24)
  replace sa := sa.alloc (.cells #[.bool na, .slice aa la ca] 24)
  replace sb := sb.alloc (.cells #[.bool na, .slice aa la ca] 24)
  have Ta := BoxI.new w (w.heap.size) (by first | rfl | simp) na aa la ca
  have cTa0 := Ta.cells.1
  have cTa1 := Ta.cells.2
  have zTa := Ta.lt
  replace U0 := U0.alloc U0.size (.cells #[.bool nb, .slice ab lb cb] 24)
  replace ht := ht.alloc (.cells #[.bool nb, .slice ab lb cb] 24)
  replace sa := sa.alloc (.cells #[.bool nb, .slice ab lb cb] 24)
  replace sb := sb.alloc (.cells #[.bool nb, .slice ab lb cb] 24)
  replace Ta := Ta.alloc (.cells #[.bool nb, .slice ab lb cb] 24)
  replace cTa0 := Ta.cells.1
  replace cTa1 := Ta.cells.2
  replace zTa := Ta.lt
  have Tb := BoxI.new (w.alloc (.cells #[.bool na, .slice aa la ca] 24)) (w.heap.size + 1) (by first | rfl | simp) nb ab lb cb
  have cTb0 := Tb.cells.1
  have cTb1 := Tb.cells.2
  have zTb := Tb.lt
  (with_reducible refine (sane_any _ (by exact ht)).mono ?_)
  rintro e w1 ⟨rfl, b1⟩
  replace U0 := U0.trans (b1.mono U0.size)
  replace ht := ht.below b1
  replace sa := sa.below b1
  replace sb := sb.below b1
  replace Ta := Ta.below b1
  replace Tb := Tb.below b1
  replace cTa0 := Ta.cells.1
  replace cTa1 := Ta.cells.2
  replace zTa := Ta.lt
  replace cTb0 := Tb.cells.1
  replace cTb1 := Tb.cells.2
  replace zTb := Tb.lt
  clear b1
  go_wp2_with fail
  replace U0 := U0.alloc U0.size (.cells #[.bool na, .slice aa la ca, .bool nb, .slice ab lb cb] 24)
  replace ht := ht.alloc (.cells #[.bool na, .slice aa la ca, .bool nb, .slice ab lb cb] 24)
  replace sa := sa.alloc (.cells #[.bool na, .slice aa la ca, .bool nb, .slice ab lb cb] 24)
  replace sb := sb.alloc (.cells #[.bool na, .slice aa la ca, .bool nb, .slice ab lb cb] 24)
  replace Ta := Ta.alloc (.cells #[.bool na, .slice aa la ca, .bool nb, .slice ab lb cb] 24)
  replace Tb := Tb.alloc (.cells #[.bool na, .slice aa la ca, .bool nb, .slice ab lb cb] 24)
  replace cTa0 := Ta.cells.1
  replace cTa1 := Ta.cells.2
  replace zTa := Ta.lt
  replace cTb0 := Tb.cells.1
  replace cTb1 := Tb.cells.2
  replace zTb := Tb.lt
  (with_reducible refine (Hf.out _ _ (heap_new _ _)).mono ?_)
  rintro e w2 ⟨rfl, b2⟩
  replace U0 := U0.trans (b2.mono U0.size)
  replace ht := ht.below b2
  replace sa := sa.below b2
  replace sb := sb.below b2
  replace Ta := Ta.below b2
  replace Tb := Tb.below b2
  replace cTa0 := Ta.cells.1
  replace cTa1 := Ta.cells.2
  replace zTa := Ta.lt
  replace cTb0 := Tb.cells.1
  replace cTb1 := Tb.cells.2
  replace zTb := Tb.lt
  clear b2
  go_wp2_with fail
  (with_reducible refine (D1.out _ (by exact ht) (by exact sa)).mono ?_)
  rintro e w3 ⟨rfl, b3⟩
  replace U0 := U0.trans (b3.mono U0.size)
  replace ht := ht.below b3
  replace sa := sa.below b3
  replace sb := sb.below b3
  replace Ta := Ta.below b3
  replace Tb := Tb.below b3
  replace cTa0 := Ta.cells.1
  replace cTa1 := Ta.cells.2
  replace zTa := Ta.lt
  replace cTb0 := Tb.cells.1
  replace cTb1 := Tb.cells.2
  replace zTb := Tb.lt
  clear b3
  go_wp2_with fail
  (with_reducible refine (D2.out _ (by exact sa)).mono ?_)
  rintro e w4 ⟨rfl, b4⟩
  replace U0 := U0.trans (b4.mono U0.size)
  replace ht := ht.below b4
  replace sa := sa.below b4
  replace sb := sb.below b4
  replace Ta := Ta.below b4
  replace Tb := Tb.below b4
  replace cTa0 := Ta.cells.1
  replace cTa1 := Ta.cells.2
  replace zTa := Ta.lt
  replace cTb0 := Tb.cells.1
  replace cTb1 := Tb.cells.2
  replace zTb := Tb.lt
  clear b4
  go_wp2
  replace U0 := U0.drew
  replace ht := ht.drew
  replace sa := sa.drew
  replace sb := sb.drew
  replace Ta := Ta.drew
  replace Tb := Tb.drew
  replace cTa0 := Ta.cells.1
  replace cTa1 := Ta.cells.2
  replace zTa := Ta.lt
  replace cTb0 := Tb.cells.1
  replace cTb1 := Tb.cells.2
  replace zTb := Tb.lt
  clear ht
  go_region_held3 (fun w' => (w'.cell? ⟨w.heap.size, 0, none⟩ = some (.bool na) ∧ w'.cell? ⟨w.heap.size, 1, none⟩ = some (.slice aa la ca)) ∧ (w'.cell? ⟨w.heap.size + 1, 0, none⟩ = some (.bool nb) ∧ w'.cell? ⟨w.heap.size + 1, 1, none⟩ = some (.slice ab lb cb))) (first | with_reducible exact ⟨⟨cTa0, cTa1⟩, ⟨cTb0, cTb1⟩⟩ | exact ⟨⟨cTa0, cTa1⟩, ⟨cTb0, cTb1⟩⟩) (first | (go_at_call 38; (with_reducible refine (C1.out _ sa sb).mono ?_); rintro e wq ⟨rfl, bq⟩; replace U0 := U0.trans (bq.mono U0.size); replace sa := sa.below bq; replace sb := sb.below bq; replace Ta := Ta.below bq; replace Tb := Tb.below bq; replace cTa0 := Ta.cells.1; replace cTa1 := Ta.cells.2; replace zTa := Ta.lt; replace cTb0 := Tb.cells.1; replace cTb1 := Tb.cells.2; replace zTb := Tb.lt; clear bq) | (go_at_call 39; (with_reducible refine (C2.out _ sa sb).mono ?_); rintro e wq ⟨rfl, bq⟩; replace U0 := U0.trans (bq.mono U0.size); replace sa := sa.below bq; replace sb := sb.below bq; replace Ta := Ta.below bq; replace Tb := Tb.below bq; replace cTa0 := Ta.cells.1; replace cTa1 := Ta.cells.2; replace zTa := Ta.lt; replace cTb0 := Tb.cells.1; replace cTb1 := Tb.cells.2; replace zTb := Tb.lt; clear bq) | (go_at_call 40; (with_reducible refine (S1.out _).mono ?_); rintro e wq ⟨rfl, bq⟩; replace U0 := U0.trans (bq.mono U0.size); replace sa := sa.below bq; replace sb := sb.below bq; replace Ta := Ta.below bq; replace Tb := Tb.below bq; replace cTa0 := Ta.cells.1; replace cTa1 := Ta.cells.2; replace zTa := Ta.lt; replace cTb0 := Tb.cells.1; replace cTb1 := Tb.cells.2; replace zTb := Tb.lt; clear bq) | (go_at_call 41; (with_reducible refine (S2.out _).mono ?_); rintro e wq ⟨rfl, bq⟩; replace U0 := U0.trans (bq.mono U0.size); replace sa := sa.below bq; replace sb := sb.below bq; replace Ta := Ta.below bq; replace Tb := Tb.below bq; replace cTa0 := Ta.cells.1; replace cTa1 := Ta.cells.2; replace zTa := Ta.lt; replace cTb0 := Tb.cells.1; replace cTb1 := Tb.cells.2; replace zTb := Tb.lt; clear bq))
  all_goals go_wp2
  all_goals go_ret
  all_goals exact ⟨rfl, U0⟩

theorem numCompares_any (na : Bool) (aa : Option Addr) (la ca : Nat) (xa : List Int) (nb : Bool) (ab : Option Addr) (lb cb : Nat) (xb : List Int) (w : World) (ht : Tab w) (sa : Sl w aa la ca xa) (sb : Sl w ab lb cb xb) : Calls Tryz.prog 4 #[.agg #[.bool na, .slice aa la ca], .agg #[.bool nb, .slice ab lb cb]] w (RetBool true w) := by
  cases hr : (!(decide (100 < la) || decide (100 < lb)))
  · exact compares_long na aa la ca xa nb ab lb cb xb w ht sa sb hr
  · exact compares_few na aa la ca xa nb ab lb cb xb w ht sa sb hr
end Go.Proofs.YtkcjjdiklodofaaGreatDoor

/- NumCompares: for every input the law answers true, and each argument reads afterwards as it read before. Condition: the table of the powers of ten lies as the program's text lays it (tied by the card). -/
namespace Go.Proofs.YtkcjjdiklodofaaGreatDoor.lawNumCompares
open Go.ChangeShapes Go.WideShapes Go.ChangeAt Go.RowKit

theorem door_met (os : Os) (args : Array Value) : laidMetH Tryz.prog Rows.numComparesRow.laid ((World.doorLaid Tryz.prog 24 os).forCall (fun _ _ => 0) ⟨#[], args, []⟩).memory :=
  laidMetH_of_parts3 (fuel := 8) (laidMet_of_run' 8 (by kernel_rfl) (by kernel_rfl)) (by kernel_rfl) (by kernel_rfl)

set_option maxRecDepth 100000 in
theorem lifted (os : Os) (started : os.Started) (H : Type) (enc : TypeId × Value → H) :
    ReturnsInHanded {} Tryz.checked os 4 .any (fun w args => (Rows.numComparesSpec.pre enc Tryz.prog Tryz.f4 [] false w args ∧ laidMetH Tryz.prog Rows.numComparesRow.laid w) ∧ sizedMet enc Tryz.prog Tryz.f4 (OpenSpec.ofChange Rows.numComparesSpec) false w args)
      (Rows.numComparesSpec.post enc Tryz.prog Tryz.f4 false true false false) := by
  refine returnsInHanded_of_change_and (C := Tryz.checked) (X := fun w _ => laidMetH Tryz.prog Rows.numComparesRow.laid w) (fun _ _ _ hh h => h.of_heap hh) lift_own started (by kernel_rfl) Tryz.func4
    (ChangeSpec.witness_shaped (enc := enc) (C := Tryz.checked) (os := os) (X := fun w _ => laidMetH Tryz.prog Rows.numComparesRow.laid w) false (World.doorLaid Tryz.prog 24 os) #[.agg #[.bool false, .slice none 0 0], .agg #[.bool false, .slice none 0 0]] 8 rfl (World.shaped_of_RefB (by kernel_rfl) (by kernel_rfl)) (by kernel_rfl) (by kernel_rfl) (by kernel_rfl) (door_met os _)) ?_
  intro W base args ds gs before hval0 hW _ _ hL _
  have hval : ∀ (j : Nat) t v, Tryz.f4.params[j]? = some t → args[j]? = some v → Value.okWide Tryz.prog W .any base t v := hval0
  have hW' := hW
  obtain ⟨p, q, hA0, hV, rfl, hfz, hnd⟩ := hW
  have hA : DataW.TrodAll enc Tryz.prog W 0 (fun _ => true) true Tryz.f4.params.toList args.toList ds p := hA0
  rw [Tryz.params4] at hA hval
  clear hA0 hval0
  obtain ⟨v0, vs0, d0, ds0, p0, q0, hargs, rfl, rfl, h0, r0⟩ := trodAll_cons hA
  obtain ⟨v1, vs1, d1, ds1, p1, q1, rfl, rfl, rfl, h1, r1⟩ := trodAll_cons r0
  obtain ⟨rfl, rfl, rfl⟩ := trodAll_nil r1
  obtain rfl : args = #[v0, v1] := by cases args; simp_all
  obtain ⟨rfl, rfl⟩ := trodVars_none hV
  obtain ⟨n0, ao0, len0, cap0, xs0, rfl, s0⟩ := open_I (hval 0 24 v0 rfl rfl) h0
  obtain ⟨n1, ao1, len1, cap1, xs1, rfl, s1⟩ := open_I (hval 1 24 v1 rfl rfl) h1
  simp only [List.append_nil] at hW'
  refine (numCompares_any n0 ao0 len0 cap0 xs0 n1 ao1 len1 cap1 xs1 W (lift_tab hL) s0 s1).mono fun e W' ⟨he, hg⟩ => ?_
  subst he
  have hlt : ∀ x ∈ p0 ++ (p1), x.block < W.heap.size := fun x hx => hW'.lt x hx
  have in0 : ∀ x ∈ p0, x ∈ p0 ++ (p1) := fun x hx => by simp [hx]
  have in1 : ∀ x ∈ p1, x ∈ p0 ++ (p1) := fun x hx => by simp [hx]
  exact ⟨_, rfl, post_of_below (pv := []) hW' (fun _ _ _ => (trodAll_cons_mk (shut_bool Tryz.underlying4 _) trodAll_mk0)) (fun sp hsp => (trodAll_cons_mk (again_I h0 hg (fun x hx => hlt x (in0 x hx)) (fun x hx => hsp x (in0 x hx))) (trodAll_cons_mk (again_I h1 hg (fun x hx => hlt x (in1 x hx)) (fun x hx => hsp x (in1 x hx))) trodAll_mk0))) (fun _ _ => rfl) (by simp)
    hg (ok_one (by kernel_rfl) rfl (okWide_bool_mk Tryz.underlying4 _))⟩

theorem over : Rows.numComparesRow.holds Tryz.pinned (OpenSpec.ofChange Rows.numComparesSpec) :=
  OpenClaim.holds_of_wide 4 Tryz.f4 rfl rfl rfl rfl rfl rfl rfl ⟨rfl, rfl, rfl, rfl, rfl⟩ rfl rfl rfl rfl rfl (by kernel_rfl) Tryz.func4 (by kernel_rfl)
    (of_decide_eq_true (by kernel_rfl)) (by unfold Func.isWrapper; first | (rw [if_pos (by decide +kernel)]; kernel_rfl) | (rw [if_neg (by decide +kernel)]; exact ⟨rfl, rfl⟩))
    (fun os started H enc _ => lifted os started H enc)

theorem plain (f : FuncId) (fn : Func) (hf : Tryz.pinned.checked.prog.funcNamed "foregone/foregonelaw01.NumCompares" = some f) (hfn : Tryz.pinned.checked.prog.funcs[f]? = some fn) :
    false = Tryz.pinned.checked.prog.looks [] ∧ ∀ (j : Nat) t, fn.params[j]? = some t → Tryz.pinned.checked.prog.wantsStandIn t = false := by
  obtain rfl : f = 4 := Option.some.inj ((show Tryz.prog.funcNamed "foregone/foregonelaw01.NumCompares" = some 4 by kernel_rfl).symm.trans hf) |>.symm
  obtain rfl : fn = Tryz.f4 := (Option.some.inj (Tryz.func4.symm.trans hfn)).symm
  refine ⟨by kernel_rfl, fun j t ht => ?_⟩
  rw [Tryz.params4] at ht
  have hm : t ∈ [24] := by simpa using Array.mem_of_getElem? ht
  have hall : ([24].all fun u => !Tryz.prog.wantsStandIn u) = true := by kernel_rfl
  exact (show Tryz.prog.wantsStandIn t = false by simpa using List.all_eq_true.1 hall t hm)

theorem card : Rows.NumComparesCardSaid :=
  Claim7.holds_tied_plain_at .later [] _ _ _ _ over (fun _ h => by cases h) (by kernel_rfl) (fun _ h => by cases h) numCompares_row_tie rfl ⟨rfl, rfl⟩ (by kernel_rfl) rfl plain (by kernel_rfl)
end Go.Proofs.YtkcjjdiklodofaaGreatDoor.lawNumCompares

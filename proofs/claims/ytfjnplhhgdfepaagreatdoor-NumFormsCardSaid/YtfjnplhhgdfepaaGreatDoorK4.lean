/- Contracts of the functions of package num and of the law's helpers, part 4: each call ends and hands back what its contract says, for all arguments within the contract's premises. -/
import Derived.BigQuiet
import Derived.Deep.QuietTactic
import Derived.Lib.ItoaNum
import Derived.Test.YtfjnplhhgdfepaaGreatDoorK3
set_option linter.all false

/- takeOut: one part of a quotient. -/
namespace Go.Proofs.YtfjnplhhgdfepaaGreatDoor
open Go.RowKit

theorem drop_diff {L Z : List Int} {i : Nat} (hl : Z.length = L.length) (hp : ∀ j, j < i → Z.getD j 0 = L.getD j 0) (hi : i ≤ L.length) (d : Int) (hv : val Z = val L + 1000000000 ^ i * d) : val (Z.drop i) = val (L.drop i) + d := by
  have h1 := val_drop L i hi
  have h2 := val_drop Z i (by omega)
  rw [take_eq i hl hp] at h2
  have hP := pow_pos' i
  generalize (1000000000 : Int) ^ i = P at *
  have h3 : P * val (Z.drop i) = P * (val (L.drop i) + d) := by rw [Int.mul_add]; omega
  exact Int.eq_of_mul_eq_mul_left (by omega) h3

/-- What takeOut works on: a window of n + 1 parts of a row from place i on, and a divisor of n parts. -/
structure Win (L ys : List Int) (i n : Nat) : Prop where
  n2 : 2 ≤ n
  fits : i + n < L.length
  dl : Dig L
  dy : Dig ys
  ly : ys.length = n
  top : 500000000 ≤ ys.getD (n - 1) 0
  small : val (L.drop i) < 1000000000 * val ys

theorem Win.zero {L ys : List Int} {i n : Nat} (h : Win L ys i n) : val (L.drop (i + n + 1)) = 0 := by
  have h1 := val_win L i n h.fits
  have h2 := h.small
  have h3 := val_lt h.dy
  rw [h.ly] at h3
  have h4 := val_nonneg (h.dl.drop (i + n + 1))
  have h5 := val_nonneg ((h.dl.drop i).take n)
  have h6 := h.dl.getD (i + n)
  have hP := pow_pos' n
  generalize (1000000000 : Int) ^ n = P at *
  generalize val (L.drop (i + n + 1)) = r at *
  generalize L.getD (i + n) 0 = t at *
  rcases Int.lt_trichotomy r 0 with h7 | h7 | h7
  · omega
  · exact h7
  · have h8 : P * 1000000000 ≤ P * (t + 1000000000 * r) := Int.mul_le_mul_of_nonneg_left (by omega) (by omega)
    omega
/-- The window's value and the divisor's, taken apart. -/
theorem Win.split {L ys : List Int} {i n : Nat} (h : Win L ys i n) : ∃ P a b : Int, 0 < P ∧ 0 ≤ a ∧ a < P ∧ 0 ≤ b ∧ b < P ∧
    val (L.drop i) = (L.getD (i + n) 0 * 1000000000 + L.getD (i + (n - 1)) 0) * (P * 1000000000) + L.getD (i + (n - 2)) 0 * P + a ∧
    val ys = ys.getD (n - 1) 0 * (P * 1000000000) + ys.getD (n - 2) 0 * P + b := by
  obtain ⟨m, rfl⟩ : ∃ m, n = m + 2 := ⟨n - 2, by have := h.n2; omega⟩
  have hf := h.fits
  have hly := h.ly
  have hz := h.zero
  simp only [show m + 2 - 1 = m + 1 by omega, show m + 2 - 2 = m by omega]
  have h1 := val_win L i m (by omega)
  have h2 := val_drop_succ L (i + m + 1) (by omega)
  have h3 := val_drop_succ L (i + m + 2) (by omega)
  rw [show i + (m + 2) + 1 = i + m + 2 + 1 by omega] at hz
  rw [hz] at h3
  have h4 := val_drop ys m (by omega)
  have h5 := val_drop_succ ys m (by omega)
  have h6 := val_drop_succ ys (m + 1) (by omega)
  rw [List.drop_eq_nil_of_le (show ys.length ≤ m + 1 + 1 by omega)] at h6
  simp only [val] at h6
  have hda : Dig ((L.drop i).take m) := (h.dl.drop i).take m
  have ha := val_lt hda
  rw [List.length_take, List.length_drop, Nat.min_eq_left (by omega)] at ha
  have hdb : Dig (ys.take m) := h.dy.take m
  have hb := val_lt hdb
  rw [List.length_take, Nat.min_eq_left (by omega)] at hb
  refine ⟨1000000000 ^ m, _, _, pow_pos' m, val_nonneg hda, ha, val_nonneg hdb, hb, ?_, ?_⟩
  · rw [h1, h2, h3, show i + (m + 2) = i + m + 2 by omega, show i + (m + 1) = i + m + 1 by omega]
    grind
  · rw [h4, h5, h6]; grind
theorem Win.top_le {L ys : List Int} {i n : Nat} (h : Win L ys i n) : L.getD (i + n) 0 ≤ ys.getD (n - 1) 0 := by
  obtain ⟨P, a, b, hP, ha0, ha1, hb0, hb1, hu, hv⟩ := h.split
  have h1 := h.small
  have h2 := h.dy.getD (n - 2)
  have h3 := h.dl.getD (i + (n - 1))
  have h4 := h.dl.getD (i + (n - 2))
  rw [hu, hv] at h1
  generalize L.getD (i + n) 0 = u1 at *
  generalize L.getD (i + (n - 1)) 0 = u0 at *
  generalize L.getD (i + (n - 2)) 0 = u2 at *
  generalize ys.getD (n - 1) 0 = v1 at *
  generalize ys.getD (n - 2) 0 = v2 at *
  rcases Int.lt_or_le v1 u1 with hlt | hle
  · have e1 : (v1 + 1) * 1000000000 * (P * 1000000000) ≤ (u1 * 1000000000 + u0) * (P * 1000000000) := Int.mul_le_mul_of_nonneg_right (by omega) (by omega)
    have e2 : v2 * P ≤ 999999999 * P := Int.mul_le_mul_of_nonneg_right (by omega) (by omega)
    have e3 : 0 ≤ u2 * P := Int.mul_nonneg h4.1 (by omega)
    have e4 : (v1 + 1) * 1000000000 * (P * 1000000000) = 1000000000 * (v1 * (P * 1000000000)) + 1000000000 * (P * 1000000000) := by grind
    omega
  · exact hle

/-- What the loop of guesses keeps. -/
def Guess (u v top v1 t o : Int) : Prop := t * v1 + o = top ∧ 0 ≤ t ∧ t ≤ 1000000001 ∧ 0 ≤ o ∧ u < (t + 1) * v

/-- What takeOut leaves. -/
def Took (L ys : List Int) (i : Nat) (q : Int) (L' : List Int) : Prop :=
  L'.length = L.length ∧ Dig L' ∧ (∀ j, j < i → L'.getD j 0 = L.getD j 0) ∧ val (L'.drop i) = val (L.drop i) - q * val ys ∧ val (L'.drop i) < val ys ∧ 0 ≤ q ∧ q < 1000000000

theorem q_lt {u v q : Int} (hv : 0 < v) (h0 : 0 ≤ u - q * v) (h1 : u < 1000000000 * v) : q < 1000000000 := by
  rcases Int.lt_or_le q 1000000000 with h | h
  · exact h
  · have := Int.mul_le_mul_of_nonneg_right h (show 0 ≤ v by omega)
    omega
theorem Win.vpos {L ys : List Int} {i n : Nat} (h : Win L ys i n) : 0 < val ys := by
  obtain ⟨P, a, b, hP, ha0, ha1, hb0, hb1, hu, hv⟩ := h.split
  have h1 := h.top
  have h2 := h.dy.getD (n - 2)
  have h3 : 500000000 * (P * 1000000000) ≤ ys.getD (n - 1) 0 * (P * 1000000000) := Int.mul_le_mul_of_nonneg_right h1 (by omega)
  have h4 : 0 ≤ ys.getD (n - 2) 0 * P := Int.mul_nonneg h2.1 (by omega)
  omega
theorem Win.vlt {L ys : List Int} {i n : Nat} (h : Win L ys i n) : val ys < 1000000000 ^ n := by have := val_lt h.dy; rwa [h.ly] at this

/-- Behind subtractTimes: the top tells the sign. -/
theorem took_sub {L ys : List Int} {i n : Nat} (h : Win L ys i n) {t c : Int} {Z : List Int} (hs : SubT L ys i t n c Z) (ht0 : 0 ≤ t) (hlo : -val ys < val (L.drop i) - t * val ys) (hhi : val (L.drop i) < (t + 1) * val ys) :
    ((Z.set (i + n) (Z.getD (i + n) 0 - c)).getD (i + n) 0 < 0 → 0 < t ∧
      ∀ c' Z', AddB (Z.set (i + n) (Z.getD (i + n) 0 - c)) ys i n c' Z' → Took L ys i (t - 1) (Z'.set (i + n) (Z'.getD (i + n) 0 + c'))) ∧
    (¬ (Z.set (i + n) (Z.getD (i + n) 0 - c)).getD (i + n) 0 < 0 → Took L ys i t (Z.set (i + n) (Z.getD (i + n) 0 - c))) ∧
    (∀ j, j ≠ i + n → 0 ≤ (Z.set (i + n) (Z.getD (i + n) 0 - c)).getD j 0 ∧ (Z.set (i + n) (Z.getD (i + n) 0 - c)).getD j 0 < 1000000000) ∧
    -1000000000 ≤ (Z.set (i + n) (Z.getD (i + n) 0 - c)).getD (i + n) 0 ∧ (Z.set (i + n) (Z.getD (i + n) 0 - c)).getD (i + n) 0 ≤ 1000000000 ∧ (Z.set (i + n) (Z.getD (i + n) 0 - c)).length = L.length := by
  obtain ⟨f1, f2, f3, f4⟩ := hs.finish h.ly h.fits h.dl
  generalize hM : Z.set (i + n) (Z.getD (i + n) 0 - c) = M at *
  have hf := h.fits
  have hv := h.vpos
  have hvl := h.vlt
  have hz := h.zero
  have hd := drop_diff f1 (fun j hj => f2 j (.inl hj)) (by omega) (-(t * val ys)) (by rw [f4]; grind)
  have hz' : val (M.drop (i + n + 1)) = 0 := by
    rw [drop_eq (i + n + 1) f1 (fun j hj => f2 j (.inr (by omega)))]; exact hz
  obtain ⟨s1, s2⟩ := win_sign M i n (by omega) f3 hz'
  have hw := val_win M i n (by omega)
  rw [hz'] at hw
  have hlow : Dig ((M.drop i).take n) := by
    rw [dig_iff]
    intro j
    by_cases hj : j < n
    · rw [getD_take _ _ _ hj, getD_drop]; exact f3 _ (by omega)
    · rw [getD_of_ge _ _ (by simp; omega)]; omega
  have hl1 := val_nonneg hlow
  have hl2 := val_lt hlow
  rw [List.length_take, List.length_drop, Nat.min_eq_left (by omega)] at hl2
  have hP := pow_pos' n
  have hb : -1 ≤ M.getD (i + n) 0 ∧ M.getD (i + n) 0 ≤ 0 := by
    rw [Int.add_mul] at hhi
    generalize (1000000000 : Int) ^ n = P at *
    generalize M.getD (i + n) 0 = x at *
    simp only [Int.mul_zero, Int.add_zero] at hw
    constructor
    · rcases Int.lt_or_le x (-1) with h | h
      · have : P * x ≤ P * (-2) := Int.mul_le_mul_of_nonneg_left (by omega) (by omega)
        omega
      · exact h
    · rcases Int.lt_or_le 0 x with h | h
      · have : P * 1 ≤ P * x := Int.mul_le_mul_of_nonneg_left (by omega) (by omega)
        omega
      · exact h
  rw [Int.add_mul] at hhi
  refine ⟨fun hneg => ?_, fun hpos => ?_, f3, by omega, by omega, f1⟩
  · have hlt : val (M.drop i) < 0 := by
      rcases Int.lt_or_le (val (M.drop i)) 0 with h | h
      · exact h
      · have := s1.1 h; omega
    have ht : 0 < t := by
      rcases Int.lt_or_le 0 t with h1 | h1
      · exact h1
      · have : t = 0 := by omega
        subst this
        have := val_nonneg (h.dl.drop i)
        simp at hd
        omega
    refine ⟨ht, fun c' Z' ha => ?_⟩
    obtain ⟨a1, a2, a3, a4⟩ := ha.finish h.ly (by omega) f3
    generalize hM' : Z'.set (i + n) (Z'.getD (i + n) 0 + c') = M' at *
    have hd' := drop_diff a1 (fun j hj => a2 j (.inl hj)) (by omega) (val ys) a4
    have hz2 : val (M'.drop (i + n + 1)) = 0 := by
      rw [drop_eq (i + n + 1) a1 (fun j hj => a2 j (.inr (by omega)))]; exact hz'
    obtain ⟨r1, r2⟩ := win_sign M' i n (by omega) a3 hz2
    have h0 : 0 ≤ val (M'.drop i) := by omega
    have htop := r2 h0 (by omega)
    refine ⟨by omega, ?_, fun j hj => by rw [a2 j (.inl hj), f2 j (.inl hj)], by rw [hd', hd, Int.sub_mul]; omega, by omega, by omega, ?_⟩
    · rw [dig_iff]
      intro j
      by_cases e : j = i + n
      · subst e; rw [htop]; omega
      · exact a3 j e
    · exact q_lt hv (by rw [Int.sub_mul]; omega) h.small
  · have h0 : 0 ≤ val (M.drop i) := s1.2 (by omega)
    have htop := s2 h0 (by omega)
    refine ⟨f1, ?_, fun j hj => f2 j (.inl hj), by omega, by omega, ht0, q_lt hv (by omega) h.small⟩
    rw [dig_iff]
    intro j
    by_cases e : j = i + n
    · subst e; rw [htop]; omega
    · exact f3 j e
end Go.Proofs.YtfjnplhhgdfepaaGreatDoor

/- takeOut: the walk. -/
namespace Go.Proofs.YtfjnplhhgdfepaaGreatDoor
open Go.RowKit

set_option maxHeartbeats 2000000 in
theorem take_any (g i n c1 g2 o2 c2 : Nat) (L ys : List Int) (w : World) (hrow : RowOf w g L) (hy : Sl w (some ⟨g2, o2, none⟩) n c2 ys) (hne : g2 ≠ g) (hW : Win L ys i n) (hn : n ≤ 1000000) (hi : i ≤ 1000000) :
    Calls Tryz.prog 160 #[.slice (some ⟨g, i, none⟩) (n + 1) c1, .slice (some ⟨g2, o2, none⟩) n c2] w
      fun e w' => ∃ q : Int, e = .returned (.int .i64 q) ∧ ∃ L', RowOf w' g L' ∧ Took L ys i q L' ∧ ∃ w1, Only g w w1 ∧ w' = w1 := by
  have hn2 := hW.n2
  have hf := hW.fits
  obtain ⟨P, a, b, hP, ha0, ha1, hb0, hb1, hu, hv⟩ := hW.split
  have hc1 := hrow.cell (i + n) (by omega)
  have hc2 := hrow.cell (i + (n - 1)) (by omega)
  have hc3 := hrow.cell (i + (n - 2)) (by omega)
  have hd1 := hy.cellAt (n - 1) (by omega)
  have hd2 := hy.cellAt (n - 2) (by omega)
  have hu1 := hW.dl.getD (i + n)
  have hu0 := hW.dl.getD (i + (n - 1))
  have hu2 := hW.dl.getD (i + (n - 2))
  have hv1 := hW.dy.getD (n - 1)
  have hv2 := hW.dy.getD (n - 2)
  have htop := hW.top
  have htl := hW.top_le
  generalize hU : val (L.drop i) = u at hu
  generalize hV : val ys = v at hv
  generalize e1 : L.getD (i + n) 0 = u1 at *
  generalize e2 : L.getD (i + (n - 1)) 0 = u0 at *
  generalize e3 : L.getD (i + (n - 2)) 0 = u2 at *
  generalize e4 : ys.getD (n - 1) 0 = v1 at *
  generalize e5 : ys.getD (n - 2) 0 = v2 at *
  have hg1 := Lib.hid (guess_start hP hu hv ha1 hb0 hu2.2 (by omega) hv2.1 (show 0 ≤ u1 * 1000000000 + u0 by omega))
  have hg2 := guess_le htop (show u1 * 1000000000 + u0 = u1 * 1000000000 + u0 from rfl) htl hu0.2
  have hg3 : 0 ≤ (u1 * 1000000000 + u0) / v1 := Int.ediv_nonneg (by omega) (by omega)
  have hg4 : 0 ≤ (u1 * 1000000000 + u0) % v1 := Int.emod_nonneg _ (by omega)
  have hg5 : (u1 * 1000000000 + u0) % v1 < v1 := Int.emod_lt_of_pos _ (by omega)
  have hg6 := Lib.hid (Int.mul_ediv_add_emod (u1 * 1000000000 + u0) v1)
  have Hu := Lib.hid hu
  have Hv := Lib.hid hv
  have HU := Lib.hid hU
  have HV := Lib.hid hV
  have hv0 : (v1 == 0) = false := by simp; omega
  clear hu hv hU hV e1 e2 e3 e4 e5 htl
  go_enter Tryz.func160, Tryz.ntmps160
  go_wp2
  go_region
  go_wp2
  go_region
  go_wp2
  go_loopw [7, 8] (fun tv ov wr => ∃ t o : Int, tv = .int .i64 t ∧ ov = .int .i64 o ∧ Guess u v (u1 * 1000000000 + u0) v1 t o ∧ ∃ nd, wr = w.drewN nd) (fun tv _ _ => (intOf tv).toNat)
  case atStart => exact ⟨_, _, rfl, rfl, ⟨by rw [Int.mul_comm]; exact hg6.out, hg3, hg2, hg4, hg1.out⟩, 2, rfl⟩
  case round =>
    clear hg2 hg3 hg4 hg5
    obtain ⟨t, o, rfl, rfl, hG, nd, rfl⟩ := hrel
    obtain ⟨ht0, ht1, ho0⟩ : 0 ≤ t ∧ t ≤ 1000000001 ∧ 0 ≤ o := ⟨hG.2.1, hG.2.2.1, hG.2.2.2.1⟩
    have HG := Lib.hid hG
    clear hG
    obtain ⟨hm0, hm1⟩ := mul_bd ht0 ht1 hv2.1 (show v2 ≤ 999999999 by omega)
    have hc1' : (w.drewN nd).cell? ⟨g, i + n, none⟩ = _ := hc1
    have hc2' : (w.drewN nd).cell? ⟨g, i + (n - 1), none⟩ = _ := hc2
    have hc3' : (w.drewN nd).cell? ⟨g, i + (n - 2), none⟩ = _ := hc3
    have hd1' : (w.drewN nd).cell? ⟨g2, o2 + (n - 1), none⟩ = _ := hd1
    have hd2' : (w.drewN nd).cell? ⟨g2, o2 + (n - 2), none⟩ = _ := hd2
    by_cases hob : o < 1000000000
    · by_cases hcv : o * 1000000000 + u2 < t * v2
      · have hlo := guess_lo hP Hu.out Hv.out ha0 ha1 hb0 ht0 HG.out.1 hcv
        have hq : decide (o < 1000000000) = true := by simpa using hob
        have hq2 : decide (o * 1000000000 + u2 < t * v2) = true := by simpa using hcv
        go_wp2
        go_region
        go_wp2
        go_roundw
        case rel =>
          have hu0' : 0 ≤ u := by rw [← HU.out]; exact val_nonneg (hW.dl.drop i)
          have htp : 0 < t := by
            rcases Int.lt_or_le 0 t with h | h
            · exact h
            · have : t = 0 := by omega
              subst this; simp at hlo; omega
          exact ⟨t - 1, o + v1, rfl, rfl, ⟨by rw [Int.sub_mul, ← HG.out.1]; omega, by omega, by omega, by omega, by rw [show t - 1 + 1 = t by omega]; omega⟩, nd + 1, rfl⟩
        case measure =>
          have htp : 0 < t := by
            rcases Int.lt_or_le 0 t with h | h
            · exact h
            · have : t = 0 := by omega
              subst this
              have hu0' : 0 ≤ u := by rw [← HU.out]; exact val_nonneg (hW.dl.drop i)
              simp at hlo; omega
          simp [intOf]; omega
      · have hhi := guess_hi hP Hu.out Hv.out ha0 ha1 hb0 hb1 ht0 ht1 htop hv2.1 HG.out.1 (by omega)
        have hq : decide (o < 1000000000) = true := by simpa using hob
        have hq2 : decide (o * 1000000000 + u2 < t * v2) = false := by simpa using hcv
        go_wp2
        go_region
        go_wp2_with fail
        refine (subT_any g i n c1 g2 o2 c2 L ys t _ (show RowOf (w.drewN (nd + 1)) g L from hrow) (show Sl (w.drewN (nd + 1)) _ _ _ _ from hy) hne hf hW.dl hW.dy ht0 ht1 hn hi).mono ?_
        rintro e w1 ⟨rfl, hon, c, Z, hs, hrow1⟩
        obtain ⟨k1, k2, k3, k4, k5, k6⟩ := took_sub hW hs ht0 (by rw [HU.out, HV.out]; exact hhi) (by rw [HU.out, HV.out]; exact HG.out.2.2.2.2)
        generalize Z.set (i + n) (Z.getD (i + n) 0 - c) = M at *
        have hcm := hrow1.cell (i + n) (by rw [k6]; exact hf)
        have hsy : Sl w1 (some ⟨g2, o2, none⟩) n c2 ys := hon.sl (show Sl (w.drewN (nd + 1)) _ _ _ _ from hy) hne
        generalize hx : M.getD (i + n) 0 = x at hcm k1 k2 k4 k5
        have Hx := Lib.hid hx
        have K1 := Lib.hid k1
        have K2 := Lib.hid k2
        have K3 := Lib.hid k3
        have K6 := Lib.hid k6
        clear hx k1 k2 k3 k6 hs
        by_cases hneg : x < 0
        · obtain ⟨htp, hadd⟩ := K1.out hneg
          have Hadd := Lib.hid hadd
          clear hadd
          go_wp2_with fail
          refine (addB_any g i n c1 g2 o2 c2 M ys _ hrow1 hsy hne (by rw [K6.out]; exact hf) K3.out (by rw [Hx.out]; exact ⟨k4, k5⟩) hW.dy hn hi).mono ?_
          rintro e w2 ⟨rfl, hon2, c', Z', hs', hrow2⟩
          go_wp2
          go_ret
          exact ⟨t - 1, rfl, _, hrow2, Hadd.out c' Z' hs', w2, (Only.trans ⟨hon.os, hon.tape, hon.output, hon.size, hon.block⟩ hon2), rfl⟩
        · go_wp2
          go_ret
          exact ⟨t, rfl, M, hrow1, K2.out hneg, w1, ⟨hon.os, hon.tape, hon.output, hon.size, hon.block⟩, rfl⟩
    · have hhi := guess_hi hP Hu.out Hv.out ha0 ha1 hb0 hb1 ht0 ht1 htop hv2.1 HG.out.1 (by have := mul_bd ht0 ht1 hv2.1 (show v2 ≤ 999999999 by omega); omega)
      have hq : decide (o < 1000000000) = false := by simpa using hob
      go_wp2
      go_region
      go_wp2_with fail
      refine (subT_any g i n c1 g2 o2 c2 L ys t _ (show RowOf (w.drewN (nd + 1)) g L from hrow) (show Sl (w.drewN (nd + 1)) _ _ _ _ from hy) hne hf hW.dl hW.dy ht0 ht1 hn hi).mono ?_
      rintro e w1 ⟨rfl, hon, c, Z, hs, hrow1⟩
      obtain ⟨k1, k2, k3, k4, k5, k6⟩ := took_sub hW hs ht0 (by rw [HU.out, HV.out]; exact hhi) (by rw [HU.out, HV.out]; exact HG.out.2.2.2.2)
      generalize Z.set (i + n) (Z.getD (i + n) 0 - c) = M at *
      have hcm := hrow1.cell (i + n) (by rw [k6]; exact hf)
      have hsy : Sl w1 (some ⟨g2, o2, none⟩) n c2 ys := hon.sl (show Sl (w.drewN (nd + 1)) _ _ _ _ from hy) hne
      generalize hx : M.getD (i + n) 0 = x at hcm k1 k2 k4 k5
      have Hx := Lib.hid hx
      have K1 := Lib.hid k1
      have K2 := Lib.hid k2
      have K3 := Lib.hid k3
      have K6 := Lib.hid k6
      clear hx k1 k2 k3 k6 hs
      by_cases hneg : x < 0
      · obtain ⟨htp, hadd⟩ := K1.out hneg
        have Hadd := Lib.hid hadd
        clear hadd
        go_wp2_with fail
        refine (addB_any g i n c1 g2 o2 c2 M ys _ hrow1 hsy hne (by rw [K6.out]; exact hf) K3.out (by rw [Hx.out]; exact ⟨k4, k5⟩) hW.dy hn hi).mono ?_
        rintro e w2 ⟨rfl, hon2, c', Z', hs', hrow2⟩
        go_wp2
        go_ret
        exact ⟨t - 1, rfl, _, hrow2, Hadd.out c' Z' hs', w2, (Only.trans ⟨hon.os, hon.tape, hon.output, hon.size, hon.block⟩ hon2), rfl⟩
      · go_wp2
        go_ret
        exact ⟨t, rfl, M, hrow1, K2.out hneg, w1, ⟨hon.os, hon.tape, hon.output, hon.size, hon.block⟩, rfl⟩
end Go.Proofs.YtfjnplhhgdfepaaGreatDoor

/- divLong. -/
namespace Go.Proofs.YtfjnplhhgdfepaaGreatDoor
open Go.RowKit

/-- The divisor, scaled. -/
theorem scaled {bn n : Nat} (hn : (parts bn).length = n) (h2 : 2 ≤ n) {D0 : List Int} (hl : D0.length = n + 1) (hd : Dig D0) (s : Int) (hs : s = 1000000000 / ((parts bn).getD (n - 1) 0 + 1)) (hv : val D0 = s * val (parts bn)) :
    1 ≤ s ∧ s ≤ 500000000 ∧ (D0.take n).length = n ∧ Dig (D0.take n) ∧ 500000000 ≤ (D0.take n).getD (n - 1) 0 ∧ val (D0.take n) = s * val (parts bn) := by
  obtain ⟨m, rfl⟩ : ∃ m, n = m + 1 := ⟨n - 1, by omega⟩
  simp only [Nat.add_sub_cancel] at *
  have hb := (parts_dig bn).getD m
  have hb1 : 1 ≤ (parts bn).getD m 0 := by
    have h1 := parts_last bn
    rw [getLast_getD' _ (by omega), hn] at h1
    simp only [Nat.add_sub_cancel] at h1
    have : (parts bn).getD m 0 ≠ 0 := fun e => h1 (by rw [e])
    omega
  have hst := scale_top _ hb1 (by omega)
  have hd1 := Int.mul_ediv_add_emod 1000000000 ((parts bn).getD m 0 + 1)
  have hd2 := Int.emod_nonneg 1000000000 (show (parts bn).getD m 0 + 1 ≠ 0 by omega)
  have hd3 : 1 ≤ 1000000000 / ((parts bn).getD m 0 + 1) := by rw [Int.le_ediv_iff_mul_le (by omega)]; omega
  have hd4 : 1000000000 / ((parts bn).getD m 0 + 1) ≤ 500000000 := by
    have := Int.mul_le_mul_of_nonneg_right (show 2 ≤ (parts bn).getD m 0 + 1 by omega) (show 0 ≤ 1000000000 / ((parts bn).getD m 0 + 1) by omega)
    omega
  rw [← hs] at hst hd1 hd3 hd4
  have hbv := val_take_succ (parts bn) m (by omega)
  rw [List.take_of_length_le (by omega)] at hbv
  have hlow := val_lt ((parts_dig bn).take m)
  rw [List.length_take, Nat.min_eq_left (by omega)] at hlow
  have hlow0 := val_nonneg ((parts_dig bn).take m)
  have hD := val_take_succ D0 (m + 1) (by omega)
  rw [List.take_of_length_le (by omega)] at hD
  have hD2 := val_take_succ D0 m (by omega)
  have hDl := val_lt (hd.take m)
  rw [List.length_take, Nat.min_eq_left (by omega)] at hDl
  have hDl0 := val_nonneg (hd.take m)
  have hdm := hd.getD m
  have hdn := hd.getD (m + 1)
  have hP := pow_pos' m
  rw [Int.pow_succ] at hD
  generalize (1000000000 : Int) ^ m = P at *
  generalize (parts bn).getD m 0 = b at *
  generalize val ((parts bn).take m) = bl at *
  generalize val (D0.take m) = dl at *
  generalize he : D0.getD m 0 = x at *
  generalize D0.getD (m + 1) 0 = y at *
  have e1 : s * (bl + P * b) < 1000000000 * P := by
    have h1 : s * (bl + P * b) ≤ s * (P * (b + 1) - 1) := Int.mul_le_mul_of_nonneg_left (by rw [Int.mul_add]; omega) (by omega)
    have h2 : s * (P * (b + 1)) ≤ 1000000000 * P := by
      have : (b + 1) * s * P ≤ 1000000000 * P := Int.mul_le_mul_of_nonneg_right (by omega) (by omega)
      have e : s * (P * (b + 1)) = (b + 1) * s * P := by grind
      omega
    rw [Int.mul_sub] at h1
    omega
  have hy : y = 0 := by
    rcases Int.lt_or_le 0 y with h | h
    · have : P * 1000000000 * 1 ≤ P * 1000000000 * y := Int.mul_le_mul_of_nonneg_left (by omega) (by omega)
      have : 0 ≤ val (D0.take (m + 1)) := val_nonneg (hd.take (m + 1))
      rw [hbv] at hv
      omega
    · omega
  subst hy
  have hx : 500000000 ≤ x := by
    rcases Int.lt_or_le x 500000000 with h | h
    · have h1 : P * x ≤ P * 499999999 := Int.mul_le_mul_of_nonneg_left (by omega) (by omega)
      have h2 : s * (P * b) ≤ s * (bl + P * b) := Int.mul_le_mul_of_nonneg_left (by omega) (by omega)
      have h3 : 500000000 * P ≤ b * s * P := Int.mul_le_mul_of_nonneg_right hst (by omega)
      have h4 : s * (P * b) = b * s * P := by grind
      rw [hbv] at hv
      omega
    · exact h
  refine ⟨hd3, hd4, by rw [List.length_take]; omega, hd.take _, ?_, ?_⟩
  · rw [getD_take _ _ _ (by omega), he]; exact hx
  · rw [← hv]; omega

/-- What the loop of divLong keeps: k places are still to be done. -/
def LongInv (V S : Int) (la n k : Nat) (L Q : List Int) : Prop :=
  L.length = la + 1 ∧ Dig L ∧ Q.length = la - n + 1 ∧ Dig Q ∧ (∀ j, j < k → Q.getD j 0 = 0) ∧ val (L.drop k) < V ∧ V * val Q + val L = S
theorem LongInv.win {V S : Int} {la n k : Nat} {L Q D : List Int} (h : LongInv V S la n (k + 1) L Q) (hk : k + 1 ≤ la - n + 1) (hn : n ≤ la) (h2 : 2 ≤ n) (hD : D.length = n) (dD : Dig D) (hV : val D = V) (ht : 500000000 ≤ D.getD (n - 1) 0) : Win L D k n := by
  obtain ⟨h1, h3, _, _, _, h6, _⟩ := h
  refine ⟨h2, by omega, h3, dD, hD, ht, ?_⟩
  rw [val_drop_succ L k (by omega), hV]
  have := h3.getD k
  omega
theorem LongInv.step {V S : Int} {la n k : Nat} {L Q D L' : List Int} {q : Int} (h : LongInv V S la n (k + 1) L Q) (hk : k + 1 ≤ la - n + 1) (hV : val D = V) (ht : Took L D k q L') : LongInv V S la n k L' (Q.set k q) := by
  obtain ⟨h1, h3, h4, h5, h6, h7, h8⟩ := h
  obtain ⟨t1, t2, t3, t4, t5, t6, t7⟩ := ht
  refine ⟨by omega, t2, by simp [h4], h5.set _ _ t6 t7, fun j hj => ?_, by omega, ?_⟩
  · rw [getD_set_ne _ _ _ _ (by omega)]; exact h6 j (by omega)
  · rw [val_set _ _ _ (by omega), h6 k (by omega)]
    have e1 := val_drop L k (by omega)
    have e2 := val_drop L' k (by omega)
    rw [take_eq k t1 t3, t4] at e2
    rw [hV] at e2
    grind
theorem LongInv.start {V A s : Int} {la n : Nat} {bn : Nat} {L : List Int} (hl : L.length = la + 1) (hd : Dig L) (hv : val L = s * A) (hs : 1 ≤ s) (hV : V = s * (bn : Int)) (hA : A < 1000000000 ^ la) (hb : (1000000000 : Int) ^ (n - 1) ≤ bn) (hn : n ≤ la) (h2 : 2 ≤ n) :
    LongInv V (s * A) la n (la - n + 1) L (List.replicate (la - n + 1) 0) := by
  refine ⟨hl, hd, by simp, Dig.replicate _, fun j _ => getD_replicate _ _, ?_, by rw [val_replicate, hv]; omega⟩
  have e := val_drop L (la - n + 1) (by omega)
  have h0 := val_nonneg (hd.take (la - n + 1))
  have hp : (1000000000 : Int) ^ la = 1000000000 ^ (n - 1) * 1000000000 ^ (la - n + 1) := by rw [← Int.pow_add]; congr 1; omega
  have hP := pow_pos' (la - n + 1)
  rw [hp] at hA
  generalize (1000000000 : Int) ^ (la - n + 1) = P at *
  generalize (1000000000 : Int) ^ (n - 1) = R at *
  have h3 : R * P ≤ bn * P := Int.mul_le_mul_of_nonneg_right hb (by omega)
  have h4 : s * A < s * (bn * P) := Int.mul_lt_mul_of_pos_left (by omega) (by omega)
  have h5 : P * val (L.drop (la - n + 1)) < P * V := by
    have : s * (bn * P) = P * V := by rw [hV]; grind
    omega
  exact Int.lt_of_mul_lt_mul_left h5 (by omega)
theorem LongInv.finish {V A s : Int} {la n bn : Nat} {L Q : List Int} (h : LongInv V (s * A) la n 0 L Q) (hn : n ≤ la) (hs : 1 ≤ s) (hV : V = s * (bn : Int)) (hVn : V < 1000000000 ^ n) :
    val (L.take n) / s = A % bn ∧ val Q = A / bn ∧ Dig Q ∧ Dig (L.take n) := by
  obtain ⟨h1, h3, h4, h5, h6, h7, h8⟩ := h
  rw [List.drop_zero] at h7
  have e := val_drop L n (by omega)
  have h0 := val_nonneg (h3.take n)
  have h9 := val_nonneg (h3.drop n)
  have hP := pow_pos' n
  have hz : val (L.drop n) = 0 := by
    generalize (1000000000 : Int) ^ n = P at *
    rcases Int.lt_or_le 0 (val (L.drop n)) with h | h
    · have : P * 1 ≤ P * val (L.drop n) := Int.mul_le_mul_of_nonneg_left (by omega) (by omega)
      omega
    · omega
  rw [hz, Int.mul_zero, Int.add_zero] at e
  have hR : val (L.take n) = s * (A - bn * val Q) := by rw [← e]; grind
  have hb0 : 0 < (bn : Int) := by
    rcases Int.lt_or_le 0 (bn : Int) with h | h
    · exact h
    · have : (bn : Int) = 0 := by omega
      rw [this] at hV; simp at hV; omega
  have hr0 : 0 ≤ A - bn * val Q := by
    rcases Int.lt_or_le (A - bn * val Q) 0 with h | h
    · have : s * (A - bn * val Q) ≤ s * (-1) := Int.mul_le_mul_of_nonneg_left (by omega) (by omega)
      omega
    · exact h
  have hr1 : A - bn * val Q < bn := by
    have : s * (A - bn * val Q) < s * bn := by rw [← hR, ← hV]; omega
    exact Int.lt_of_mul_lt_mul_left this (by omega)
  have hA : A = (A - bn * val Q) + bn * val Q := by omega
  refine ⟨?_, ?_, h5, h3.take n⟩
  · rw [hR, Int.mul_ediv_cancel_left _ (by omega)]
    conv => rhs; rw [hA]
    rw [Int.add_mul_emod_self_left, Int.emod_eq_of_lt hr0 hr1]
  · conv => rhs; rw [hA]
    rw [Int.add_mul_ediv_left _ _ (by omega), Int.ediv_eq_zero_of_lt hr0 hr1]; omega
end Go.Proofs.YtfjnplhhgdfepaaGreatDoor

/- divLong: the walk. -/
namespace Go.Proofs.YtfjnplhhgdfepaaGreatDoor
open Go.RowKit

theorem RowOf.only {w w' : World} {g k : Nat} {xs : List Int} (h : RowOf w k xs) (ho : Only g w w') (hne : k ≠ g) : RowOf w' k xs := by
  unfold RowOf at *
  rw [ho.block k hne]; exact h
theorem RowOf.slAt {w : World} {g : Nat} {xs : List Int} (h : RowOf w g xs) (n cap : Nat) (hn : n ≤ xs.length) (hc : n ≤ cap) (hm : cap ≤ 1000000000000) : Sl w (some ⟨g, 0, none⟩) n cap (xs.take n) :=
  ⟨by rw [List.length_take]; omega, hc, by unfold maxLen; omega, .inr ⟨g, 0, rfl, fun j hj => by rw [h.cell0 j (by omega), getD_take _ _ _ hj]⟩⟩

/-- A call that hands back two slices. -/
def RetSS (xs ys : List Int) (w : World) (e : Ending) (w' : World) : Prop := ∃ ao len cap bo len' cap', e = .returned (.tuple #[.slice ao len cap, .slice bo len' cap']) ∧ Sl w' ao len cap xs ∧ Sl w' bo len' cap' ys ∧ Below w.heap.size w w'

set_option maxHeartbeats 2000000 in
theorem long_any (ax : Option Addr) (la ca A : Nat) (ay : Option Addr) (n cb bn : Nat) (w : World) (hx : Sl w ax la ca (parts A)) (hy : Sl w ay n cb (parts bn)) (hm : la ≤ 100000) (h2 : 2 ≤ n) (hn : n ≤ la) :
    Calls Tryz.prog 153 #[.slice ax la ca, .slice ay n cb] w (RetSS (parts (A / bn)) (parts (A % bn)) w) := by
  obtain ⟨i0, hi, hz0, hz1, hz2⟩ := info_parts Tryz.info3
  have hly := Lib.hid hy.length
  have hlx := Lib.hid hx.length
  have hbd := (parts_dig bn).getD (n - 1)
  obtain ⟨by', oy, rfl, hcy⟩ := hy.at (by omega)
  have hcyn := hcy (n - 1) (by omega)
  have hsc := fun D0 h1 h2' h3 => scaled (bn := bn) (n := n) hly.out h2 (D0 := D0) h1 h2' (1000000000 / ((parts bn).getD (n - 1) 0 + 1)) rfl h3
  have hs0 : 1 ≤ 1000000000 / ((parts bn).getD (n - 1) 0 + 1) := by rw [Int.le_ediv_iff_mul_le (by omega)]; omega
  have hs1 : 1000000000 / ((parts bn).getD (n - 1) 0 + 1) ≤ 1000000000 := Int.ediv_le_self _ (by omega)
  generalize hb1 : (parts bn).getD (n - 1) 0 = b1 at *
  have Hsc := Lib.hid hsc
  clear hsc hb1 hcy
  have hq : ((b1 + 1) == 0) = false := by simp; omega
  go_enter Tryz.func153, Tryz.ntmps153
  go_wp2_with fail
  obtain ⟨s, hs⟩ : ∃ s, s = 1000000000 / (b1 + 1) := ⟨_, rfl⟩
  rw [← hs] at hs0 hs1 Hsc ⊢
  have Hs := Lib.hid hs
  clear hs
  refine (mulSmall_any _ _ _ _ s _ hx (parts_dig A) (by omega) (by omega) hs1).mono ?_
  rintro e w1 ⟨gL, L0, nL, rfl, hgL, hrL, hnL, ⟨hL1, hL2, hL3⟩, hbL⟩
  obtain rfl : nL = la + 1 := by omega
  have hy1 := hy.below hbL
  go_wp2_with fail
  refine (mulSmall_any _ _ _ _ s _ hy1 (parts_dig bn) (by omega) (by omega) hs1).mono ?_
  rintro e w2 ⟨gD, D0, nD, rfl, hgD, hrD, hnD, ⟨hD1, hD2, hD3⟩, hbD⟩
  obtain rfl : nD = n + 1 := by omega
  have hrL2 := hrL.below hbD
  have hLD : gL ≠ gD := by have := hrL.lt; omega
  obtain ⟨_, hsc2, hDl, hDd, hDt, hDv⟩ := Hsc.out D0 hD1 hD2 hD3
  have hz0' := hbL.size
  have hz1' := hbD.size
  have HD := Lib.hid (And.intro hDl (And.intro hDd (And.intro hDt hDv)))
  have HL := Lib.hid (And.intro hL1 (And.intro hL2 hL3))
  have HnL := Lib.hid hnL
  have HnD := Lib.hid hnD
  clear hDl hDd hDt hDv hL1 hL2 hL3 hD1 hD2 hD3 hnL hnD
  go_wp2_with (at_make; refine wpList_make_full _ rfl _ _ 22 rfl w2.heap.size 3 i0 (.int .i64 0) 1 Tryz.underlying22 hi hz0 hz1 _ _ _ _ (la - n + 1) rfl rfl ?c1 ?c2 ?c3 ?c4 ?c5 ?_)
  case c1 => omega
  case c2 => omega
  case c3 => rw [hz2]; omega
  case c4 => unfold maxLen; omega
  case c5 => omega
  intro w3 hown hgrow
  have hrQ := RowOf.made hown rfl
  have hb3 : Below w2.heap.size w2 w3 := (Below.refl _ _).grown hgrow (Nat.le_refl _) (fun _ h => by cases h)
  have hrL3 := hrL2.below hb3
  have hrD3 := hrD.below hb3
  have hbel3 : Below w.heap.size w w3 := (hbL.trans (hbD.mono hz0')).trans (hb3.mono (by omega))
  have hz3 : w2.heap.size < w3.heap.size := hrQ.lt
  have hgDlt := hrD.lt
  have hgLlt := hrL.lt
  generalize hQ : w2.heap.size = gQ at *
  clear hown hgrow hb3 hrL2 hrL hrD hQ hy1 hbL hbD hcyn
  go_wp2
  go_loopw [10] (fun iv wr => ∃ (k : Nat) (L Q : List Int), k ≤ la - n + 1 ∧ (∃ z : Int, iv = .int .i64 z ∧ z = (k : Int) - 1) ∧ LongInv (val (D0.take n)) (s * (A : Int)) la n k L Q ∧ RowOf wr gL L ∧ RowOf wr gD D0 ∧ RowOf wr gQ Q ∧ Below w.heap.size w wr ∧ gQ < wr.heap.size) (fun iv _ => (intOf iv + 1).toNat)
  case atStart =>
    have hA := (parts_len A la).1 (by rw [hlx.out]; exact Nat.le_refl _)
    have hB := (parts_ge bn (n - 1)).1 (by rw [hly.out]; omega)
    refine ⟨la - n + 1, L0, _, Nat.le_refl _, ⟨_, rfl, by omega⟩, LongInv.start (bn := bn) HL.out.1 HL.out.2.1 ?_ hs0 ?_ ?_ ?_ hn h2, hrL3, hrD3, hrQ, hbel3, hz3⟩
    · rw [HL.out.2.2, val_parts]
    · rw [HD.out.2.2.2, val_parts]
    · have : ((A : Nat) : Int) < ((1000000000 ^ la : Nat) : Int) := by omega
      rwa [Int.natCast_pow] at this
    · have : ((1000000000 ^ (n - 1) : Nat) : Int) ≤ (bn : Int) := by omega
      rwa [Int.natCast_pow] at this
  case round =>
    clear hrL3 hrD3 hrQ hbel3 hz3
    obtain ⟨k, L, Q, hk, ⟨z, rfl, hzk⟩, hinv, hrL, hrD, hrQ, hbel, hzr⟩ := hrel
    rcases k with _ | k
    · obtain rfl : z = -1 := by omega
      clear hzk
      have hfin := hinv.finish (A := (A : Int)) (bn := bn) hn hs0 (by rw [HD.out.2.2.2, val_parts]) (by have := val_lt HD.out.2.1; rw [HD.out.1] at this; exact this)
      have Hfin := Lib.hid hfin
      have hslL := hrL.slAt n (la + 1) (by rw [hinv.1]; omega) (by omega) (by omega)
      have hslQ := hrQ.sl (la - n + 1) hinv.2.2.1 (by omega)
      clear hinv hfin
      go_wp2_with fail
      refine (divSmall_any _ _ _ _ s _ hslL Hfin.out.2.2.2 (by omega) (by omega) hs1).mono ?_
      rintro e w1 ⟨ar, lr, cr, rfl, hsr, hbr⟩
      have hslQ1 := hslQ.below hbr
      go_wp2_with fail
      refine (cut_any _ _ _ _ _ hslQ1).mono ?_
      rintro e w' ⟨rfl, rfl⟩
      go_wp2
      go_ret2
      refine ⟨_, _, _, _, _, _, rfl, ?_, ?_, hbel.trans (hbr.mono hbel.size)⟩
      · have := hslQ1.trim Hfin.out.2.2.1
        rw [Hfin.out.2.1, ← Int.natCast_ediv, Int.toNat_natCast] at this
        exact this
      · rw [Hfin.out.1, ← Int.natCast_emod, Int.toNat_natCast] at hsr
        exact hsr
    · obtain rfl : z = (k : Int) := by omega
      clear hzk
      have hwin := hinv.win hk hn h2 HD.out.1 HD.out.2.1 rfl HD.out.2.2.1
      have hslD := hrD.slAt n (n + 1) (by rw [HnD.out]; omega) (by omega) (by omega)
      have hLl := Lib.hid hinv.1
      have hQl := Lib.hid hinv.2.2.1
      go_wp2_with fail
      rw [show k + n + 1 - k = n + 1 by omega]
      refine (take_any gL k n (la + 1 - k) gD 0 (n + 1) L (D0.take n) wr hrL hslD (by omega) hwin (by omega) (by omega)).mono ?_
      rintro e w' ⟨q, rfl, L', hrL', htk, w1, hon, rfl⟩
      have hrD' := hrD.only hon (by omega)
      have hrQ' := hrQ.only hon (by omega)
      have hfz := hrQ'.frozen k
      have hcz := hrQ'.cell k (by rw [hQl.out]; omega)
      have hinv' := Lib.hid (hinv.step hk rfl htk)
      have hbel' := hbel.trans (hon.below (by omega))
      have hzr' : gQ < w'.heap.size := by rw [hon.size]; exact hzr
      clear hinv htk hwin hrL hrD hrQ hon hslD hzr hbel
      go_wp2
      go_roundw
      case rel => exact ⟨k, L', _, by omega, ⟨_, rfl, rfl⟩, hinv'.out, hrL'.other _ _ (by simp; omega), hrD'.other _ _ (by simp; omega), hrQ'.set _ _, hbel'.setCell (by simp; omega) _, by simpa [World.setCell] using hzr'⟩
      case measure => simp [intOf]
end Go.Proofs.YtfjnplhhgdfepaaGreatDoor

/- divParts. -/
namespace Go.Proofs.YtfjnplhhgdfepaaGreatDoor
open Go.RowKit

theorem parts_one (n : Nat) (h : (parts n).length = 1) : ∃ d : Nat, 0 < d ∧ d < 1000000000 ∧ n = d ∧ parts n = [(d : Int)] := by
  have h0 : n ≠ 0 := by intro e; rw [e, parts_zero] at h; simp at h
  have h1 := (parts_len n 1).1 (by omega)
  refine ⟨n, by omega, by simpa using h1, rfl, ?_⟩
  rw [parts_pos n (by omega)]
  have e1 : n / 1000000000 = 0 := by simp at h1; omega
  have e2 : n % 1000000000 = n := by simp at h1; omega
  rw [e1, e2, parts_zero]

set_option maxHeartbeats 1000000 in
theorem divP_any (ax : Option Addr) (la ca A : Nat) (ay : Option Addr) (n cb bn : Nat) (w : World) (hx : Sl w ax la ca (parts A)) (hy : Sl w ay n cb (parts bn)) (hm : la ≤ 100000) (hb : 0 < bn) :
    Calls Tryz.prog 133 #[.slice ax la ca, .slice ay n cb] w (RetSS (parts (A / bn)) (parts (A % bn)) w) := by
  obtain ⟨i0, hi, hz0, hz1, hz2⟩ := info_parts Tryz.info3
  have hlx := Lib.hid hx.length
  have hly := Lib.hid hy.length
  have hn0 : 0 < n := by
    have h1 := (parts_len bn 0).1
    have h2 := hy.length
    rcases Nat.eq_zero_or_pos n with h | h
    · have := h1 (by omega); simp at this; omega
    · exact h
  by_cases hlt : A < bn
  · have hq : A / bn = 0 := Nat.div_eq_of_lt hlt
    have hr : A % bn = A := Nat.mod_eq_of_lt hlt
    rw [hq, hr, parts_zero]
    have hc : decide (cmpL (parts A) (parts bn) < 0) = true := by rw [cmpL_parts]; unfold cmp3; rw [if_pos (by omega)]; rfl
    have hcmp := fun w h1 h2 => comp_below ax la ca (parts A) ay n cb (parts bn) w h1 h2
    generalize cmpL (parts A) (parts bn) = cv at hc hcmp
    have Hcmp := Lib.hid hcmp
    clear hcmp hq hr
    rcases hx.2.2.2 with ⟨hax, hcap⟩ | ⟨b, o, hax, _⟩
    · subst hax
      have hl := hx.len_le
      obtain rfl : la = 0 := by omega
      obtain rfl : ca = 0 := hcap
      have hA : parts A = [] := List.eq_nil_of_length_eq_zero hlx.out
      rw [hA]
      clear hA
      go_enter Tryz.func133, Tryz.ntmps133
      go_wp2_with fail
      refine (Hcmp.out w hx hy).mono ?_
      rintro e w0 ⟨rfl, hb0⟩
      go_wp2_with (at_builtin; refine wpList_append_own_none rfl _ _ 22 rfl 0 3 i0 1 Tryz.underlying22 hi (.slice none 0 0) 0 [] rfl ⟨rfl, .inl ⟨rfl, rfl⟩⟩ rfl ?_)
      refine (cut_any _ _ _ [] _ (Sl.nil _)).mono ?_
      rintro e w' ⟨rfl, rfl⟩
      go_wp2
      go_ret2
      exact ⟨_, _, _, _, _, _, rfl, Sl.nil _, by rw [trim_nil]; exact Sl.nil _, hb0⟩
    · subst hax
      go_enter Tryz.func133, Tryz.ntmps133
      go_wp2_with fail
      refine (Hcmp.out w hx hy).mono ?_
      rintro e w0 ⟨rfl, hb0⟩
      have hx0 := hx.below hb0
      go_wp2_with (at_builtin; refine wpList_append_own _ rfl _ _ 22 rfl w0.heap.size 3 i0 (.int .i64 0) 1 8 Tryz.underlying22 hi hz0 hz1 hz2 rfl (by decide) (.slice none 0 0) 0 [] rfl ⟨rfl, .inl ⟨rfl, rfl⟩⟩ ⟨b, o, none⟩ la ca ((parts A).map (Value.int .i64)) rfl ?qc1 ?qc2 ?qc3 ?qc4 ?qc5 ?qc6 ?_)
      case qc1 => rw [List.length_map, hlx.out]; omega
      case qc2 =>
        intro j u hj
        have hjn : j < la := by
          have := (List.getElem?_eq_some_iff.1 hj).1
          rwa [List.length_map, hlx.out] at this
        rw [Addr.add_lit, hx0.cellAt j hjn]
        rw [List.getElem?_map, List.getElem?_eq_getElem (by rw [hlx.out]; exact hjn)] at hj
        rw [getD_of_lt _ _ (by rw [hlx.out]; exact hjn)]
        exact hj
      case qc3 => exact ints_oneCell _ _
      case qc4 => unfold maxLen; omega
      case qc5 => omega
      case qc6 => exact Nat.le_refl _
      intro v' w1 hown hgrow hnil
      have hown' : w1.ownsRow w0.heap.size 3 1 v' la ((parts A).map (Value.int .i64)) := by simpa using hown
      obtain ⟨ao', cap', hv, hsl⟩ := Sl.of_owns hown'
      rw [hv]
      go_wp2_with fail
      refine (cut_any _ _ _ _ _ hsl).mono ?_
      rintro e w' ⟨rfl, rfl⟩
      go_wp2
      go_ret2
      refine ⟨_, _, _, _, _, _, rfl, Sl.nil _, ?_, hb0.trans (((Below.refl w0.heap.size w0).grown hgrow (Nat.le_refl _) (by intro k hk; simp [Value.ownBlock] at hk)).mono hb0.size)⟩
      have := hsl.trim (parts_dig A)
      rw [val_parts, Int.toNat_natCast] at this
      exact this
  · have hc : decide (cmpL (parts A) (parts bn) < 0) = false := by rw [cmpL_parts]; unfold cmp3; rw [if_neg (by omega)]; split <;> simp
    have hcmp := fun w h1 h2 => comp_below ax la ca (parts A) ay n cb (parts bn) w h1 h2
    generalize cmpL (parts A) (parts bn) = cv at hc hcmp
    have Hcmp := Lib.hid hcmp
    clear hcmp
    have hle : n ≤ la := by
      have := parts_len_mono (show bn ≤ A by omega)
      rwa [hy.length, hx.length] at this
    by_cases h1 : n = 1
    · subst h1
      obtain ⟨d, hd0, hd1, rfl, hpd⟩ := parts_one bn hly.out
      obtain ⟨b, o, rfl, hcell⟩ := hy.at (by omega)
      have hc0 := hcell 0 (by omega)
      have hpd0 : (parts bn).getD 0 0 = (bn : Int) := by rw [hpd]; rfl
      rw [hpd0] at hc0
      clear hcell hpd0
      go_enter Tryz.func133, Tryz.ntmps133
      go_wp2_with fail
      refine (Hcmp.out w hx hy).mono ?_
      rintro e w0 ⟨rfl, hb0⟩
      have hx0 := hx.below hb0
      have hc00 : w0.cell? ⟨b, o + 0, none⟩ = some (.int .i64 (bn : Int)) := by rw [hb0.cell (cell_lt hc0)]; exact hc0
      have hc01 : w0.cell? ⟨b, o, none⟩ = some (.int .i64 (bn : Int)) := hc00
      clear hc0
      go_wp2_with fail
      refine (divSmall_any _ _ _ _ (bn : Int) _ hx0 (parts_dig A) (by omega) (by omega) (by omega)).mono ?_
      rintro e w1 ⟨ar, lr, cr, rfl, hsr, hbr⟩
      have hr0 := Int.emod_nonneg (val (parts A)) (show (bn : Int) ≠ 0 by omega)
      have hr1 := Int.emod_lt_of_pos (val (parts A)) (show 0 < (bn : Int) by omega)
      have hrn : (val (parts A) % (bn : Int)) = ((A % bn : Nat) : Int) := by rw [val_parts, Int.natCast_emod]
      have Hrn := Lib.hid hrn
      have hqn := Lib.hid (show (val (parts A) / (bn : Int)).toNat = A / bn by rw [val_parts, ← Int.natCast_ediv, Int.toNat_natCast])
      clear hrn
      generalize val (parts A) % (bn : Int) = r at hr0 hr1 Hrn
      have hrow : RowOf (w1.alloc (.cells #[.int .i64 r] 3)) w1.heap.size [r] := heap_new w1 _
      have hsl := hrow.sl 1 rfl (by omega)
      have hsr' := hsr.alloc (.cells #[.int .i64 r] 3)
      go_wp2_with fail
      refine (cut_any _ _ _ _ _ hsl).mono ?_
      rintro e w' ⟨rfl, rfl⟩
      go_wp2
      go_ret2
      refine ⟨_, _, _, _, _, _, rfl, ?_, ?_, (hb0.trans (hbr.mono hb0.size)).alloc (by have := hb0.size; have := hbr.size; omega) _⟩
      · rw [hqn.out] at hsr'; exact hsr'
      · have hdg : Dig [r] := Dig.cons hr0 (by omega) Dig.nil
        have := hsl.trim hdg
        rw [show (val [r]).toNat = A % bn by simp [val]; have := Hrn.out; omega] at this
        exact this
    · have hne : ((n : Int) == 1) = false := by simp; omega
      go_enter Tryz.func133, Tryz.ntmps133
      go_wp2_with fail
      refine (Hcmp.out w hx hy).mono ?_
      rintro e w0 ⟨rfl, hb0⟩
      go_wp2_with fail
      refine (long_any _ _ _ A _ _ _ bn _ (hx.below hb0) (hy.below hb0) hm (by omega) hle).mono ?_
      rintro e w1 ⟨ao, len, cap, bo, len', cap', rfl, hs1, hs2, hb1⟩
      go_wp2
      go_ret2
      exact ⟨_, _, _, _, _, _, rfl, hs1, hs2, hb0.trans (hb1.mono hb0.size)⟩
end Go.Proofs.YtfjnplhhgdfepaaGreatDoor

/- Quotients rounded down: the mathematics, and divide. -/
namespace Go.Proofs.YtfjnplhhgdfepaaGreatDoor
open Go.RowKit

/-- The quotient, rounded down, and what it leaves. -/
def flq (x y : Int) : Int := if 0 < y then x / y else (-x) / (-y)
def flr (x y : Int) : Int := x - y * flq x y
theorem fl_unique {x y q r : Int} (hy : y ≠ 0) (h : x = y * q + r) (h1 : 0 < y → 0 ≤ r ∧ r < y) (h2 : y < 0 → y < r ∧ r ≤ 0) : flq x y = q ∧ flr x y = r := by
  have hq : flq x y = q := by
    unfold flq
    rcases Int.lt_or_le 0 y with hp | hp
    · rw [if_pos hp, h, Int.add_comm, Int.add_mul_ediv_left _ _ hy, Int.ediv_eq_zero_of_lt (h1 hp).1 (h1 hp).2]; omega
    · rw [if_neg (by omega)]
      have e : -x = -r + (-y) * q := by rw [h]; grind
      rw [e, Int.add_mul_ediv_left _ _ (by omega), Int.ediv_eq_zero_of_lt (by have := h2 (by omega); omega) (by have := h2 (by omega); omega)]; omega
  refine ⟨hq, ?_⟩
  unfold flr; rw [hq, h]; omega
theorem fl_spec (x y : Int) (hy : y ≠ 0) : x = y * flq x y + flr x y ∧ (0 < y → 0 ≤ flr x y ∧ flr x y < y) ∧ (y < 0 → y < flr x y ∧ flr x y ≤ 0) := by
  refine ⟨by unfold flr; omega, fun h => ?_, fun h => ?_⟩
  · unfold flr flq; rw [if_pos h]
    have h1 := Int.emod_nonneg x hy
    have h2 := Int.emod_lt_of_pos x h
    have h3 := Int.mul_ediv_add_emod x y
    omega
  · unfold flr flq; rw [if_neg (by omega)]
    have h1 := Int.emod_nonneg (-x) (show -y ≠ 0 by omega)
    have h2 := Int.emod_lt_of_pos (-x) (show 0 < -y by omega)
    have h3 := Int.mul_ediv_add_emod (-x) (-y)
    rw [Int.neg_mul] at h3
    omega

theorem div_same (x y : Int) (hy : y ≠ 0) (h : decide (x < 0) = decide (y < 0)) :
    num false (val (parts (x.natAbs / y.natAbs))) = flq x y ∧ num (decide (y < 0)) (val (parts (x.natAbs % y.natAbs))) = flr x y := by
  have h1 := Nat.div_add_mod x.natAbs y.natAbs
  have h2 := Nat.mod_lt x.natAbs (show 0 < y.natAbs by omega)
  generalize x.natAbs / y.natAbs = q at *
  generalize x.natAbs % y.natAbs = r at *
  have h1' : (y.natAbs : Int) * q + r = x.natAbs := by rw [← Int.natCast_mul]; omega
  rw [val_parts, val_parts]
  by_cases hn : y < 0
  · have hx : x < 0 := by simpa [hn] using h
    have := fl_unique (x := x) (y := y) (q := q) (r := -(r : Int)) hy (by rw [show (y.natAbs : Int) = -y by omega, Int.neg_mul] at h1'; omega) (fun h => by omega) (fun _ => by omega)
    simp [num, hn, this.1, this.2]
  · have hx : ¬ x < 0 := by simpa [hn] using h
    have := fl_unique (x := x) (y := y) (q := q) (r := (r : Int)) hy (by rw [show (y.natAbs : Int) = y by omega] at h1'; omega) (fun _ => by omega) (fun h => by omega)
    simp [num, hn, this.1, this.2]
theorem div_diff0 (x y : Int) (hy : y ≠ 0) (h : decide (x < 0) ≠ decide (y < 0)) (hr : x.natAbs % y.natAbs = 0) :
    num true (val (parts (x.natAbs / y.natAbs))) = flq x y ∧ num (decide (y < 0)) (val (parts (x.natAbs % y.natAbs))) = flr x y := by
  have h1 := Nat.div_add_mod x.natAbs y.natAbs
  rw [hr] at h1 ⊢
  generalize x.natAbs / y.natAbs = q at *
  have h1' : (y.natAbs : Int) * q = x.natAbs := by rw [← Int.natCast_mul]; omega
  rw [val_parts, val_parts]
  by_cases hn : y < 0
  · have hx : ¬ x < 0 := by simpa [hn] using h
    have := fl_unique (x := x) (y := y) (q := -(q : Int)) (r := 0) hy (by rw [show (y.natAbs : Int) = -y by omega, Int.neg_mul] at h1'; rw [Int.mul_neg]; omega) (fun h => by omega) (fun _ => by omega)
    simp [num, hn, this.1, this.2]
  · have hx : x < 0 := by simpa [hn] using h
    have := fl_unique (x := x) (y := y) (q := -(q : Int)) (r := 0) hy (by rw [show (y.natAbs : Int) = y by omega] at h1'; rw [Int.mul_neg]; omega) (fun _ => by omega) (fun h => by omega)
    simp [num, hn, this.1, this.2]
theorem div_diff1 (x y : Int) (hy : y ≠ 0) (h : decide (x < 0) ≠ decide (y < 0)) (hr : x.natAbs % y.natAbs ≠ 0) :
    num true (val (parts (x.natAbs / y.natAbs + 1))) = flq x y ∧ num (decide (y < 0)) (val (parts (y.natAbs - x.natAbs % y.natAbs))) = flr x y := by
  have h1 := Nat.div_add_mod x.natAbs y.natAbs
  have h2 := Nat.mod_lt x.natAbs (show 0 < y.natAbs by omega)
  generalize x.natAbs / y.natAbs = q at *
  generalize x.natAbs % y.natAbs = r at *
  have h1' : (y.natAbs : Int) * q + r = x.natAbs := by rw [← Int.natCast_mul]; omega
  rw [val_parts, val_parts]
  by_cases hn : y < 0
  · have hx : ¬ x < 0 := by simpa [hn] using h
    have := fl_unique (x := x) (y := y) (q := -((q : Int) + 1)) (r := y + r) hy (by rw [show (y.natAbs : Int) = -y by omega, Int.neg_mul] at h1'; rw [Int.mul_neg, Int.mul_add]; omega) (fun h => by omega) (fun _ => by omega)
    simp [num, hn]
    refine ⟨by rw [this.1], by rw [this.2]; omega⟩
  · have hx : x < 0 := by simpa [hn] using h
    have := fl_unique (x := x) (y := y) (q := -((q : Int) + 1)) (r := y - r) hy (by rw [show (y.natAbs : Int) = y by omega] at h1'; rw [Int.mul_neg, Int.mul_add]; omega) (fun _ => by omega) (fun h => by omega)
    simp [num, hn]
    refine ⟨by rw [this.1], by rw [this.2]; omega⟩
theorem parts_1 : parts 1 = [1] := by rw [parts_pos 1 (by omega)]; simp [parts_zero]

/-- A call that hands back two integers. -/
def RetNN (p q : Int) (w : World) (e : Ending) (w' : World) : Prop :=
  ∃ ao len cap bo len' cap', e = .returned (.tuple #[.agg #[.bool (decide (p < 0)), .slice ao len cap], .agg #[.bool (decide (q < 0)), .slice bo len' cap']]) ∧
    Sl w' ao len cap (parts p.natAbs) ∧ Sl w' bo len' cap' (parts q.natAbs) ∧ Below w.heap.size w w'
end Go.Proofs.YtfjnplhhgdfepaaGreatDoor

/- divide: the walk. -/
namespace Go.Proofs.YtfjnplhhgdfepaaGreatDoor
open Go.RowKit

set_option maxHeartbeats 4000000 in
theorem divide_same (x y : Int) (ax : Option Addr) (la ca : Nat) (ay : Option Addr) (lb cb : Nat) (w : World) (hx : Sl w ax la ca (parts x.natAbs)) (hy : Sl w ay lb cb (parts y.natAbs)) (hm : la ≤ 100000) (_hm2 : lb ≤ 100000) (hy0 : y ≠ 0) (hs : decide (x < 0) = decide (y < 0)) :
    Calls Tryz.prog 131 #[.agg #[.bool (decide (x < 0)), .slice ax la ca], .agg #[.bool (decide (y < 0)), .slice ay lb cb]] w (RetNN (flq x y) (flr x y) w) := by
  have hfin := Lib.hid (div_same x y hy0 hs)
  have hyn : 0 < y.natAbs := by omega
  generalize hsx : decide (x < 0) = sx at *
  generalize hsy : decide (y < 0) = sy at *
  subst hs
  have hq : (sx == sx) = true := by simp
  clear hsx hsy hyn
  go_enter Tryz.func131, Tryz.ntmps131
  go_wp2_with fail
  refine (divP_any _ _ _ x.natAbs _ _ _ y.natAbs _ ((((hx.alloc _).alloc _).alloc _).alloc _) ((((hy.alloc _).alloc _).alloc _).alloc _) hm (by omega)).mono ?_
  rintro e w0 ⟨aq, lq, cq, ar, lr, cr, rfl, hsq, hsr, hb0⟩
  have hy1 := ((((hy.alloc (.cells #[.bool sx, .slice ax la ca] 24)).alloc (.cells #[.bool sx, .slice ay lb cb] 24)).alloc (.cells #[.bool false, .slice none 0 0] 24)).alloc (.cells #[.bool false, .slice none 0 0] 24)).below hb0
  obtain ⟨hA, hB, hR, hS, hsz, hbb⟩ := kept4 _ _ _ _ _ hb0
  have HA := Lib.hid hA; have HB := Lib.hid hB; have HR := Lib.hid hR; have HS := Lib.hid hS
  obtain ⟨k1, k2, k3, k4, k5⟩ := box2 hA
  obtain ⟨l1, l2, l3, l4, l5⟩ := box2 hB
  clear hA hB hR hS hb0
  go_wp2
  go_region_held3 (fun w' => w'.cell? ⟨w.heap.size + 1, 0, none⟩ = some (.bool sx)) (first | exact n1 | exact p1 | exact l1 | exact (set2_other n1 (by simp)) | exact (set2_other (set2_other n1 (by simp)) (by simp))) (first | (go_at_call_of 79 (Value.slice aq lq cq); (refine (signed_any _ _ _ _ _ _ (by exact hsq.drew) (parts_dig _)).mono ?_); rintro e w6 ⟨a6, l6, c6, rfl, hs6, hb6⟩; obtain ⟨p1, p2, p3, p4, p5⟩ := box2 (w := w6) (g := w.heap.size + 1) (by rw [hb6.block _ (by show _ < w0.heap.size; omega)]; exact HB.out); have hsr6 := (hsr.drew).below hb6; have hz6 : w0.heap.size ≤ w6.heap.size := hb6.size) | (go_at_call_of 79 (Value.slice ar lr cr); (refine (signed_any _ _ _ _ _ _ hsr6 (parts_dig _)).mono ?_); rintro e w7 ⟨a7, l7, c7, rfl, hs7, hb7⟩; have hs67 := hs6.below hb7; obtain ⟨n1, n2, n3, n4, n5⟩ := box2 (w := w7) (g := w.heap.size + 1) (by rw [hb7.block _ (by omega), hb6.block _ (by show _ < w0.heap.size; omega)]; exact HB.out); obtain ⟨f1, f2, f3, f4, f5⟩ := box2 (w := w7) (g := w.heap.size + 2) (by rw [hb7.block _ (by omega), hb6.block _ (by show _ < w0.heap.size; omega)]; exact HR.out); obtain ⟨g1, g2, g3, g4, g5⟩ := box2 (w := w7) (g := w.heap.size + 3) (by rw [hb7.block _ (by omega), hb6.block _ (by show _ < w0.heap.size; omega)]; exact HS.out)))
  all_goals go_wp2
  all_goals (refine bodyPost_ret (v := .tuple #[.agg #[.bool (decide (num false (val (parts (x.natAbs / y.natAbs))) < 0)), .slice a6 l6 c6], .agg #[.bool (decide (num sx (val (parts (x.natAbs % y.natAbs))) < 0)), .slice a7 l7 c7]]) (by simp [results, Tryz.results131, go_sem, f1, f2, g1, g2]) rfl ?_)
  all_goals (
    have hQ := hs67.store2 f1 f2 (.bool (decide (num false (val (parts (x.natAbs / y.natAbs))) < 0))) (.slice a6 l6 c6)
    have hQ2 := hQ.store2 (g := w.heap.size + 3) (set2_other g1 (by simp)) (set2_other g2 (by simp)) (.bool (decide (num sx (val (parts (x.natAbs % y.natAbs))) < 0))) (.slice a7 l7 c7)
    have hR7 := hs7.store2 f1 f2 (.bool (decide (num false (val (parts (x.natAbs / y.natAbs))) < 0))) (.slice a6 l6 c6)
    have hR2 := hR7.store2 (g := w.heap.size + 3) (set2_other g1 (by simp)) (set2_other g2 (by simp)) (.bool (decide (num sx (val (parts (x.natAbs % y.natAbs))) < 0))) (.slice a7 l7 c7)
    rw [hfin.out.1] at hQ2 hR2 ⊢
    rw [hfin.out.2] at hQ2 hR2 ⊢
    exact ⟨a6, l6, c6, a7, l7, c7, rfl, hQ2, hR2, ((((((hbb.trans ((Below.undrew hb6).mono (by show _ ≤ w0.heap.size; omega))).trans (hb7.mono (by omega))).setCell (by simp; omega) _).setCell (by simp; omega) _).setCell (by simp; omega) _).setCell (by simp; omega) _)⟩)

set_option maxHeartbeats 4000000 in
theorem divide_diff0 (x y : Int) (ax : Option Addr) (la ca : Nat) (ay : Option Addr) (lb cb : Nat) (w : World) (hx : Sl w ax la ca (parts x.natAbs)) (hy : Sl w ay lb cb (parts y.natAbs)) (hm : la ≤ 100000) (_hm2 : lb ≤ 100000) (hy0 : y ≠ 0) (hs : decide (x < 0) ≠ decide (y < 0)) (hr0 : x.natAbs % y.natAbs = 0) :
    Calls Tryz.prog 131 #[.agg #[.bool (decide (x < 0)), .slice ax la ca], .agg #[.bool (decide (y < 0)), .slice ay lb cb]] w (RetNN (flq x y) (flr x y) w) := by
  have hfin := Lib.hid (div_diff0 x y hy0 hs hr0)
  have hyn : 0 < y.natAbs := by omega
  generalize hsx : decide (x < 0) = sx at *
  generalize hsy : decide (y < 0) = sy at *
  have hq : (sx == sy) = false := by simpa using hs
  have Hr0 := Lib.hid hr0
  clear hsx hsy hyn hs hr0
  go_enter Tryz.func131, Tryz.ntmps131
  go_wp2_with fail
  refine (divP_any _ _ _ x.natAbs _ _ _ y.natAbs _ ((((hx.alloc _).alloc _).alloc _).alloc _) ((((hy.alloc _).alloc _).alloc _).alloc _) hm (by omega)).mono ?_
  rintro e w0 ⟨aq, lq, cq, ar, lr, cr, rfl, hsq, hsr, hb0⟩
  have hy1 := ((((hy.alloc (.cells #[.bool sx, .slice ax la ca] 24)).alloc (.cells #[.bool sy, .slice ay lb cb] 24)).alloc (.cells #[.bool false, .slice none 0 0] 24)).alloc (.cells #[.bool false, .slice none 0 0] 24)).below hb0
  obtain ⟨hA, hB, hR, hS, hsz, hbb⟩ := kept4 _ _ _ _ _ hb0
  have HA := Lib.hid hA; have HB := Lib.hid hB; have HR := Lib.hid hR; have HS := Lib.hid hS
  obtain ⟨k1, k2, k3, k4, k5⟩ := box2 hA
  obtain ⟨l1, l2, l3, l4, l5⟩ := box2 hB
  clear hA hB hR hS hb0
  obtain rfl : lr = 0 := by have := hsr.length; rw [Hr0.out, parts_zero] at this; exact this.symm
  go_wp2
  go_region_held3 (fun w' => w'.cell? ⟨w.heap.size + 1, 0, none⟩ = some (.bool sy)) (first | exact n1 | exact p1 | exact l1 | exact (set2_other n1 (by simp)) | exact (set2_other (set2_other n1 (by simp)) (by simp))) (first | (go_at_call_of 79 (Value.slice aq lq cq); (refine (signed_any _ _ _ _ _ _ (by exact hsq.drew) (parts_dig _)).mono ?_); rintro e w6 ⟨a6, l6, c6, rfl, hs6, hb6⟩; obtain ⟨p1, p2, p3, p4, p5⟩ := box2 (w := w6) (g := w.heap.size + 1) (by rw [hb6.block _ (by show _ < w0.heap.size; omega)]; exact HB.out); have hsr6 := (hsr.drew).below hb6; have hz6 : w0.heap.size ≤ w6.heap.size := hb6.size) | (go_at_call_of 79 (Value.slice ar 0 cr); (refine (signed_any _ _ _ _ _ _ hsr6 (parts_dig _)).mono ?_); rintro e w7 ⟨a7, l7, c7, rfl, hs7, hb7⟩; have hs67 := hs6.below hb7; obtain ⟨n1, n2, n3, n4, n5⟩ := box2 (w := w7) (g := w.heap.size + 1) (by rw [hb7.block _ (by omega), hb6.block _ (by show _ < w0.heap.size; omega)]; exact HB.out); obtain ⟨f1, f2, f3, f4, f5⟩ := box2 (w := w7) (g := w.heap.size + 2) (by rw [hb7.block _ (by omega), hb6.block _ (by show _ < w0.heap.size; omega)]; exact HR.out); obtain ⟨g1, g2, g3, g4, g5⟩ := box2 (w := w7) (g := w.heap.size + 3) (by rw [hb7.block _ (by omega), hb6.block _ (by show _ < w0.heap.size; omega)]; exact HS.out)))
  all_goals go_wp2
  all_goals (refine bodyPost_ret (v := .tuple #[.agg #[.bool (decide (num true (val (parts (x.natAbs / y.natAbs))) < 0)), .slice a6 l6 c6], .agg #[.bool (decide (num sy (val (parts (x.natAbs % y.natAbs))) < 0)), .slice a7 l7 c7]]) (by simp [results, Tryz.results131, go_sem, f1, f2, g1, g2]) rfl ?_)
  all_goals (
    have hQ := hs67.store2 f1 f2 (.bool (decide (num true (val (parts (x.natAbs / y.natAbs))) < 0))) (.slice a6 l6 c6)
    have hQ2 := hQ.store2 (g := w.heap.size + 3) (set2_other g1 (by simp)) (set2_other g2 (by simp)) (.bool (decide (num sy (val (parts (x.natAbs % y.natAbs))) < 0))) (.slice a7 l7 c7)
    have hR7 := hs7.store2 f1 f2 (.bool (decide (num true (val (parts (x.natAbs / y.natAbs))) < 0))) (.slice a6 l6 c6)
    have hR2 := hR7.store2 (g := w.heap.size + 3) (set2_other g1 (by simp)) (set2_other g2 (by simp)) (.bool (decide (num sy (val (parts (x.natAbs % y.natAbs))) < 0))) (.slice a7 l7 c7)
    rw [hfin.out.1] at hQ2 hR2 ⊢
    rw [hfin.out.2] at hQ2 hR2 ⊢
    exact ⟨a6, l6, c6, a7, l7, c7, rfl, hQ2, hR2, ((((((hbb.trans ((Below.undrew hb6).mono (by show _ ≤ w0.heap.size; omega))).trans (hb7.mono (by omega))).setCell (by simp; omega) _).setCell (by simp; omega) _).setCell (by simp; omega) _).setCell (by simp; omega) _)⟩)

set_option maxHeartbeats 4000000 in
theorem divide_diff1 (x y : Int) (ax : Option Addr) (la ca : Nat) (ay : Option Addr) (lb cb : Nat) (w : World) (hx : Sl w ax la ca (parts x.natAbs)) (hy : Sl w ay lb cb (parts y.natAbs)) (hm : la ≤ 100000) (_hm2 : lb ≤ 100000) (hy0 : y ≠ 0) (hs : decide (x < 0) ≠ decide (y < 0)) (hr0 : x.natAbs % y.natAbs ≠ 0) :
    Calls Tryz.prog 131 #[.agg #[.bool (decide (x < 0)), .slice ax la ca], .agg #[.bool (decide (y < 0)), .slice ay lb cb]] w (RetNN (flq x y) (flr x y) w) := by
  have hfin := Lib.hid (div_diff1 x y hy0 hs hr0)
  have hyn : 0 < y.natAbs := by omega
  generalize hsx : decide (x < 0) = sx at *
  generalize hsy : decide (y < 0) = sy at *
  have hq : (sx == sy) = false := by simpa using hs
  have hrl := Lib.hid (Nat.mod_lt x.natAbs hyn)
  have Hr0 := Lib.hid hr0
  clear hsx hsy hyn hs hr0
  go_enter Tryz.func131, Tryz.ntmps131
  go_wp2_with fail
  refine (divP_any _ _ _ x.natAbs _ _ _ y.natAbs _ ((((hx.alloc _).alloc _).alloc _).alloc _) ((((hy.alloc _).alloc _).alloc _).alloc _) hm (by omega)).mono ?_
  rintro e w0 ⟨aq, lq, cq, ar, lr, cr, rfl, hsq, hsr, hb0⟩
  have hy1 := ((((hy.alloc (.cells #[.bool sx, .slice ax la ca] 24)).alloc (.cells #[.bool sy, .slice ay lb cb] 24)).alloc (.cells #[.bool false, .slice none 0 0] 24)).alloc (.cells #[.bool false, .slice none 0 0] 24)).below hb0
  obtain ⟨hA, hB, hR, hS, hsz, hbb⟩ := kept4 _ _ _ _ _ hb0
  have HA := Lib.hid hA; have HB := Lib.hid hB; have HR := Lib.hid hR; have HS := Lib.hid hS
  obtain ⟨k1, k2, k3, k4, k5⟩ := box2 hA
  obtain ⟨l1, l2, l3, l4, l5⟩ := box2 hB
  clear hA hB hR hS hb0
  have hlr : 0 < lr := by
    have := hsr.length
    have h2 := (parts_nil_iff (x.natAbs % y.natAbs)).1
    rcases Nat.eq_zero_or_pos lr with h | h
    · exact absurd (h2 (List.eq_nil_of_length_eq_zero (by omega))) Hr0.out
    · exact h
  have hlq : lq ≤ 100000 := by
    have h1 := hsq.length; have h2 := hx.length
    have h3 := parts_len_mono (Nat.div_le_self x.natAbs y.natAbs)
    omega
  have hrow : RowOf (w0.alloc (.cells #[.int .i64 1] 3)) w0.heap.size [1] := heap_new w0 _
  have hone := hrow.sl 1 rfl (by omega)
  rw [← parts_1] at hone
  go_wp2_with fail
  refine (add_parts _ _ _ _ _ _ _ _ _ (hsq.alloc _) hone (by omega) (by omega)).mono ?_
  rintro e w1 ⟨aq2, lq2, cq2, rfl, hsq2, hb1⟩
  obtain ⟨_, hz1, hbb1⟩ := kept1 _ _ hb1
  have hy2 := hy1.below hbb1
  have hsr2 := hsr.below hbb1
  have HB1 := Lib.hid ((hbb1.block _ (by omega)).trans HB.out)
  obtain ⟨s1, s2, s3, s4, s5⟩ := box2 HB1.out
  clear k1 k2 k3 k4 k5 l1 l2 l3 l4 l5 hb1
  go_wp2_with fail
  refine (sub_parts _ _ _ _ _ _ _ _ _ hy2 hsr2 (by omega) (Nat.le_of_lt hrl.out)).mono ?_
  rintro e w2 ⟨ar2, lr2, cr2, rfl, hsr3, hb2⟩
  have hsq3 := hsq2.below hb2
  have hz2 := hb2.size
  have HB2 := Lib.hid ((hb2.block _ (by omega)).trans HB1.out)
  have HR2 := Lib.hid ((hb2.block _ (by omega)).trans ((hbb1.block _ (by omega)).trans HR.out))
  have HS2 := Lib.hid ((hb2.block _ (by omega)).trans ((hbb1.block _ (by omega)).trans HS.out))
  clear HA HB HR HS HB1 s1 s2 s3 s4 s5
  obtain ⟨l1, l2, l3, l4, l5⟩ := box2 HB2.out
  have hbb := (hbb.trans (hbb1.mono (by omega))).trans (hb2.mono (by omega))
  have HB := HB2; have HR := HR2; have HS := HS2
  go_wp2
  go_region_held3 (fun w' => w'.cell? ⟨w.heap.size + 1, 0, none⟩ = some (.bool sy)) (first | exact n1 | exact p1 | exact l1 | exact (set2_other n1 (by simp)) | exact (set2_other (set2_other n1 (by simp)) (by simp))) (first | (go_at_call_of 79 (Value.slice aq2 lq2 cq2); (refine (signed_any _ _ _ _ _ _ (by exact hsq3.drew) (parts_dig _)).mono ?_); rintro e w6 ⟨a6, l6, c6, rfl, hs6, hb6⟩; obtain ⟨p1, p2, p3, p4, p5⟩ := box2 (w := w6) (g := w.heap.size + 1) (by rw [hb6.block _ (by show _ < w2.heap.size; omega)]; exact HB.out); have hsr6 := (hsr3.drew).below hb6; have hz6 : w2.heap.size ≤ w6.heap.size := hb6.size) | (go_at_call_of 79 (Value.slice ar2 lr2 cr2); (refine (signed_any _ _ _ _ _ _ hsr6 (parts_dig _)).mono ?_); rintro e w7 ⟨a7, l7, c7, rfl, hs7, hb7⟩; have hs67 := hs6.below hb7; obtain ⟨n1, n2, n3, n4, n5⟩ := box2 (w := w7) (g := w.heap.size + 1) (by rw [hb7.block _ (by omega), hb6.block _ (by show _ < w2.heap.size; omega)]; exact HB.out); obtain ⟨f1, f2, f3, f4, f5⟩ := box2 (w := w7) (g := w.heap.size + 2) (by rw [hb7.block _ (by omega), hb6.block _ (by show _ < w2.heap.size; omega)]; exact HR.out); obtain ⟨g1, g2, g3, g4, g5⟩ := box2 (w := w7) (g := w.heap.size + 3) (by rw [hb7.block _ (by omega), hb6.block _ (by show _ < w2.heap.size; omega)]; exact HS.out)))
  all_goals go_wp2
  all_goals (refine bodyPost_ret (v := .tuple #[.agg #[.bool (decide (num true (val (parts (x.natAbs / y.natAbs + 1))) < 0)), .slice a6 l6 c6], .agg #[.bool (decide (num sy (val (parts (y.natAbs - x.natAbs % y.natAbs))) < 0)), .slice a7 l7 c7]]) (by simp [results, Tryz.results131, go_sem, f1, f2, g1, g2]) rfl ?_)
  all_goals (
    have hQ := hs67.store2 f1 f2 (.bool (decide (num true (val (parts (x.natAbs / y.natAbs + 1))) < 0))) (.slice a6 l6 c6)
    have hQ2 := hQ.store2 (g := w.heap.size + 3) (set2_other g1 (by simp)) (set2_other g2 (by simp)) (.bool (decide (num sy (val (parts (y.natAbs - x.natAbs % y.natAbs))) < 0))) (.slice a7 l7 c7)
    have hR7 := hs7.store2 f1 f2 (.bool (decide (num true (val (parts (x.natAbs / y.natAbs + 1))) < 0))) (.slice a6 l6 c6)
    have hR2 := hR7.store2 (g := w.heap.size + 3) (set2_other g1 (by simp)) (set2_other g2 (by simp)) (.bool (decide (num sy (val (parts (y.natAbs - x.natAbs % y.natAbs))) < 0))) (.slice a7 l7 c7)
    rw [hfin.out.1] at hQ2 hR2 ⊢
    rw [hfin.out.2] at hQ2 hR2 ⊢
    exact ⟨a6, l6, c6, a7, l7, c7, rfl, hQ2, hR2, ((((((hbb.trans ((Below.undrew hb6).mono (by show _ ≤ w2.heap.size; omega))).trans (hb7.mono (by omega))).setCell (by simp; omega) _).setCell (by simp; omega) _).setCell (by simp; omega) _).setCell (by simp; omega) _)⟩)

/-- divide. -/
theorem divide_any (x y : Int) (ax : Option Addr) (la ca : Nat) (ay : Option Addr) (lb cb : Nat) (w : World) (hx : Sl w ax la ca (parts x.natAbs)) (hy : Sl w ay lb cb (parts y.natAbs)) (hm : la ≤ 100000) (hm2 : lb ≤ 100000) (hy0 : y ≠ 0) :
    Calls Tryz.prog 131 #[.agg #[.bool (decide (x < 0)), .slice ax la ca], .agg #[.bool (decide (y < 0)), .slice ay lb cb]] w (RetNN (flq x y) (flr x y) w) := by
  by_cases hs : decide (x < 0) = decide (y < 0)
  · exact divide_same x y ax la ca ay lb cb w hx hy hm hm2 hy0 hs
  · by_cases hr : x.natAbs % y.natAbs = 0
    · exact divide_diff0 x y ax la ca ay lb cb w hx hy hm hm2 hy0 hs hr
    · exact divide_diff1 x y ax la ca ay lb cb w hx hy hm hm2 hy0 hs hr
end Go.Proofs.YtfjnplhhgdfepaaGreatDoor

/- quotient and remainder. -/
namespace Go.Proofs.YtfjnplhhgdfepaaGreatDoor
open Go.RowKit

set_option maxHeartbeats 1000000 in
theorem quotient_any (x y : Int) (ax : Option Addr) (la ca : Nat) (ay : Option Addr) (lb cb : Nat) (w : World) (hx : Sl w ax la ca (parts x.natAbs)) (hy : Sl w ay lb cb (parts y.natAbs)) (hm : la ≤ 100000) (hm2 : lb ≤ 100000) (hy0 : y ≠ 0) :
    Calls Tryz.prog 106 #[.agg #[.bool (decide (x < 0)), .slice ax la ca], .agg #[.bool (decide (y < 0)), .slice ay lb cb]] w (RetN (flq x y) w) := by
  have hdiv := fun w h1 h2 => divide_any x y ax la ca ay lb cb w h1 h2 hm hm2 hy0
  generalize hsx : decide (x < 0) = sx at *
  generalize hsy : decide (y < 0) = sy at *
  have Hdiv := Lib.hid hdiv
  clear hdiv hsx hsy
  go_enter Tryz.func106, Tryz.ntmps106
  go_wp2_with fail
  refine (Hdiv.out _ (((hx.alloc _).alloc _).alloc _) (((hy.alloc _).alloc _).alloc _)).mono ?_
  rintro e w0 ⟨aq, lq, cq, ar, lr, cr, rfl, hsq, hsr, hb0⟩
  obtain ⟨hA, hB, hR, hsz, hbb⟩ := kept3 _ _ _ _ hb0
  obtain ⟨f1, f2, f3, f4, f5⟩ := box2 (w := (w0.alloc (.cells #[.bool (decide (flq x y < 0)), .slice aq lq cq] 24)).alloc (.cells #[.bool (decide (flr x y < 0)), .slice ar lr cr] 24)) (g := w.heap.size + 1 + 1) (by rw [Below.heap_alloc _ _ _ (by simp; omega), Below.heap_alloc _ _ _ (by omega)]; exact hR)
  clear hA hB hR hb0
  generalize hdq : decide (flq x y < 0) = dq at *
  generalize hdr : decide (flr x y < 0) = dr at *
  have Hdq := Lib.hid hdq
  clear hdq hdr
  go_wp2
  refine bodyPost_ret (v := .agg #[.bool dq, .slice aq lq cq]) (by simp [results, Tryz.results106, go_sem, f1, f2]) rfl ?_
  exact ⟨aq, lq, cq, by rw [Hdq.out], ((hsq.alloc _).alloc _).store2 f1 f2 _ _, ((((hbb.alloc (by omega) _).alloc (by simp; omega) _).setCell (by simp; omega) _).setCell (by simp; omega) _)⟩
set_option maxHeartbeats 1000000 in
theorem remainder_any (x y : Int) (ax : Option Addr) (la ca : Nat) (ay : Option Addr) (lb cb : Nat) (w : World) (hx : Sl w ax la ca (parts x.natAbs)) (hy : Sl w ay lb cb (parts y.natAbs)) (hm : la ≤ 100000) (hm2 : lb ≤ 100000) (hy0 : y ≠ 0) :
    Calls Tryz.prog 149 #[.agg #[.bool (decide (x < 0)), .slice ax la ca], .agg #[.bool (decide (y < 0)), .slice ay lb cb]] w (RetN (flr x y) w) := by
  have hdiv := fun w h1 h2 => divide_any x y ax la ca ay lb cb w h1 h2 hm hm2 hy0
  generalize hsx : decide (x < 0) = sx at *
  generalize hsy : decide (y < 0) = sy at *
  have Hdiv := Lib.hid hdiv
  clear hdiv hsx hsy
  go_enter Tryz.func149, Tryz.ntmps149
  go_wp2_with fail
  refine (Hdiv.out _ (((hx.alloc _).alloc _).alloc _) (((hy.alloc _).alloc _).alloc _)).mono ?_
  rintro e w0 ⟨aq, lq, cq, ar, lr, cr, rfl, hsq, hsr, hb0⟩
  obtain ⟨hA, hB, hR, hsz, hbb⟩ := kept3 _ _ _ _ hb0
  obtain ⟨f1, f2, f3, f4, f5⟩ := box2 (w := (w0.alloc (.cells #[.bool (decide (flq x y < 0)), .slice aq lq cq] 24)).alloc (.cells #[.bool (decide (flr x y < 0)), .slice ar lr cr] 24)) (g := w.heap.size + 1 + 1) (by rw [Below.heap_alloc _ _ _ (by simp; omega), Below.heap_alloc _ _ _ (by omega)]; exact hR)
  clear hA hB hR hb0
  generalize hdq : decide (flq x y < 0) = dq at *
  generalize hdr : decide (flr x y < 0) = dr at *
  have Hdr := Lib.hid hdr
  clear hdq hdr
  go_wp2
  refine bodyPost_ret (v := .agg #[.bool dr, .slice ar lr cr]) (by simp [results, Tryz.results149, go_sem, f1, f2]) rfl ?_
  exact ⟨ar, lr, cr, by rw [Hdr.out], ((hsr.alloc _).alloc _).store2 f1 f2 _ _, ((((hbb.alloc (by omega) _).alloc (by simp; omega) _).setCell (by simp; omega) _).setCell (by simp; omega) _)⟩
end Go.Proofs.YtfjnplhhgdfepaaGreatDoor

/- Bezout's lines: mathematics. -/
namespace Go.Proofs.YtfjnplhhgdfepaaGreatDoor

/-- Two numbers whose product is not positive: the size of their difference. -/
theorem abs_sub_opp {p q : Int} (h : p * q ≤ 0) : (p - q).natAbs = p.natAbs + q.natAbs := by
  rcases Int.lt_trichotomy p 0 with hp | rfl | hp
  · have : 0 ≤ q := by
      rcases Int.lt_or_le q 0 with hq | hq
      · have := Int.mul_pos_of_neg_of_neg hp hq; omega
      · exact hq
    omega
  · omega
  · have : q ≤ 0 := by
      rcases Int.lt_or_le 0 q with hq | hq
      · have := Int.mul_pos hp hq; omega
      · exact hq
    omega
theorem sq_nonneg (x : Int) : 0 ≤ x * x := by
  rcases Int.le_total 0 x with h | h
  · exact Int.mul_nonneg h h
  · exact Int.mul_nonneg_of_nonpos_of_nonpos h h
theorem neg_mul_le {m q : Int} (hm : m < 0) (hq : q < 0) : -m ≤ m * q := by
  have := Int.mul_nonneg_of_nonpos_of_nonpos (show m ≤ 0 by omega) (show q + 1 ≤ 0 by omega)
  rw [Int.mul_add] at this; omega
theorem abs_add_same {p q : Int} (h : 0 ≤ p * q) : (p + q).natAbs = p.natAbs + q.natAbs := by
  have := abs_sub_opp (p := p) (q := -q) (by rw [Int.mul_neg]; omega)
  rw [Int.sub_neg, Int.natAbs_neg] at this
  exact this

/-- The quotient of a round: n = m * q + r, r has m's sign and is smaller in size. -/
structure Quo (n m q r : Int) : Prop where
  eq : n = m * q + r
  pos : 0 < m → 0 ≤ r ∧ r < m
  neg : m < 0 → m < r ∧ r ≤ 0
theorem Quo.lt {n m q r : Int} (h : Quo n m q r) (hm : m ≠ 0) : r.natAbs < m.natAbs := by
  rcases Int.lt_or_gt_of_ne hm with h1 | h1
  · have := h.neg h1; omega
  · have := h.pos h1; omega
theorem Quo.sg {n m q r : Int} (h : Quo n m q r) (hm : m ≠ 0) : 0 ≤ m * r := by
  rcases Int.lt_or_gt_of_ne hm with h1 | h1
  · have := h.neg h1; exact Int.mul_nonneg_of_nonpos_of_nonpos (by omega) (by omega)
  · have := h.pos h1; exact Int.mul_nonneg (by omega) (by omega)
/-- Where both have one sign, the quotient is not negative, and sizes divide as numbers do. -/
theorem Quo.same {n m q r : Int} (h : Quo n m q r) (hm : m ≠ 0) (hs : 0 ≤ n * m) : 0 ≤ q ∧ n.natAbs = m.natAbs * q.natAbs + r.natAbs := by
  have h1 := h.eq
  have hq : 0 ≤ q := by
    rcases Int.lt_or_gt_of_ne hm with hm' | hm'
    · have h2 := h.neg hm'
      rcases Int.lt_or_le q 0 with hq | hq
      · have h3 : m * q ≥ -m := by
          have := neg_mul_le hm' hq; omega
        have h4 : 0 < n := by omega
        have := Int.mul_neg_of_pos_of_neg h4 hm'
        omega
      · exact hq
    · have h2 := h.pos hm'
      rcases Int.lt_or_le q 0 with hq | hq
      · have h3 : m * q ≤ -m := by
          have := Int.mul_le_mul_of_nonneg_left (show q ≤ -1 by omega) (Int.le_of_lt hm')
          omega
        have h4 : n < 0 := by omega
        have := Int.mul_neg_of_neg_of_pos h4 hm'
        omega
      · exact hq
  refine ⟨hq, ?_⟩
  have h3 : 0 ≤ (m * q) * r := by
    have := Int.mul_nonneg (h.sg hm) hq
    rw [show m * q * r = m * r * q by grind]; exact this
  rw [h1, abs_add_same h3, Int.natAbs_mul]
/-- Where the signs are different, and the quotient is negative. -/
theorem Quo.diff {n m q r : Int} (h : Quo n m q r) (hm0 : m ≠ 0) (hq : q < 0) : n.natAbs + r.natAbs = m.natAbs * q.natAbs := by
  have h1 := h.eq
  have h3 : 0 ≤ n * (-r) := by
    rcases Int.lt_trichotomy m 0 with hm | hm | hm
    · have h2 := h.neg hm
      have h3 : m * q ≥ -m := by
        have := neg_mul_le hm hq; omega
      exact Int.mul_nonneg (by omega) (by omega)
    · exact absurd hm hm0
    · have h2 := h.pos hm
      have h3 : m * q ≤ -m := by
        have := Int.mul_le_mul_of_nonneg_left (show q ≤ -1 by omega) (Int.le_of_lt hm)
        omega
      exact Int.mul_nonneg_of_nonpos_of_nonpos (by omega) (by omega)
  have h4 := abs_add_same h3
  rw [Int.natAbs_neg] at h4
  rw [← h4, show n + -r = m * q by omega, Int.natAbs_mul]

/-- What one round of Bezout keeps, once it runs: (n, x, y) and (m, u, v) are the two lines. -/
structure Bez (a b n x y m u v : Int) : Prop where
  hn : a * x + b * y = n
  hm : a * u + b * v = m
  lt : m.natAbs < n.natAbs
  sg : 0 ≤ n * m
  xs : x * u ≤ 0
  xl : n.natAbs * u.natAbs + m.natAbs * x.natAbs = b.natAbs
  yy : (y * v ≤ 0 ∧ n.natAbs * v.natAbs + m.natAbs * y.natAbs = a.natAbs) ∨ (y = 1 ∧ 0 < v ∧ a.natAbs + m.natAbs = v.natAbs * n.natAbs)
  dv : ∀ d, d ∣ n → d ∣ m → d ∣ a ∧ d ∣ b
  bx : x.natAbs ≤ max b.natAbs 1
  by' : y.natAbs ≤ max a.natAbs 1
  bn : n.natAbs ≤ max a.natAbs b.natAbs

theorem dvd_back {n m q r d : Int} (h : n = m * q + r) (h1 : d ∣ m) (h2 : d ∣ r) : d ∣ n := by
  rw [h]; exact Int.dvd_add (Int.dvd_trans h1 (Int.dvd_mul_right m q)) h2

theorem Bez.first {a b q r : Int} (hb : b ≠ 0) (h : Quo a b q r) : Bez a b b 0 1 r 1 (-q) := by
  refine ⟨by omega, by have := h.eq; grind, h.lt hb, h.sg hb, by omega, by simp, ?_, fun d h1 h2 => ⟨dvd_back h.eq h1 h2, h1⟩, by simp, by omega, by omega⟩
  rcases Int.lt_or_le q 0 with hq | hq
  · refine .inr ⟨rfl, by omega, ?_⟩
    rw [h.diff hb hq, Int.natAbs_neg, Nat.mul_comm]
  · refine .inl ⟨by omega, ?_⟩
    have hs : 0 ≤ a * b := by
      have h1 := h.eq
      have h2 := Int.mul_nonneg (sq_nonneg b) hq
      have h3 := h.sg hb
      have : a * b = b * b * q + b * r := by rw [h1]; grind
      omega
    have := (h.same hb hs).2
    rw [Int.natAbs_neg, this]; simp

theorem Bez.sizes {a b n x y m u v : Int} (h : Bez a b n x y m u v) : u.natAbs ≤ b.natAbs ∧ v.natAbs ≤ a.natAbs := by
  have hn : 1 ≤ n.natAbs := by have := h.lt; omega
  have h1 := Nat.mul_le_mul_right u.natAbs hn
  have h2 := Nat.mul_le_mul_right v.natAbs hn
  have h3 := h.xl
  refine ⟨by omega, ?_⟩
  rcases h.yy with ⟨_, h4⟩ | ⟨_, h4, h5⟩
  · omega
  · have h6 := h.lt
    obtain ⟨k, hk⟩ : ∃ k, v.natAbs = k + 1 := ⟨v.natAbs - 1, by omega⟩
    rw [hk, Nat.add_mul] at h5
    have := Nat.mul_le_mul_left k hn
    omega

theorem Bez.step {a b n x y m u v q r : Int} (h : Bez a b n x y m u v) (hm : m ≠ 0) (hq : Quo n m q r) : Bez a b m u v r (x - q * u) (y - q * v) := by
  obtain ⟨q0, ql⟩ := hq.same hm h.sg
  have hxq : x * (q * u) ≤ 0 := by
    have := Int.mul_nonpos_of_nonpos_of_nonneg h.xs q0
    rw [show x * (q * u) = x * u * q by grind]; exact this
  have hq1 : 1 ≤ q := by
    rcases Int.lt_or_le q 1 with h1 | h1
    · have : q = 0 := by omega
      subst this
      have := h.lt; have := hq.lt hm
      simp at ql; omega
    · exact h1
  refine ⟨h.hm, ?_, hq.lt hm, hq.sg hm, ?_, ?_, ?_, fun d h1 h2 => h.dv d (dvd_back hq.eq h1 h2) h1, by have := h.sizes; omega, by have := h.sizes; omega, by have := h.bn; have := h.lt; omega⟩
  · have h1 := h.hn; have h2 := h.hm; have h3 := hq.eq
    have : a * (x - q * u) + b * (y - q * v) = (a * x + b * y) - q * (a * u + b * v) := by grind
    rw [this, h1, h2, h3]; grind
  · have h1 := Int.mul_nonneg q0 (sq_nonneg u)
    have : u * (x - q * u) = x * u - q * (u * u) := by grind
    have := h.xs
    omega
  · rw [abs_sub_opp hxq, Int.natAbs_mul, ← h.xl, ql]
    grind
  · rcases h.yy with ⟨h1, h2⟩ | ⟨h1, h2, h3⟩
    · have hyq : y * (q * v) ≤ 0 := by
        have := Int.mul_nonpos_of_nonpos_of_nonneg h1 q0
        rw [show y * (q * v) = y * v * q by grind]; exact this
      refine .inl ⟨?_, ?_⟩
      · have h1' := Int.mul_nonneg q0 (sq_nonneg v)
        have : v * (y - q * v) = y * v - q * (v * v) := by grind
        omega
      · rw [abs_sub_opp hyq, Int.natAbs_mul, ← h2, ql]
        grind
    · subst h1
      have hqv : 1 ≤ q * v := by
        have := Int.mul_le_mul hq1 (show 1 ≤ v by omega) (by omega) (by omega)
        omega
      refine .inl ⟨?_, ?_⟩
      · exact Int.mul_nonpos_of_nonneg_of_nonpos (by omega) (by omega)
      · have e : (1 - q * v).natAbs = q.natAbs * v.natAbs - 1 := by
          rw [← Int.natAbs_mul]; omega
        have e1 : 1 ≤ q.natAbs * v.natAbs := by rw [← Int.natAbs_mul]; omega
        rw [e]
        have e2 : m.natAbs * (q.natAbs * v.natAbs - 1) + m.natAbs = m.natAbs * (q.natAbs * v.natAbs) := by
          obtain ⟨k, hk⟩ : ∃ k, q.natAbs * v.natAbs = k + 1 := ⟨_, (Nat.sub_add_cancel e1).symm⟩
          rw [hk]; simp [Nat.mul_succ]
        have e3 : v.natAbs * n.natAbs = m.natAbs * (q.natAbs * v.natAbs) + r.natAbs * v.natAbs := by
          rw [ql]; grind
        omega


theorem Quo.fl (n m : Int) (hm : m ≠ 0) : Quo n m (flq n m) (n - m * flq n m) := by
  obtain ⟨h1, h2, h3⟩ := fl_spec n m hm
  unfold flr at h1 h2 h3
  exact ⟨by omega, h2, h3⟩
theorem Quo.size {n m q r : Int} (h : Quo n m q r) (hm : m ≠ 0) : q.natAbs ≤ n.natAbs + 1 := by
  have h1 := h.eq
  have h2 := h.lt hm
  have h3 : m.natAbs * q.natAbs ≤ n.natAbs + r.natAbs := by
    rw [← Int.natAbs_mul, show m * q = n - r by omega]; omega
  rcases Nat.eq_zero_or_pos q.natAbs with h0 | h0
  · omega
  · obtain ⟨k, hk⟩ : ∃ k, q.natAbs = k + 1 := ⟨q.natAbs - 1, by omega⟩
    have h4 : k ≤ m.natAbs * k := Nat.le_mul_of_pos_left _ (by omega)
    rw [hk, Nat.mul_succ] at h3
    omega
theorem parts_len_mul (x y : Int) (k l : Nat) (hx : (parts x.natAbs).length ≤ k) (hy : (parts y.natAbs).length ≤ l) : (parts (x * y).natAbs).length ≤ k + l := by
  rw [parts_len] at *
  rw [Int.natAbs_mul, Nat.pow_add]
  exact Nat.mul_lt_mul'' hx hy
theorem parts_len_le {x y : Nat} (h : x ≤ y) : (parts x).length ≤ (parts y).length := by
  rw [parts_len]
  exact Nat.lt_of_le_of_lt h ((parts_len y _).1 (Nat.le_refl _))

/-- Bezout's lines, up to the one ahead of the one that begins with 0. -/
def bezL (n x y m u v : Int) : Int × Int × Int :=
  if h : m = 0 then (n, x, y) else bezL m u v (n - flq n m * m) (x - flq n m * u) (y - flq n m * v)
termination_by m.natAbs
decreasing_by
  have := (Quo.fl n m h).lt h
  rw [Int.mul_comm] at this
  exact this
theorem bezL_zero (n x y u v : Int) : bezL n x y 0 u v = (n, x, y) := by rw [bezL]; simp
theorem bezL_step (n x y m u v : Int) (h : m ≠ 0) : bezL n x y m u v = bezL m u v (n - flq n m * m) (x - flq n m * u) (y - flq n m * v) := by
  rw [bezL, dif_neg h]
/-- g, x and y of Bezout. -/
def bez (a b : Int) : Int × Int × Int :=
  let r := bezL a 1 0 b 0 1
  if r.1 < 0 then (-r.1, -r.2.1, -r.2.2) else r
/-- What the loop of Bezout keeps. -/
def BezInv (a b n x y m u v : Int) : Prop := bezL n x y m u v = bezL a 1 0 b 0 1 ∧ ((n = a ∧ x = 1 ∧ y = 0 ∧ m = b ∧ u = 0 ∧ v = 1) ∨ Bez a b n x y m u v)
theorem BezInv.start (a b : Int) : BezInv a b a 1 0 b 0 1 := ⟨rfl, .inl ⟨rfl, rfl, rfl, rfl, rfl, rfl⟩⟩
theorem BezInv.step {a b n x y m u v : Int} (h : BezInv a b n x y m u v) (hm : m ≠ 0) : BezInv a b m u v (n - flq n m * m) (x - flq n m * u) (y - flq n m * v) ∧ (n - flq n m * m).natAbs < m.natAbs := by
  have hq := Quo.fl n m hm
  rw [Int.mul_comm m] at hq
  refine ⟨⟨by rw [← bezL_step _ _ _ _ _ _ hm]; exact h.1, .inr ?_⟩, hq.lt hm⟩
  rcases h.2 with ⟨rfl, rfl, rfl, rfl, rfl, rfl⟩ | h
  · have := Bez.first hm hq
    rw [show 1 - flq n m * 0 = 1 by omega, show 0 - flq n m * 1 = -flq n m by omega]
    exact this
  · exact h.step hm hq
/-- All numbers on the way are integers. -/
theorem BezInv.lim {a b n x y m u v : Int} (h : BezInv a b n x y m u v) (ha : Lim a) (hb : Lim b) : Lim n ∧ Lim x ∧ Lim y ∧ Lim m ∧ Lim u ∧ Lim v := by
  have h1 : Lim 1 := lim_small 1 (by decide)
  have key : ∀ z : Int, z.natAbs ≤ max (max a.natAbs b.natAbs) 1 → Lim z := by
    intro z hz
    by_cases h2 : z.natAbs ≤ a.natAbs
    · exact lim_mono h2 ha
    · by_cases h3 : z.natAbs ≤ b.natAbs
      · exact lim_mono h3 hb
      · exact lim_mono (by simp; omega) h1
  rcases h.2 with ⟨rfl, rfl, rfl, rfl, rfl, rfl⟩ | h
  · exact ⟨ha, h1, key 0 (by simp), hb, key 0 (by simp), h1⟩
  · have q1 := h.bn; have q2 := h.bx; have q3 := h.by'; have q4 := h.sizes; have q5 := h.lt
    generalize a.natAbs = A at *
    generalize b.natAbs = B at *
    have e1 : n.natAbs ≤ max (max A B) 1 := by omega
    have e2 : x.natAbs ≤ max (max A B) 1 := by omega
    have e3 : y.natAbs ≤ max (max A B) 1 := by omega
    have e4 : m.natAbs ≤ max (max A B) 1 := by omega
    have e5 : u.natAbs ≤ max (max A B) 1 := by omega
    have e6 : v.natAbs ≤ max (max A B) 1 := by omega
    exact ⟨key _ e1, key _ e2, key _ e3, key _ e4, key _ e5, key _ e6⟩
theorem pow_more (q n k : Nat) (h1 : q ≤ n + 1) (hn : n < 1000000000 ^ k) : q < 1000000000 ^ (k + 1) := by
  rw [Nat.pow_succ]
  generalize (1000000000 : Nat) ^ k = P at *
  omega
theorem flq_len (n m : Int) (hm : m ≠ 0) (hn : Lim n) : (parts (flq n m).natAbs).length ≤ 41 :=
  (parts_len _ 41).2 (pow_more _ _ 40 ((Quo.fl n m hm).size hm) ((lim_iff n).1 hn))
/-- What Bezout hands back, where it is there. -/
theorem bez_spec (a b : Int) : 0 ≤ (bez a b).1 ∧ a * (bez a b).2.1 + b * (bez a b).2.2 = (bez a b).1 ∧ (bez a b).1 ∣ a ∧ (bez a b).1 ∣ b ∧ (bez a b).2.1.natAbs ≤ max b.natAbs 1 ∧ (bez a b).2.2.natAbs ≤ max a.natAbs 1 := by
  have key : ∀ (k : Nat) (n x y m u v : Int), m.natAbs ≤ k → BezInv a b n x y m u v → ∃ n x y, bezL a 1 0 b 0 1 = (n, x, y) ∧ a * x + b * y = n ∧ n ∣ a ∧ n ∣ b ∧ x.natAbs ≤ max b.natAbs 1 ∧ y.natAbs ≤ max a.natAbs 1 := by
    intro k
    induction k with
    | zero =>
      intro n x y m u v hk h
      obtain rfl : m = 0 := by omega
      refine ⟨n, x, y, by rw [← h.1, bezL_zero], ?_⟩
      rcases h.2 with ⟨rfl, rfl, rfl, rfl, rfl, rfl⟩ | h
      · exact ⟨by omega, Int.dvd_refl _, Int.dvd_zero _, by simp, by simp⟩
      · obtain ⟨h1, h2⟩ := h.dv n (Int.dvd_refl _) (Int.dvd_zero _)
        exact ⟨h.hn, h1, h2, h.bx, h.by'⟩
    | succ k ih =>
      intro n x y m u v hk h
      by_cases hm : m = 0
      · exact ih n x y m u v (by omega) h
      · obtain ⟨h1, h2⟩ := h.step hm
        exact ih _ _ _ _ _ _ (by omega) h1
  obtain ⟨n, x, y, h1, h2, h3, h4, h5, h6⟩ := key b.natAbs a 1 0 b 0 1 (Nat.le_refl _) (BezInv.start a b)
  unfold bez
  rw [h1]
  simp only
  split
  · refine ⟨by simp; omega, ?_, ?_, ?_, by simpa using h5, by simpa using h6⟩
    · simp only [Int.mul_neg]; omega
    · exact Int.neg_dvd.2 h3
    · exact Int.neg_dvd.2 h4
  · exact ⟨by simp; omega, h2, h3, h4, h5, h6⟩
end Go.Proofs.YtfjnplhhgdfepaaGreatDoor

/- The numbers that the check of examples reckons with. -/
namespace Go.Proofs.YtfjnplhhgdfepaaGreatDoor
open Go.RowKit Go.Lib

theorem parts_single (n : Nat) (h : 0 < n) (h2 : n < 1000000000) : parts n = [(n : Int)] := by
  rw [parts_pos n h, Nat.mod_eq_of_lt h2, Nat.div_eq_of_lt h2, parts_zero]
theorem parts_two (a b n : Nat) (h : n = b * 1000000000 + a) (ha : a < 1000000000) (h0 : 0 < b) (hb : b < 1000000000) : parts n = [(a : Int), (b : Int)] := by
  rw [parts_pos n (by omega), show n % 1000000000 = a by omega, show n / 1000000000 = b by omega, parts_single b h0 hb]
theorem sane_parts1 : parts (-1000000000 : Int).natAbs = [0, 1] := parts_two 0 1 _ (by decide) (by decide) (by decide) (by decide)
theorem sane_parts2 : parts (-12345678901 : Int).natAbs = [345678901, 12] := parts_two 345678901 12 _ (by decide) (by decide) (by decide) (by decide)
theorem sane_parts3 : parts (1000000001 : Int).natAbs = [1, 1] := parts_two 1 1 _ (by decide) (by decide) (by decide) (by decide)
theorem sane_bytes : bytesOf 1000000001 = [2, 0, 0, 0, 1, 0, 0, 0, 1] := by
  unfold bytesOf
  rw [sane_parts3]
  decide
theorem sane_read1 : readErr ⟨#[45, 49, 50, 51, 52, 53, 54, 55, 56, 57, 48, 49]⟩ = 0 := by decide +kernel
theorem sane_read1v : readVal ⟨#[45, 49, 50, 51, 52, 53, 54, 55, 56, 57, 48, 49]⟩ = -12345678901 := by decide +kernel
theorem sane_read2 : readErr ⟨#[48, 48, 55]⟩ = 12 := by decide +kernel
theorem sane_read2v : readVal ⟨#[48, 48, 55]⟩ = 0 := by decide +kernel
theorem sane_read3 : readErr ⟨#[45, 48]⟩ = 12 := by decide +kernel
theorem sane_read3v : readVal ⟨#[45, 48]⟩ = 0 := by decide +kernel
theorem sane_div1 : flq (-7) 2 = -4 := by decide
theorem sane_mod1 : flr (-7) 2 = 1 := by decide
theorem sane_div2 : flq 7 (-2) = -4 := by decide
theorem sane_mod2 : flr 7 (-2) = -1 := by decide
theorem sane_pow : (2 : Int) ^ (100 : Int).natAbs = 1267650600228229401496703205376 := by decide
theorem sane_lim : Lim 1267650600228229401496703205376 := (lim_iff _).2 (by decide +kernel)
theorem sane_txt : txt 1267650600228229401496703205376 = [49, 50, 54, 55, 54, 53, 48, 54, 48, 48, 50, 50, 56, 50, 50, 57, 52, 48, 49, 52, 57, 54, 55, 48, 51, 50, 48, 53, 51, 55, 54] := by
  unfold txt
  rw [show (1267650600228229401496703205376 : Int) = ((1267650600228229401496703205376 : Nat) : Int) from rfl, itoa_nonneg, decDigits_eq, nDigits_unique 30 _ (by decide +kernel) (by decide +kernel)]
  decide +kernel
theorem bezL_to (n x y m u v q n' u' v' : Int) (h : m ≠ 0) (hq : flq n m = q) (h1 : n - q * m = n') (h2 : x - q * u = u') (h3 : y - q * v = v') : bezL n x y m u v = bezL m u v n' u' v' := by
  rw [bezL_step _ _ _ _ _ _ h, hq, h1, h2, h3]
theorem sane_bez : bez 240 46 = (2, (-9), 47) := by
  unfold bez
  rw [bezL_to 240 1 0 46 0 1 5 10 1 (-5) (by decide) (by decide) (by decide) (by decide) (by decide), bezL_to 46 0 1 10 1 (-5) 4 6 (-4) 21 (by decide) (by decide) (by decide) (by decide) (by decide), bezL_to 10 1 (-5) 6 (-4) 21 1 4 5 (-26) (by decide) (by decide) (by decide) (by decide) (by decide), bezL_to 6 (-4) 21 4 5 (-26) 1 2 (-9) 47 (by decide) (by decide) (by decide) (by decide) (by decide), bezL_to 4 5 (-26) 2 (-9) 47 2 0 23 (-120) (by decide) (by decide) (by decide) (by decide) (by decide), bezL_zero]
  decide
theorem ch_to (n k a b : Nat) (h : k ≤ n) (ha : ch n k = a) (hb : b * (k + 1) = a * (n - k)) : ch n (k + 1) = b := by
  have := ch_step n k h
  rw [ha, ← hb] at this
  exact Nat.eq_of_mul_eq_mul_right (by omega) this
theorem sane_ch : ch 40 20 = 137846528820 :=
  ch_to 40 19 131282408400 137846528820 (by decide) (ch_to 40 18 113380261800 131282408400 (by decide) (ch_to 40 17 88732378800 113380261800 (by decide) (ch_to 40 16 62852101650 88732378800 (by decide) (ch_to 40 15 40225345056 62852101650 (by decide) (ch_to 40 14 23206929840 40225345056 (by decide) (ch_to 40 13 12033222880 23206929840 (by decide) (ch_to 40 12 5586853480 12033222880 (by decide) (ch_to 40 11 2311801440 5586853480 (by decide) (ch_to 40 10 847660528 2311801440 (by decide) (ch_to 40 9 273438880 847660528 (by decide) (ch_to 40 8 76904685 273438880 (by decide) (ch_to 40 7 18643560 76904685 (by decide) (ch_to 40 6 3838380 18643560 (by decide) (ch_to 40 5 658008 3838380 (by decide) (ch_to 40 4 91390 658008 (by decide) (ch_to 40 3 9880 91390 (by decide) (ch_to 40 2 780 9880 (by decide) (ch_to 40 1 40 780 (by decide) (ch_to 40 0 1 40 (by decide) (ch_zero 40) (by decide)) (by decide)) (by decide)) (by decide)) (by decide)) (by decide)) (by decide)) (by decide)) (by decide)) (by decide)) (by decide)) (by decide)) (by decide)) (by decide)) (by decide)) (by decide)) (by decide)) (by decide)) (by decide)) (by decide)
end Go.Proofs.YtfjnplhhgdfepaaGreatDoor

/- The reference's size, Compare, Sign and Same. -/
namespace Go.Proofs.YtfjnplhhgdfepaaGreatDoor
open Go.RowKit

set_option maxHeartbeats 1000000 in
theorem size_any (ax : Option Addr) (la ca : Nat) (xs : List Int) (ay : Option Addr) (lb cb : Nat) (ys : List Int) (w : World) (hx : Sl w ax la ca xs) (hy : Sl w ay lb cb ys) :
    Calls Tryz.prog 94 #[.slice ax la ca, .slice ay lb cb] w (RetI (cmpL xs ys) w) := by
  have hbx := hx.len_le
  have hby := hy.len_le
  have hlx := Lib.hid hx.length
  have hly := Lib.hid hy.length
  rcases Nat.lt_trichotomy la lb with hne | hne | hne
  · go_enter Tryz.func94, Tryz.ntmps94
    go_wp2
    go_ret
    refine ⟨?_, 0, rfl⟩
    have : cmpL xs ys = -1 := by unfold cmpL; rw [hlx.out, hly.out, if_pos (by omega)]
    rw [this]; rfl
  · subst hne
    go_enter Tryz.func94, Tryz.ntmps94
    go_wp2
    go_loopw [5] (fun i wr => ∃ k : Nat, k ≤ la ∧ (∃ iv : Int, i = .int .i64 iv ∧ iv = (k : Int) - 1) ∧ cmpE (xs.take k) (ys.take k) = cmpE xs ys ∧ ∃ n, wr = w.drewN n) (fun i _ => (intOf i + 1).toNat)
    case atStart => exact ⟨la, Nat.le_refl _, ⟨_, rfl, rfl⟩, by rw [List.take_of_length_le (by rw [hlx.out]; exact Nat.le_refl _), List.take_of_length_le (by rw [hly.out]; exact Nat.le_refl _)], 0, rfl⟩
    case round =>
      obtain ⟨k, hk, ⟨iv, rfl, hiv⟩, hc, n, rfl⟩ := hrel
      have Hc := Lib.hid hc
      clear hc
      rcases k with _ | k
      · obtain rfl : iv = -1 := by omega
        clear hiv
        go_wp2
        go_ret
        refine ⟨?_, n, rfl⟩
        have : cmpL xs ys = 0 := by unfold cmpL; rw [hlx.out, hly.out, if_neg (by omega), if_neg (by omega), ← Hc.out]; rfl
        rw [this]; rfl
      · obtain rfl : iv = (k : Int) := by omega
        clear hiv
        obtain ⟨bx, ox, rfl, hcx⟩ := hx.at (by omega)
        obtain ⟨by', oy, rfl, hcy⟩ := hy.at (by omega)
        have hcxk := hcx k (by omega)
        have hcyk := hcy k (by omega)
        have hstep := Lib.hid (cmpE_take xs ys k (by rw [hlx.out]; omega) (by rw [hly.out]; omega))
        generalize hxk : xs.getD k 0 = x at hcxk hstep
        generalize hyk : ys.getD k 0 = y at hcyk hstep
        clear hcx hcy hxk hyk
        have hcx' : (w.drewN n).cell? ⟨bx, ox + k, none⟩ = some (.int .i64 x) := hcxk
        have hcy' : (w.drewN n).cell? ⟨by', oy + k, none⟩ = some (.int .i64 y) := hcyk
        have c1 : (w.drewN n).drew.cell? ⟨bx, ox + k, none⟩ = some (.int .i64 x) := hcxk
        have c2 : (w.drewN n).drew.cell? ⟨by', oy + k, none⟩ = some (.int .i64 y) := hcyk
        rcases Int.lt_trichotomy x y with hxy | hxy | hxy
        · go_wp2
          go_region
          go_wp2
          go_ret
          refine ⟨?_, n + 1, rfl⟩
          have : cmpL xs ys = -1 := by
            unfold cmpL; rw [hlx.out, hly.out, if_neg (by omega), if_neg (by omega), ← Hc.out, hstep.out, if_neg (by omega)]
            unfold cmp3; rw [if_pos hxy]
          rw [this]; rfl
        · subst hxy
          go_wp2
          go_region
          go_wp2
          go_region
          go_wp2
          go_roundw
          case rel => exact ⟨k, by omega, ⟨_, rfl, rfl⟩, by rw [← Hc.out, hstep.out]; simp, n + 2, rfl⟩
          case measure => simp [intOf]
        · have hxy2 : ¬ x < y := by omega
          go_wp2
          go_region
          go_wp2
          go_region
          go_wp2
          go_ret
          refine ⟨?_, n + 2, rfl⟩
          have : cmpL xs ys = 1 := by
            unfold cmpL; rw [hlx.out, hly.out, if_neg (by omega), if_neg (by omega), ← Hc.out, hstep.out, if_neg (by omega)]
            unfold cmp3; rw [if_neg (by omega), if_neg (by omega)]
          rw [this]; rfl
  · have hne2 : ¬ la < lb := by omega
    go_enter Tryz.func94, Tryz.ntmps94
    go_wp2
    go_ret
    refine ⟨?_, 0, rfl⟩
    have : cmpL xs ys = 1 := by unfold cmpL; rw [hlx.out, hly.out, if_neg (by omega), if_pos (by omega)]
    rw [this]; rfl

theorem size_below (ax : Option Addr) (la ca : Nat) (xs : List Int) (ay : Option Addr) (lb cb : Nat) (ys : List Int) (w : World) (hx : Sl w ax la ca xs) (hy : Sl w ay lb cb ys) :
    Calls Tryz.prog 94 #[.slice ax la ca, .slice ay lb cb] w fun e w' => e = .returned (.int .i64 (cmpL xs ys)) ∧ Below w.heap.size w w' :=
  (size_any ax la ca xs ay lb cb ys w hx hy).mono fun _ _ ⟨h, k, hk⟩ => ⟨h, by rw [hk]; exact ⟨rfl, rfl, rfl, Nat.le_refl _, fun _ _ => rfl⟩⟩

set_option maxHeartbeats 1000000 in
theorem refCompare_any (n1 : Bool) (ax : Option Addr) (la ca : Nat) (xs : List Int) (n2 : Bool) (ay : Option Addr) (lb cb : Nat) (ys : List Int) (w : World) (hx : Sl w ax la ca xs) (hy : Sl w ay lb cb ys) :
    Calls Tryz.prog 39 #[.agg #[.bool n1, .slice ax la ca], .agg #[.bool n2, .slice ay lb cb]] w (RetB (cmpI n1 xs n2 ys) w) := by
  have hb := below2 w (.cells #[.bool n1, .slice ax la ca] 24) (.cells #[.bool n2, .slice ay lb cb] 24)
  cases n1 <;> cases n2
  · go_enter Tryz.func39, Tryz.ntmps39
    go_wp2_with fail
    refine (size_below _ _ _ _ _ _ _ _ _ ((hx.alloc _).alloc _) ((hy.alloc _).alloc _)).mono ?_
    rintro e w0 ⟨rfl, hb0⟩
    go_wp2
    go_ret
    exact ⟨rfl, (kept2 _ _ _ hb0).2.2.2⟩
  · go_enter Tryz.func39, Tryz.ntmps39
    go_wp2
    go_ret
    exact ⟨rfl, hb⟩
  · go_enter Tryz.func39, Tryz.ntmps39
    go_wp2
    go_ret
    exact ⟨rfl, hb⟩
  · go_enter Tryz.func39, Tryz.ntmps39
    go_wp2_with fail
    refine (size_below _ _ _ _ _ _ _ _ _ ((hy.alloc _).alloc _) ((hx.alloc _).alloc _)).mono ?_
    rintro e w0 ⟨rfl, hb0⟩
    go_wp2
    go_ret
    exact ⟨rfl, (kept2 _ _ _ hb0).2.2.2⟩

/-- Are two integers the same? -/
def sameI (n1 : Bool) (xs : List Int) (n2 : Bool) (ys : List Int) : Bool := decide (cmpI n1 xs n2 ys = 0)
set_option maxHeartbeats 1000000 in
theorem same_any (n1 : Bool) (ax : Option Addr) (la ca : Nat) (xs : List Int) (n2 : Bool) (ay : Option Addr) (lb cb : Nat) (ys : List Int) (w : World) (hx : Sl w ax la ca xs) (hy : Sl w ay lb cb ys) :
    Calls Tryz.prog 22 #[.agg #[.bool n1, .slice ax la ca], .agg #[.bool n2, .slice ay lb cb]] w (RetBool (sameI n1 xs n2 ys) w) := by
  unfold sameI
  have hc := fun w h1 h2 => refCompare_any n1 ax la ca xs n2 ay lb cb ys w h1 h2
  generalize cmpI n1 xs n2 ys = c at *
  have Hc := Lib.hid hc
  clear hc
  go_enter Tryz.func22, Tryz.ntmps22
  go_wp2_with fail
  refine (Hc.out _ ((hx.alloc _).alloc _) ((hy.alloc _).alloc _)).mono ?_
  rintro e w0 ⟨rfl, hb0⟩
  go_wp2
  go_ret
  refine ⟨?_, (kept2 _ _ _ hb0).2.2.2⟩
  rw [← show (c == 0) = decide (c = 0) from by rw [Bool.eq_iff_iff]; simp]
  rfl

set_option maxHeartbeats 1000000 in
theorem refSign_any (neg : Bool) (ao : Option Addr) (len cap : Nat) (w : World) (hm : len ≤ 9223372036854775807) :
    Calls Tryz.prog 41 #[.agg #[.bool neg, .slice ao len cap]] w (RetB (signOf neg len) w) := by
  have hb := (Below.refl w.heap.size w).alloc (Nat.le_refl _) (.cells #[.bool neg, .slice ao len cap] 24)
  by_cases h : len = 0
  · subst h
    go_enter Tryz.func41, Tryz.ntmps41
    go_wp2
    go_ret
    exact ⟨rfl, hb⟩
  · have h0 : (0 : Int) < len := by omega
    cases neg
    · go_enter Tryz.func41, Tryz.ntmps41
      go_wp2
      go_ret
      exact ⟨by unfold signOf; rw [if_neg h]; rfl, hb⟩
    · go_enter Tryz.func41, Tryz.ntmps41
      go_wp2
      go_ret
      exact ⟨by unfold signOf; rw [if_neg h]; rfl, hb⟩
end Go.Proofs.YtfjnplhhgdfepaaGreatDoor

/- The laws' helpers of, same, got, agree. A struct within a struct lies flat: its cells stand in the outer one's. -/
namespace Go.Proofs.YtfjnplhhgdfepaaGreatDoor
open Go.RowKit

set_option maxHeartbeats 1000000 in
theorem of_any (n : Int) (w : World) (h0 : -9223372036854775808 ≤ n) (h1 : n ≤ 9223372036854775807) :
    Calls Tryz.prog 69 #[.int .i64 n] w (RetN n w) := by
  have hf := fun w => from_any n w h0 h1
  generalize hsg : decide (n < 0) = sg
  have Hsg := Lib.hid hsg
  have Hf := Lib.hid hf
  clear hf hsg
  go_enter Tryz.func69, Tryz.ntmps69
  go_wp2_with fail
  refine (Hf.out _).mono ?_
  rintro e w1 ⟨ao, len, cap, rfl, hs, hb⟩
  rw [Hsg.out]
  obtain ⟨hR, hz, hbb⟩ := kept1 _ _ hb
  obtain ⟨f1, f2, f3, f4, f5⟩ := box2 hR
  clear hR hb
  go_wp2
  refine bodyPost_ret (v := .agg #[.bool sg, .slice ao len cap]) (by simp [results, Tryz.results69, go_sem, f1, f2]) rfl ?_
  exact ⟨ao, len, cap, by rw [Hsg.out], hs.store2 f1 f2 _ _, (hbb.setCell (by simp) _).setCell (by simp) _⟩

set_option maxHeartbeats 1000000 in
/-- same: the same error, and the same number. -/
theorem lawSame_any (n1 : Bool) (ax : Option Addr) (la ca : Nat) (xs : List Int) (e1 : Int) (n2 : Bool) (ay : Option Addr) (lb cb : Nat) (ys : List Int) (e2 : Int) (w : World) (hx : Sl w ax la ca xs) (hy : Sl w ay lb cb ys) :
    Calls Tryz.prog 27 #[.agg #[.bool n1, .slice ax la ca, .int .i64 e1], .agg #[.bool n2, .slice ay lb cb, .int .i64 e2]] w (RetBool (decide (e1 = e2) && sameI n1 xs n2 ys) w) := by
  have hb : ∀ o p : Obj, Below w.heap.size w ((w.alloc o).alloc p) := fun o p => below2 w o p
  have hc := fun w h1 h2 => same_any n1 ax la ca xs n2 ay lb cb ys w h1 h2
  generalize sameI n1 xs n2 ys = c at *
  have Hc := Lib.hid hc
  clear hc
  by_cases he : e1 = e2
  · subst he
    have hq : (e1 == e1) = true := by simp
    go_enter Tryz.func27, Tryz.ntmps27
    go_wp2_with fail
    refine (Hc.out _ ((hx.alloc _).alloc _) ((hy.alloc _).alloc _)).mono ?_
    rintro e w0 ⟨rfl, hb0⟩
    go_wp2
    go_ret
    exact ⟨by simp, (kept2 _ _ _ hb0).2.2.2⟩
  · have hq : (e1 == e2) = false := by simpa using he
    have hd := Lib.hid (show decide (e1 = e2) = false by simpa using he)
    go_enter Tryz.func27, Tryz.ntmps27
    go_wp2
    go_ret
    exact ⟨by rw [hd.out]; rfl, hb _ _⟩

set_option maxHeartbeats 1000000 in
/-- agree: an error, or the same number. -/
theorem agree_any (n1 : Bool) (ax : Option Addr) (la ca : Nat) (xs : List Int) (e1 : Int) (n2 : Bool) (ay : Option Addr) (lb cb : Nat) (ys : List Int) (e2 : Int) (w : World) (hx : Sl w ax la ca xs) (hy : Sl w ay lb cb ys) :
    Calls Tryz.prog 66 #[.agg #[.bool n1, .slice ax la ca, .int .i64 e1], .agg #[.bool n2, .slice ay lb cb, .int .i64 e2]] w (RetBool (!decide (e1 = 0) || !decide (e2 = 0) || sameI n1 xs n2 ys) w) := by
  have hb : ∀ o p : Obj, Below w.heap.size w ((w.alloc o).alloc p) := fun o p => below2 w o p
  have hc := fun w h1 h2 => same_any n1 ax la ca xs n2 ay lb cb ys w h1 h2
  generalize sameI n1 xs n2 ys = c at *
  have Hc := Lib.hid hc
  clear hc
  by_cases he : e1 = 0
  · subst he
    by_cases hf : e2 = 0
    · subst hf
      go_enter Tryz.func66, Tryz.ntmps66
      go_wp2_with fail
      refine (Hc.out _ ((hx.alloc _).alloc _) ((hy.alloc _).alloc _)).mono ?_
      rintro e w0 ⟨rfl, hb0⟩
      go_wp2
      go_ret
      exact ⟨by simp, (kept2 _ _ _ hb0).2.2.2⟩
    · have hq : (e2 != 0) = true := by simpa using hf
      have hd := Lib.hid (show decide (e2 = 0) = false by simpa using hf)
      go_enter Tryz.func66, Tryz.ntmps66
      go_wp2
      go_ret
      exact ⟨by rw [hd.out]; simp, hb _ _⟩
  · have hq : (e1 != 0) = true := by simpa using he
    have hd := Lib.hid (show decide (e1 = 0) = false by simpa using he)
    go_enter Tryz.func66, Tryz.ntmps66
    go_wp2
    go_ret
    exact ⟨by rw [hd.out]; simp, hb _ _⟩

set_option maxHeartbeats 1000000 in
/-- got: a number and its error, as one. -/
theorem got_any (n : Bool) (ao : Option Addr) (len cap : Nat) (er : Int) (w : World) :
    Calls Tryz.prog 28 #[.agg #[.bool n, .slice ao len cap], .int .i64 er] w fun e w' => e = .returned (.agg #[.bool n, .slice ao len cap, .int .i64 er]) ∧ Below w.heap.size w w' := by
  have hb : ∀ o p : Obj, Below w.heap.size w ((w.alloc o).alloc p) := fun o p => below2 w o p
  go_enter Tryz.func28, Tryz.ntmps28
  go_wp2
  refine bodyPost_ret (v := .agg #[.bool n, .slice ao len cap, .int .i64 er]) (by simp [results, Tryz.results28, go_sem]) rfl ?_
  exact ⟨rfl, hb _ _⟩
end Go.Proofs.YtfjnplhhgdfepaaGreatDoor

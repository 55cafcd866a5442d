/- NumRoots: for every input the law answers true, and each argument reads afterwards as it read before. Condition: the table of the powers of ten lies as the program's text lays it (tied by the card). -/
import Derived.Deep.LoopGhost
import Derived.Deep.DeepCutAuto
import Derived.Test.YtkcjjdiklodofaaGreatDoorK8
set_option linter.all false

/- The root: by Newton's way, downwards. -/
namespace Go.Proofs.YtkcjjdiklodofaaGreatDoor
open Go.RowKit

/-- The next number of Newton's way. -/
def newt (A r : Nat) : Nat := (r + A / r) / 2
theorem newt_up (A r : Nat) (h : 0 < r) : A < (newt A r + 1) * (newt A r + 1) := by
  have h1 : A < r * (A / r + 1) := by
    have := Nat.div_add_mod A r
    have := Nat.mod_lt A h
    rw [Nat.mul_add, Nat.mul_one]; omega
  obtain ⟨q, hq⟩ : ∃ q, A / r = q := ⟨_, rfl⟩
  obtain ⟨b, hb⟩ : ∃ b, newt A r = b := ⟨_, rfl⟩
  have h2 : r + q + 1 ≤ 2 * (b + 1) := by
    rw [← hb, newt, hq]; omega
  rw [hq] at h1
  rw [hb]
  have h3 : 4 * (r * (q + 1)) ≤ (r + q + 1) * (r + q + 1) := by
    rcases Nat.le_total r (q + 1) with h | h
    · obtain ⟨d, hd⟩ := Nat.exists_eq_add_of_le h
      have e : r + q + 1 = r + (r + d) := by omega
      rw [e, hd]; grind
    · obtain ⟨d, hd⟩ := Nat.exists_eq_add_of_le h
      have e : r + q + 1 = (q + 1) + (q + 1 + d) := by omega
      rw [e, hd]; grind
  have h4 : (r + q + 1) * (r + q + 1) ≤ (2 * (b + 1)) * (2 * (b + 1)) := Nat.mul_le_mul h2 h2
  have h5 : (2 * (b + 1)) * (2 * (b + 1)) = 4 * ((b + 1) * (b + 1)) := by grind
  omega
theorem newt_stop (A r : Nat) (hn : r ≤ newt A r) : r * r ≤ A := by
  have h1 : r ≤ A / r := by unfold newt at hn; omega
  calc r * r ≤ r * (A / r) := Nat.mul_le_mul_left _ h1
    _ ≤ A := Nat.mul_div_le A r
theorem newt_pos (A r : Nat) (hA : 0 < A) (h : 0 < r) : 0 < newt A r := by
  unfold newt
  by_cases h1 : r = 1
  · subst h1; rw [Nat.div_one]; omega
  · generalize A / r = q
    omega
/-- The greatest number whose square is not greater. -/
def IsRoot (A r : Nat) : Prop := r * r ≤ A ∧ A < (r + 1) * (r + 1)
theorem parts_pow (m : Nat) : parts (1000000000 ^ m) = List.replicate m 0 ++ [1] := by
  induction m with
  | zero => rw [Nat.pow_zero, parts_pos 1 (by omega), Nat.div_eq_of_lt (by omega), parts_zero]; rfl
  | succ m ih =>
    rw [parts_pos _ (Nat.pow_pos (by omega)), Nat.pow_succ, Nat.mul_div_cancel _ (by omega), Nat.mul_mod_left, ih]
    rfl

theorem parts_len_sum (x y k : Nat) (hx : (parts x).length ≤ k) (hy : (parts y).length ≤ k) : (parts (x + y)).length ≤ k + 1 := by
  rw [parts_len] at *
  rw [Nat.pow_succ]
  generalize 1000000000 ^ k = B at *
  omega
theorem cmpL_parts' (m n : Nat) : cmpL (parts m) (parts n) = cmp3 m n := cmpL_parts m n
set_option maxRecDepth 100000 in
set_option maxHeartbeats 2000000 in
theorem rootParts_any (A : Nat) (ao : Option Addr) (len cap : Nat) (w : World) (hs : Sl w ao len cap (parts A)) (hm : len ≤ 1000) :
    Calls Tryz.prog 110 #[.slice ao len cap] w fun e w' => ∃ r, IsRoot A r ∧ RetS (parts r) w e w' := by
  have hl := hs.length
  by_cases h0 : len = 0
  · subst h0
    have hA : A = 0 := (parts_nil_iff _).1 (List.eq_nil_of_length_eq_zero hl)
    subst hA
    clear hl
    go_enter Tryz.func110, Tryz.ntmps110
    go_wp2
    go_ret
    exact ⟨0, ⟨by omega, by omega⟩, none, 0, 0, rfl, by rw [parts_zero]; exact Sl.nil _, Below.refl _ _⟩
  · have hA : 0 < A := by
      rcases Nat.eq_zero_or_pos A with h | h
      · subst h; rw [parts_zero] at hl; exact absurd hl.symm h0
      · exact h
    have hne : ((len : Int) == 0) = false := by simp; omega
    obtain ⟨m, hmm⟩ : ∃ m, (len + 1) / 2 = m := ⟨_, rfl⟩
    have hmI : ((len : Int) + 1) / 2 = m := by omega
    have hAB : A < (1000000000 ^ m + 1) * (1000000000 ^ m + 1) := by
      have h1 := (parts_len A len).1 (by omega)
      have h2 : (1000000000 : Nat) ^ len ≤ 1000000000 ^ (m + m) := Nat.pow_le_pow_right (by omega) (by omega)
      rw [Nat.pow_add] at h2
      have h3 : (1000000000 : Nat) ^ m * 1000000000 ^ m ≤ (1000000000 ^ m + 1) * (1000000000 ^ m + 1) := Nat.mul_le_mul (by omega) (by omega)
      omega
    have hm2 : m ≤ 1000 := by omega
    have HAB := Lib.hid hAB
    have Hl := Lib.hid hl
    clear hl hmm hAB
    obtain ⟨i0, hi, hz0, hz1, hz2⟩ := info_parts Tryz.info3
    go_enter Tryz.func110, Tryz.ntmps110
    go_wp2_with (at_make; refine wpList_make_full _ rfl _ _ 22 rfl w.heap.size 3 i0 (.int .i64 0) 1 Tryz.underlying22 hi hz0 hz1 _ _ _ _ (m + 1) rfl rfl ?c1 ?c2 ?c3 ?c4 ?c5 ?_)
    case c1 => omega
    case c2 => omega
    case c3 => rw [hz2]; omega
    case c4 => unfold maxLen; omega
    case c5 => omega
    intro w1 hown hgrow
    have hrow := RowOf.made hown rfl
    have hb1 : Below w.heap.size w w1 := (Below.refl _ _).grown hgrow (Nat.le_refl _) (fun _ h => by cases h)
    generalize hg : w.heap.size = g at *
    have Hg := Lib.hid hg
    clear hg hown hgrow
    have hc := hrow.cell m (by simp)
    have hfz := hrow.frozen m
    have hrow2 := hrow.set m 1
    have hrep : (List.replicate (m + 1) (0 : Int)).set m 1 = parts (1000000000 ^ m) := by
      rw [parts_pow, List.replicate_succ']
      rw [List.set_append_right _ _ (by simp)]
      simp
    rw [hrep] at hrow2
    have hlt := hrow.lt
    have hsl := hrow2.sl (m + 1) (by rw [← hrep]; simp) (by omega)
    have hb2 : Below g w (w1.setCell ⟨g, m, none⟩ (.int .i64 1)) := hb1.setCell (Nat.le_refl _) _
    have Hsl := Lib.hid hsl
    clear hrow2 hrep hsl hrow hb1
    go_wp2
    go_loopg [3] (1000000000 ^ m) (fun gk s wr => ∃ (ar : Option Addr) (lr cr : Nat), s = .slice ar lr cr ∧ Sl wr ar lr cr (parts gk) ∧ 0 < gk ∧ lr ≤ 100000 ∧ Hid (A < (gk + 1) * (gk + 1)) ∧ Below g w wr)
    case atStart => exact ⟨_, m + 1, m + 1, rfl, Hsl.out, Nat.pow_pos (by omega), by omega, HAB, hb2⟩
    case round =>
      obtain ⟨ar, lr, cr, rfl, sr, hr0, hlr, hup, hbel⟩ := hrel
      have hsx := hs.below (by rw [Hg.out]; exact hbel)
      have hD := fun w hx hy => divP_any ao len cap A ar lr cr gk w hx hy (by omega) hr0
      have hnp := newt_pos A gk hA hr0
      have hnu := newt_up A gk hr0
      have hns := newt_stop A gk
      have HD := Lib.hid hD
      clear hD
      have hlr0 := sr.length
      go_wp2_with fail
      (with_reducible refine (HD.out _ hsx sr).mono ?_)
      rintro e w2 ⟨aq, lq, cq, am, lm, cm, rfl, sq, sm, b2⟩
      have hlq : lq ≤ 1000 := by
        have h1 := sq.length
        have h2 := parts_len_le (show A / gk ≤ A from Nat.div_le_self _ _)
        have h3 := Hl.out
        omega
      have sr2 := sr.below b2
      have B2 := hbel.trans (b2.mono (by have := hbel.size; rw [← Hg.out]; exact this))
      have hls := parts_len_sum gk (A / gk) 100000 (by omega) (by have := sq.length; omega)
      have HA := Lib.hid (fun w hx hy => add_parts ar lr cr gk aq lq cq (A / gk) w hx hy (by omega) (by omega))
      clear sm b2 hsx
      go_wp2_with fail
      (with_reducible refine (HA.out _ sr2 sq).mono ?_)
      rintro e w3 ⟨a3, l3, c3, rfl, s3, b3⟩
      have hl3 := s3.length
      have sr3 := sr2.below b3
      have B3 := B2.trans (b3.mono (by have := B2.size; rw [← Hg.out]; exact this))
      have hdv := fun w hx => divSmall_any a3 l3 c3 (parts (gk + A / gk)) 2 w hx (parts_dig _) (by omega) (by omega) (by omega)
      rw [val_parts, show (((gk + A / gk : Nat) : Int) / 2).toNat = newt A gk by unfold newt; generalize A / gk = q; omega] at hdv
      have Hdv := Lib.hid hdv
      have Hns := Lib.hid hns
      have Hnu := Lib.hid hnu
      clear hdv hns hnu B2 b3 sr2 sq hls hl3 hlr0 HD HA
      go_wp2_with fail
      (with_reducible refine (Hdv.out _ s3).mono ?_)
      rintro e w4 ⟨a4, l4, c4, rfl, s4, b4⟩
      have hl4 := s4.length
      have sr4 := sr3.below b4
      have B4 := B3.trans (b4.mono (by have := B3.size; rw [← Hg.out]; exact this))
      have hcm := fun w hx hy => comp_below a4 l4 c4 (parts (newt A gk)) ar lr cr (parts gk) w hx hy
      rw [cmpL_parts'] at hcm
      have Hcm := Lib.hid hcm
      clear hcm B3 b4 sr3 s3 Hdv
      go_wp2_with fail
      (with_reducible refine (Hcm.out _ s4 sr4).mono ?_)
      rintro e w5 ⟨rfl, b5⟩
      have sr5 := sr4.below b5
      have s5 := s4.below b5
      have B5 := B4.trans (b5.mono (by have := B4.size; rw [← Hg.out]; exact this))
      clear b5 B4 s4 sr4 Hcm
      by_cases hge : gk ≤ newt A gk
      · obtain ⟨v, hv, hv0⟩ : ∃ v, cmp3 ((newt A gk : Nat) : Int) gk = v ∧ 0 ≤ v := ⟨_, rfl, by unfold cmp3; rw [if_neg (by omega)]; split <;> omega⟩
        rw [hv]
        have hd : decide ((0 : Int) ≤ v) = true := by simpa using hv0
        have HR := Lib.hid (show IsRoot A gk from ⟨Hns.out hge, hup.out⟩)
        clear hv hge hnp hl4
        go_wp2
        go_ret
        exact ⟨gk, HR.out, _, _, _, rfl, sr5, by rw [Hg.out]; exact B5⟩
      · have hv : cmp3 ((newt A gk : Nat) : Int) gk = -1 := by unfold cmp3; rw [if_pos (by omega)]
        rw [hv]
        have hl5 : l4 ≤ 100000 := by
          have h1 := parts_len_le (show newt A gk ≤ gk by omega)
          have := sr.length
          omega
        have hup2 := Lib.hid Hnu.out
        have hlt2 : newt A gk < gk := by omega
        generalize newt A gk = nx at *
        clear hv hge Hns Hnu hl4 hup
        go_wp2
        go_roundg nx
        case measure => exact hlt2
        case rel => exact ⟨_, _, _, rfl, s5, hnp, hl5, hup2, B5⟩
end Go.Proofs.YtkcjjdiklodofaaGreatDoor

/- The closure of NumPowers; right at four data. -/
namespace Go.Proofs.YtkcjjdiklodofaaGreatDoor
open Go.RowKit

def powerR (p q : Int × Int) : Int × Int := if p.2 = 0 ∧ q.2 = 0 then fitR (p.1 ^ q.1.natAbs) else (0, 2)

set_option maxHeartbeats 1000000 in
theorem lawPower_ok (n1 : Bool) (ax : Option Addr) (la ca : Nat) (xs : List Int) (n2 : Bool) (ay : Option Addr) (lb cb : Nat) (ys : List Int) (n3 : Bool) (zs : List Int) (e3 : Int) (hzl : zs.getLast? ≠ some 0) (w : World) (hx : Sl w ax la ca xs) (hy : Sl w ay lb cb ys)
    (hc : ∀ w, Sl w ax la ca xs → Sl w ay lb cb ys → Calls Tryz.prog 54 #[.agg #[.bool n1, .slice ax la ca], .agg #[.bool n2, .slice ay lb cb]] w (RetPE n3 zs e3 w)) :
    Calls Tryz.prog 71 #[.agg #[.bool n1, .slice ax la ca, .int .i64 0], .agg #[.bool n2, .slice ay lb cb, .int .i64 0]] w (RetQ n3 zs e3 w) := by
  have Hc := Lib.hid hc
  have Hzl := Lib.hid hzl
  clear hc hzl
  go_enter Tryz.func71, Tryz.ntmps71
  go_wp2_with fail
  (with_reducible refine (Hc.out _ (by exact ((hx.alloc _).alloc _).alloc _) (by exact ((hy.alloc _).alloc _).alloc _)).mono ?_)
  rintro e w1 ⟨a1, l1, c1, rfl, s1, b1⟩
  obtain ⟨_, _, hC, hz, hbb⟩ := kept3 _ _ _ _ b1
  clear b1
  go_wp2_with fail
  (with_reducible refine (got_any _ _ _ _ _ _).mono ?_)
  rintro e w2 ⟨rfl, b2⟩
  have hC2 : Box3 w2 (w.heap.size + 1 + 1) false none 0 0 0 := (b2.block _ (Array.getElem?_eq_some_iff.1 hC).1).trans hC
  obtain ⟨f0, f1, f2⟩ := hC2.cells
  obtain ⟨g0, g1, g2⟩ := hC2.froz
  have hsz := hC2.lt
  have s2 := s1.below b2
  have hb2 := hbb.trans (b2.mono hbb.size)
  have HC := Lib.hid hC2
  clear hC hC2 b2 hbb s1
  go_wp2
  refine bodyPost_ret (v := .agg #[.bool n3, .slice a1 l1 c1, .int .i64 e3]) (by simp [results, Tryz.results71, go_sem, f0, f1, f2]) rfl ?_
  refine ⟨a1, l1, c1, rfl, ?_, ((hb2.setCell (by simp; omega) _).setCell (by simp; omega) _).setCell (by simp; omega) _⟩
  exact s2.pair Hzl.out HC.out _ _ _ _ _

set_option maxHeartbeats 1000000 in
theorem lawPower_bad (n1 : Bool) (ax : Option Addr) (la ca : Nat) (e1 : Int) (n2 : Bool) (ay : Option Addr) (lb cb : Nat) (e2 : Int) (w : World) (h : ¬ (e1 = 0 ∧ e2 = 0)) :
    Calls Tryz.prog 71 #[.agg #[.bool n1, .slice ax la ca, .int .i64 e1], .agg #[.bool n2, .slice ay lb cb, .int .i64 e2]] w (RetQ false [] 2 w) := by
  have hb : ∀ o p q : Obj, Below w.heap.size w (((w.alloc o).alloc p).alloc q) := fun o p q => below3 w o p q
  by_cases h1 : e1 = 0
  · have h2 : e2 ≠ 0 := fun h' => h ⟨h1, h'⟩
    subst h1
    have hq : (e2 != 0) = true := by simpa using h2
    clear h h2
    go_enter Tryz.func71, Tryz.ntmps71
    go_wp2
    refine bodyPost_ret (v := .agg #[.bool false, .slice none 0 0, .int .i64 2]) (by simp [results, Tryz.results71, go_sem]) rfl ?_
    exact ⟨_, _, _, rfl, Sl.nil _, hb _ _ _⟩
  · have hq : (e1 != 0) = true := by simpa using h1
    clear h h1
    go_enter Tryz.func71, Tryz.ntmps71
    go_wp2
    refine bodyPost_ret (v := .agg #[.bool false, .slice none 0 0, .int .i64 2]) (by simp [results, Tryz.results71, go_sem]) rfl ?_
    exact ⟨_, _, _, rfl, Sl.nil _, hb _ _ _⟩

theorem lawPower_any {x y z e1 e2 e3 : Int} {n1 n2 n3 : Bool} {xs ys zs : List Int} (hx : Num x n1 xs) (hy : Num y n2 ys) (hz : Num z n3 zs) (hy0 : e2 = 0 → 0 ≤ y) (he : powerR (x, e1) (y, e2) = (z, e3)) (ax : Option Addr) (la ca : Nat) (ay : Option Addr) (lb cb : Nat) (w : World) (sx : Sl w ax la ca xs) (sy : Sl w ay lb cb ys) :
    Calls Tryz.prog 71 #[.agg #[.bool n1, .slice ax la ca, .int .i64 e1], .agg #[.bool n2, .slice ay lb cb, .int .i64 e2]] w (RetQ n3 zs e3 w) := by
  obtain ⟨h1, rfl, rfl⟩ := hx
  obtain ⟨h2, rfl, rfl⟩ := hy
  obtain ⟨_, rfl, rfl⟩ := hz
  unfold powerR at he
  by_cases h : e1 = 0 ∧ e2 = 0
  · rw [if_pos h] at he
    obtain ⟨rfl, rfl⟩ := h
    refine lawPower_ok _ ax la ca _ _ ay lb cb _ _ _ _ (parts_last _) w sx sy fun w sx sy => ((Pow_ok x y h1 h2 (hy0 rfl) ax la ca ay lb cb w sx sy).mono fun _ _ h => ?_)
    have := h.fit
    rw [he] at this
    exact this
  · rw [if_neg h] at he
    cases he
    have := lawPower_bad (decide (x < 0)) ax la ca e1 (decide (y < 0)) ay lb cb e2 w h
    rw [show decide ((0 : Int) < 0) = false from rfl, show (0 : Int).natAbs = 0 from rfl, parts_zero]
    exact this

theorem right4 (n1 : Bool) (a1 : Option Addr) (l1 c1 : Nat) (x1 : List Int) (n2 : Bool) (a2 : Option Addr) (l2 c2 : Nat) (x2 : List Int) (n3 : Bool) (a3 : Option Addr) (l3 c3 : Nat) (x3 : List Int) (n4 : Bool) (a4 : Option Addr) (l4 c4 : Nat) (x4 : List Int) (w : World) (g : Nat) (hg : w.heap[g]? = some (.cells #[.bool n1, .slice a1 l1 c1, .bool n2, .slice a2 l2 c2, .bool n3, .slice a3 l3 c3, .bool n4, .slice a4 l4 c4] 24 (0, 0)))
    (h1 : Sl w a1 l1 c1 x1) (h2 : Sl w a2 l2 c2 x2) (h3 : Sl w a3 l3 c3 x3) (h4 : Sl w a4 l4 c4 x4) (r : Bool) (hr : (!(wrong ⟨n1, a1, l1, c1, x1⟩ || (wrong ⟨n2, a2, l2, c2, x2⟩ || (wrong ⟨n3, a3, l3, c3, x3⟩ || wrong ⟨n4, a4, l4, c4, x4⟩)))) = r) :
    Calls Tryz.prog 64 #[.slice (some ⟨g, 0, none⟩) 4 4] w (RetBool r w) := by
  have := right_any g [⟨n1, a1, l1, c1, x1⟩, ⟨n2, a2, l2, c2, x2⟩, ⟨n3, a3, l3, c3, x3⟩, ⟨n4, a4, l4, c4, x4⟩] w hg (by
    intro d hd
    simp only [List.mem_cons, List.not_mem_nil, or_false] at hd
    rcases hd with rfl | rfl | rfl | rfl
    · exact h1
    · exact h2
    · exact h3
    · exact h4) (by simp)
  rw [show List.any [(⟨n1, a1, l1, c1, x1⟩ : Dat), ⟨n2, a2, l2, c2, x2⟩, ⟨n3, a3, l3, c3, x3⟩, ⟨n4, a4, l4, c4, x4⟩] wrong = (wrong ⟨n1, a1, l1, c1, x1⟩ || (wrong ⟨n2, a2, l2, c2, x2⟩ || (wrong ⟨n3, a3, l3, c3, x3⟩ || wrong ⟨n4, a4, l4, c4, x4⟩))) by simp, hr] at this
  exact this

/-! What results mean, where there are any. -/
theorem fitR_zero {z v : Int} (h : fitR z = (v, 0)) : v = z := by
  by_cases hl : Lim z
  · rw [fitR_ok hl] at h; cases h; rfl
  · rw [fitR_no hl] at h; cases h
theorem sumR_lim (p q : Int × Int) : Lim (sumR p q).1 := by
  unfold sumR; split
  · exact fitR_lim _
  · exact Lim.zero
theorem timesR_lim (p q : Int × Int) : Lim (timesR p q).1 := by
  unfold timesR; split
  · exact fitR_lim _
  · exact Lim.zero
theorem powerR_lim (p q : Int × Int) : Lim (powerR p q).1 := by
  unfold powerR; split
  · exact fitR_lim _
  · exact Lim.zero
theorem sumR_zero {x e1 y e2 v : Int} (h : sumR (x, e1) (y, e2) = (v, 0)) : e1 = 0 ∧ e2 = 0 ∧ v = x + y := by
  unfold sumR at h; split at h
  · rename_i hh; exact ⟨hh.1, hh.2, fitR_zero h⟩
  · cases h
theorem timesR_zero {x e1 y e2 v : Int} (h : timesR (x, e1) (y, e2) = (v, 0)) : e1 = 0 ∧ e2 = 0 ∧ v = x * y := by
  unfold timesR at h; split at h
  · rename_i hh; exact ⟨hh.1, hh.2, fitR_zero h⟩
  · cases h
theorem powerR_zero {x e1 y e2 v : Int} (h : powerR (x, e1) (y, e2) = (v, 0)) : e1 = 0 ∧ e2 = 0 ∧ v = x ^ y.natAbs := by
  unfold powerR at h; split at h
  · rename_i hh; exact ⟨hh.1, hh.2, fitR_zero h⟩
  · cases h
end Go.Proofs.YtkcjjdiklodofaaGreatDoor

/- A pair's box that a drawn region makes: what a store into it leaves as it was. -/
namespace Go.Proofs.YtkcjjdiklodofaaGreatDoor
open Go.RowKit

/-- Block g holds the zero pair: just made. -/
def Zr (w : World) (g : Nat) : Prop := w.heap[g]? = some (.cells #[.bool false, .slice none 0 0, .int .i64 0] 38 (0, 0))
theorem Zr.cells {w : World} {g : Nat} (h : Zr w g) : w.cell? ⟨g, 0, none⟩ = some (.bool false) ∧ w.cell? ⟨g, 1, none⟩ = some (.slice none 0 0) ∧ w.cell? ⟨g, 2, none⟩ = some (.int .i64 0) := Box3.cells h
theorem Zr.froz {w : World} {g : Nat} (h : Zr w g) : w.frozen? ⟨g, 0, none⟩ = false ∧ w.frozen? ⟨g, 1, none⟩ = false ∧ w.frozen? ⟨g, 2, none⟩ = false := Box3.froz h
theorem Zr.below {w w' : World} {g : Nat} (h : Zr w g) (hb : Below w.heap.size w w') : Zr w' g := Box3.below h hb
theorem Zr.alloc {w : World} {g : Nat} (h : Zr w g) (o : Obj) : Zr (w.alloc o) g := h.below ((Below.refl _ _).alloc (Nat.le_refl _) o)
theorem Zr.new {w w' : World} (hb : Below (w.alloc (.cells #[.bool false, .slice none 0 0, .int .i64 0] 38)).heap.size (w.alloc (.cells #[.bool false, .slice none 0 0, .int .i64 0] 38)) w') : Zr w' w.heap.size := (kept1 _ _ hb).1
theorem Zr.newD {w w' : World} (hb : Below (w.alloc (.cells #[.bool false, .slice none 0 0, .int .i64 0] 38)).drew.heap.size (w.alloc (.cells #[.bool false, .slice none 0 0, .int .i64 0] 38)).drew w') : Zr w' w.heap.size := (kept1 _ _ (Below.undrew hb)).1
theorem Zr.newA {w w' : World} {o : Obj} (hb : Below ((w.alloc o).alloc (.cells #[.bool false, .slice none 0 0, .int .i64 0] 38)).heap.size ((w.alloc o).alloc (.cells #[.bool false, .slice none 0 0, .int .i64 0] 38)) w') : Zr w' (w.heap.size + 1) := (kept2 _ _ _ hb).2.1
theorem Zr.newAD {w w' : World} {o : Obj} (hb : Below ((w.alloc o).alloc (.cells #[.bool false, .slice none 0 0, .int .i64 0] 38)).drew.heap.size ((w.alloc o).alloc (.cells #[.bool false, .slice none 0 0, .int .i64 0] 38)).drew w') : Zr w' (w.heap.size + 1) := Zr.newA (Below.undrew hb)
theorem alloc_le {B : Nat} {w : World} {o : Obj} (h : B ≤ (w.alloc o).heap.size) : B ≤ w.heap.size + 1 := by simpa using h
theorem BoxI.ne {w : World} {a g : Nat} {n : Bool} {ao : Option Addr} {l c : Nat} (h : BoxI w a n ao l c) (z : Zr w g) : a ≠ g := by
  rintro rfl
  have e := h.symm.trans z
  injection e with e
  injection e with e
  have := congrArg Array.size e
  simp at this
theorem heap_set3 {w : World} {a g : Nat} (h : a ≠ g) (u v x : Value) : (((w.setCell ⟨g, 0, none⟩ u).setCell ⟨g, 1, none⟩ v).setCell ⟨g, 2, none⟩ x).heap[a]? = w.heap[a]? := by
  rw [Below.heap_setCell _ _ _ _ h, Below.heap_setCell _ _ _ _ h, Below.heap_setCell _ _ _ _ h]
theorem BoxI.set3 {w : World} {a g : Nat} {n : Bool} {ao : Option Addr} {l c : Nat} (h : BoxI w a n ao l c) (z : Zr w g) (u v x : Value) : BoxI (((w.setCell ⟨g, 0, none⟩ u).setCell ⟨g, 1, none⟩ v).setCell ⟨g, 2, none⟩ x) a n ao l c :=
  (heap_set3 (h.ne z) u v x).trans h
theorem Below.set3 {B : Nat} {a w : World} (h : Below B a w) {g : Nat} (hg : B ≤ g) (u v x : Value) : Below B a (((w.setCell ⟨g, 0, none⟩ u).setCell ⟨g, 1, none⟩ v).setCell ⟨g, 2, none⟩ x) :=
  ((h.setCell hg u).setCell hg v).setCell hg x
/-- The law's same at a pair and itself. -/
theorem pairSelfQ {z : Int} {n : Bool} {xs : List Int} (hz : Num z n xs) (er : Int) (ax : Option Addr) (la ca : Nat) (ay : Option Addr) (lb cb : Nat) (w : World) (hx : Sl w ax la ca xs) (hy : Sl w ay lb cb xs) :
    Calls Tryz.prog 27 #[.agg #[.bool n, .slice ax la ca, .int .i64 er], .agg #[.bool n, .slice ay lb cb, .int .i64 er]] w (RetBool true w) := by
  obtain ⟨_, rfl, rfl⟩ := hz
  have h := lawSame_any (decide (z < 0)) ax la ca (parts z.natAbs) er (decide (z < 0)) ay lb cb (parts z.natAbs) er w hx hy
  rwa [sameI_num, show (decide (er = er) && decide (z = z)) = true by simp] at h
theorem Num.last {z : Int} {n : Bool} {xs : List Int} (h : Num z n xs) : xs.getLast? ≠ some 0 := by
  rw [h.2.2]; exact parts_last _
end Go.Proofs.YtkcjjdiklodofaaGreatDoor

/- Root. -/
namespace Go.Proofs.YtkcjjdiklodofaaGreatDoor
open Go.RowKit

set_option maxRecDepth 100000 in
set_option maxHeartbeats 1000000 in
theorem Root_neg {a : Int} {n : Bool} {xs : List Int} (ha : Num a n xs) (h0 : a < 0) (ao : Option Addr) (len cap : Nat) (w : World) (hs : Sl w ao len cap xs) :
    Calls Tryz.prog 60 #[.agg #[.bool n, .slice ao len cap]] w (RetPE false [] 1 w) := by
  have hck := fun w h => check_any n ao len cap xs w h
  have hok : okInt n xs = true := by obtain ⟨h1, h2, h3⟩ := ha; exact (okInt_iff _ _).2 ⟨a, h1, h2, h3⟩
  rw [hok, show errOf true = 0 from rfl] at hck
  have hsg := fun w hs => signQ ha (show cmp3 a 0 = -1 by unfold cmp3; rw [if_pos h0]) ao len cap w hs
  have Hck := Lib.hid hck
  have Hsg := Lib.hid hsg
  clear hck hsg hok ha h0
  go_enter Tryz.func60, Tryz.ntmps60
  go_wp2_with fail
  (with_reducible refine (Hck.out _ ((hs.alloc _).alloc _)).mono ?_)
  rintro e w1 ⟨rfl, b1⟩
  obtain ⟨hA, hB, hz, hb⟩ := kept2 _ _ _ b1
  obtain ⟨f1, f2, f3, f4, f5⟩ := box2 hA
  have s1 := hs.below hb
  clear b1
  go_wp2_with fail
  (with_reducible refine (Hsg.out _ s1).mono ?_)
  rintro e w2 ⟨rfl, b2⟩
  have hB2 := (b2.block _ (Array.getElem?_eq_some_iff.1 hB).1).trans hB
  obtain ⟨g1, g2, g3, g4, g5⟩ := box2 hB2
  have hb2 := hb.trans (b2.mono hb.size)
  clear b2 hA hB hb hB2
  go_wp2
  refine bodyPost_ret (v := .tuple #[.agg #[.bool false, .slice none 0 0], .int .i64 1]) (by simp [results, Tryz.results60, go_sem, g1, g2]) rfl ?_
  exact ⟨_, _, _, rfl, Sl.nil _, (hb2.setCell (by simp) _).setCell (by simp) _⟩

set_option maxRecDepth 100000 in
set_option maxHeartbeats 1000000 in
theorem Root_ok {a : Int} {n : Bool} {xs : List Int} (ha : Num a n xs) (h0 : 0 ≤ a) (ao : Option Addr) (len cap : Nat) (w : World) (hs : Sl w ao len cap xs) :
    Calls Tryz.prog 60 #[.agg #[.bool n, .slice ao len cap]] w fun e w' => ∃ r : Nat, IsRoot a.toNat r ∧ RetPE false (parts r) 0 w e w' := by
  have hck := fun w h => check_any n ao len cap xs w h
  have hok : okInt n xs = true := by obtain ⟨h1, h2, h3⟩ := ha; exact (okInt_iff _ _).2 ⟨a, h1, h2, h3⟩
  rw [hok, show errOf true = 0 from rfl] at hck
  obtain ⟨v, hv, hv0⟩ : ∃ v, cmp3 a 0 = v ∧ decide ((v : Int) < 0) = false := ⟨_, rfl, by unfold cmp3; rw [if_neg (by omega)]; split <;> simp⟩
  have hsg := fun w hs => signQ ha hv ao len cap w hs
  have hlen : len ≤ 40 := by
    have h1 := ha.1
    unfold Lim at h1
    have h2 := hs.length
    rw [ha.2.2] at h2
    omega
  have hrp := fun w hs => rootParts_any a.natAbs ao len cap w hs (by omega)
  rw [← ha.2.2, show a.natAbs = a.toNat by omega] at hrp
  have hsd := fun ao len cap r w hs => signed_any false ao len cap (parts r) w hs (parts_dig r)
  have Hck := Lib.hid hck
  have Hsg := Lib.hid hsg
  have Hrp := Lib.hid hrp
  have Hsd := Lib.hid hsd
  clear hck hsg hok ha h0 hv hrp hsd
  go_enter Tryz.func60, Tryz.ntmps60
  go_wp2_with fail
  (with_reducible refine (Hck.out _ ((hs.alloc _).alloc _)).mono ?_)
  rintro e w1 ⟨rfl, b1⟩
  obtain ⟨hA, hB, hz, hb⟩ := kept2 _ _ _ b1
  obtain ⟨f1, f2, f3, f4, f5⟩ := box2 hA
  have s1 := hs.below hb
  clear b1
  go_wp2_with fail
  (with_reducible refine (Hsg.out _ s1).mono ?_)
  rintro e w2 ⟨rfl, b2⟩
  have hA2 := (b2.block _ (Array.getElem?_eq_some_iff.1 hA).1).trans hA
  have hB2 := (b2.block _ (Array.getElem?_eq_some_iff.1 hB).1).trans hB
  obtain ⟨k1, k2, k3, k4, k5⟩ := box2 hA2
  have hb2 := hb.trans (b2.mono hb.size)
  have s2 := s1.below b2
  clear b2 hA hB hb f1 f2 f3 f4 f5 s1
  go_wp2_with fail
  (with_reducible refine (Hrp.out _ s2).mono ?_)
  rintro e w3 ⟨r, hr, a3, l3, c3, rfl, s3, b3⟩
  have hB3 := (b3.block _ (Array.getElem?_eq_some_iff.1 hB2).1).trans hB2
  have hb3 := hb2.trans (b3.mono hb2.size)
  have Hr := Lib.hid hr
  clear b3 hb2 hA2 hB2 k1 k2 k3 k4 k5 s2 hr
  go_wp2_with fail
  (with_reducible refine (Hsd.out _ _ _ _ _ s3).mono ?_)
  rintro e w4 ⟨a4, l4, c4, rfl, s4, b4⟩
  have hB4 := (b4.block _ (Array.getElem?_eq_some_iff.1 hB3).1).trans hB3
  obtain ⟨g1, g2, g3, g4, g5⟩ := box2 hB4
  have hb4 := hb3.trans (b4.mono hb3.size)
  have hsgn : decide (num false (val (parts r)) < 0) = false := by rw [val_parts]; unfold num; simp
  have hnat : (num false (val (parts r))).natAbs = r := by rw [val_parts]; unfold num; simp
  rw [hsgn]
  rw [hnat] at s4
  clear b4 hB3 hb3 hB4 s3 hsgn hnat
  go_wp2
  refine bodyPost_ret (v := .tuple #[.agg #[.bool false, .slice a4 l4 c4], .int .i64 0]) (by simp [results, Tryz.results60, go_sem, g1, g2]) rfl ?_
  exact ⟨r, Hr.out, _, _, _, rfl, s4.store2 g1 g2 _ _, (hb4.setCell (by simp) _).setCell (by simp) _⟩
end Go.Proofs.YtkcjjdiklodofaaGreatDoor

/- The walk of NumRoots. -/
namespace Go.Proofs.YtkcjjdiklodofaaGreatDoor
open Go.RowKit

/-- What the drawn region leaves: the square in a box of its own, all else as it was. -/
def RootCut (w0 : World) (ga gx : Nat) (na : Bool) (aa : Option Addr) (la ca : Nat) (xa : List Int) (ax : Option Addr) (lx cx : Nat) (xx : List Int) (ns : Bool) (xs : List Int) (s : Value) (wx : World) : Prop :=
  ∃ g aq lq cq, s = .pointer (some ⟨g, 0, none⟩) ∧ Box3 wx g ns aq lq cq 0 ∧ Sl wx aq lq cq xs ∧ BoxI wx ga na aa la ca ∧ Sl wx aa la ca xa ∧ BoxI wx gx false ax lx cx ∧ Sl wx ax lx cx xx ∧ Below w0.heap.size w0 wx

set_option maxRecDepth 100000 in
set_option maxHeartbeats 8000000 in
theorem roots_wrong (na : Bool) (aa : Option Addr) (la ca : Nat) (xa : List Int) (w : World) (ht : Tab w) (sa : Sl w aa la ca xa) (hr : (!(wrong ⟨na, aa, la, ca, xa⟩)) = false) : Calls Tryz.prog 12 #[.agg #[.bool na, .slice aa la ca]] w (RetBool true w) := by
  have Hr := Lib.hid (fun w g hg h1 => right1 na aa la ca xa w g hg h1 false hr)
  clear hr
  go_enter Tryz.func12, Tryz.ntmps12
  have U0 := Below.refl w.heap.size w
  go_wp2_with fail
  replace U0 := U0.alloc U0.size (.cells #[.bool na, .slice aa la ca] 24)
  replace ht := ht.alloc (.cells #[.bool na, .slice aa la ca] 24)
  replace sa := sa.alloc (.cells #[.bool na, .slice aa la ca] 24)
  have Ta := BoxI.new w (w.heap.size) (by first | rfl | simp) na aa la ca
  have cTa0 := Ta.cells.1
  have cTa1 := Ta.cells.2
  have zTa := Ta.lt
  (with_reducible refine (sane_any _ (by exact ht)).mono ?_)
  rintro e w1 ⟨rfl, b1⟩
  replace U0 := U0.trans (b1.mono U0.size)
  replace ht := ht.below b1
  replace sa := sa.below b1
  replace Ta := Ta.below b1
  replace cTa0 := Ta.cells.1
  replace cTa1 := Ta.cells.2
  replace zTa := Ta.lt
  clear b1
  go_wp2_with fail
  replace U0 := U0.alloc U0.size (.cells #[.bool na, .slice aa la ca] 24)
  replace ht := ht.alloc (.cells #[.bool na, .slice aa la ca] 24)
  replace sa := sa.alloc (.cells #[.bool na, .slice aa la ca] 24)
  replace Ta := Ta.alloc (.cells #[.bool na, .slice aa la ca] 24)
  replace cTa0 := Ta.cells.1
  replace cTa1 := Ta.cells.2
  replace zTa := Ta.lt
  (with_reducible refine (Hr.out _ _ (heap_new _ _) (by exact sa)).mono ?_)
  rintro e w2 ⟨rfl, b2⟩
  replace U0 := U0.trans (b2.mono U0.size)
  replace ht := ht.below b2
  replace sa := sa.below b2
  replace Ta := Ta.below b2
  replace cTa0 := Ta.cells.1
  replace cTa1 := Ta.cells.2
  replace zTa := Ta.lt
  clear b2
  go_wp2
  go_ret
  exact ⟨rfl, U0⟩

set_option maxRecDepth 100000 in
set_option maxHeartbeats 8000000 in
theorem roots_neg (na : Bool) (aa : Option Addr) (la ca : Nat) (xa : List Int) (w : World) (ht : Tab w) (sa : Sl w aa la ca xa) (a : Int) (Na : Num a na xa) (h0 : a < 0) (hna : na = true) (hr : (!(wrong ⟨na, aa, la, ca, xa⟩)) = true) : Calls Tryz.prog 12 #[.agg #[.bool na, .slice aa la ca]] w (RetBool true w) := by
  subst hna
  have Hr := Lib.hid (fun w g hg h1 => right1 true aa la ca xa w g hg h1 true hr)
  have Rt := Lib.hid (fun ao len cap w hs => Root_neg Na h0 ao len cap w hs)
  clear hr Na h0
  go_enter Tryz.func12, Tryz.ntmps12
  have U0 := Below.refl w.heap.size w
  go_wp2_with fail
  replace U0 := U0.alloc U0.size (.cells #[.bool true, .slice aa la ca] 24)
  replace ht := ht.alloc (.cells #[.bool true, .slice aa la ca] 24)
  replace sa := sa.alloc (.cells #[.bool true, .slice aa la ca] 24)
  have Ta := BoxI.new w (w.heap.size) (by first | rfl | simp) true aa la ca
  have cTa0 := Ta.cells.1
  have cTa1 := Ta.cells.2
  have zTa := Ta.lt
  (with_reducible refine (sane_any _ (by exact ht)).mono ?_)
  rintro e w1 ⟨rfl, b1⟩
  replace U0 := U0.trans (b1.mono U0.size)
  replace ht := ht.below b1
  replace sa := sa.below b1
  replace Ta := Ta.below b1
  replace cTa0 := Ta.cells.1
  replace cTa1 := Ta.cells.2
  replace zTa := Ta.lt
  clear b1
  go_wp2_with fail
  replace U0 := U0.alloc U0.size (.cells #[.bool true, .slice aa la ca] 24)
  replace ht := ht.alloc (.cells #[.bool true, .slice aa la ca] 24)
  replace sa := sa.alloc (.cells #[.bool true, .slice aa la ca] 24)
  replace Ta := Ta.alloc (.cells #[.bool true, .slice aa la ca] 24)
  replace cTa0 := Ta.cells.1
  replace cTa1 := Ta.cells.2
  replace zTa := Ta.lt
  (with_reducible refine (Hr.out _ _ (heap_new _ _) (by exact sa)).mono ?_)
  rintro e w2 ⟨rfl, b2⟩
  replace U0 := U0.trans (b2.mono U0.size)
  replace ht := ht.below b2
  replace sa := sa.below b2
  replace Ta := Ta.below b2
  replace cTa0 := Ta.cells.1
  replace cTa1 := Ta.cells.2
  replace zTa := Ta.lt
  clear b2
  go_wp2_with fail
  (with_reducible refine (Rt.out _ _ _ _ (by exact sa)).mono ?_)
  rintro e w3 ⟨ax, lx, cx, rfl, sx, b3⟩
  replace U0 := U0.trans (b3.mono U0.size)
  replace ht := ht.below b3
  replace sa := sa.below b3
  replace Ta := Ta.below b3
  replace cTa0 := Ta.cells.1
  replace cTa1 := Ta.cells.2
  replace zTa := Ta.lt
  clear b3
  go_wp2
  replace U0 := U0.alloc U0.size (.cells #[.bool false, .slice ax lx cx] 24)
  replace ht := ht.alloc (.cells #[.bool false, .slice ax lx cx] 24)
  replace sa := sa.alloc (.cells #[.bool false, .slice ax lx cx] 24)
  replace Ta := Ta.alloc (.cells #[.bool false, .slice ax lx cx] 24)
  replace sx := sx.alloc (.cells #[.bool false, .slice ax lx cx] 24)
  replace cTa0 := Ta.cells.1
  replace cTa1 := Ta.cells.2
  replace zTa := Ta.lt
  have Tx := BoxI.new w3 (w3.heap.size) (by first | rfl | simp) false ax lx cx
  have cTx0 := Tx.cells.1
  have cTx1 := Tx.cells.2
  have zTx := Tx.lt
  go_ret
  exact ⟨rfl, U0⟩

set_option maxRecDepth 100000 in
set_option maxHeartbeats 8000000 in
theorem roots_ok (na : Bool) (aa : Option Addr) (la ca : Nat) (xa : List Int) (w : World) (ht : Tab w) (sa : Sl w aa la ca xa) (a : Int) (Na : Num a na xa) (h0 : 0 ≤ a) (hna : na = false) (hr : (!(wrong ⟨na, aa, la, ca, xa⟩)) = true) : Calls Tryz.prog 12 #[.agg #[.bool na, .slice aa la ca]] w (RetBool true w) := by
  subst hna
  have Hr := Lib.hid (fun w g hg h1 => right1 false aa la ca xa w g hg h1 true hr)
  have Rt := Lib.hid (fun ao len cap w hs => Root_ok Na h0 ao len cap w hs)
  have NA := Lib.hid Na
  have H0 := Lib.hid h0
  clear hr Na h0
  go_enter Tryz.func12, Tryz.ntmps12
  have U0 := Below.refl w.heap.size w
  go_wp2_with fail
  replace U0 := U0.alloc U0.size (.cells #[.bool false, .slice aa la ca] 24)
  replace ht := ht.alloc (.cells #[.bool false, .slice aa la ca] 24)
  replace sa := sa.alloc (.cells #[.bool false, .slice aa la ca] 24)
  have Ta := BoxI.new w (w.heap.size) (by first | rfl | simp) false aa la ca
  have cTa0 := Ta.cells.1
  have cTa1 := Ta.cells.2
  have zTa := Ta.lt
  (with_reducible refine (sane_any _ (by exact ht)).mono ?_)
  rintro e w1 ⟨rfl, b1⟩
  replace U0 := U0.trans (b1.mono U0.size)
  replace ht := ht.below b1
  replace sa := sa.below b1
  replace Ta := Ta.below b1
  replace cTa0 := Ta.cells.1
  replace cTa1 := Ta.cells.2
  replace zTa := Ta.lt
  clear b1
  go_wp2_with fail
  replace U0 := U0.alloc U0.size (.cells #[.bool false, .slice aa la ca] 24)
  replace ht := ht.alloc (.cells #[.bool false, .slice aa la ca] 24)
  replace sa := sa.alloc (.cells #[.bool false, .slice aa la ca] 24)
  replace Ta := Ta.alloc (.cells #[.bool false, .slice aa la ca] 24)
  replace cTa0 := Ta.cells.1
  replace cTa1 := Ta.cells.2
  replace zTa := Ta.lt
  (with_reducible refine (Hr.out _ _ (heap_new _ _) (by exact sa)).mono ?_)
  rintro e w2 ⟨rfl, b2⟩
  replace U0 := U0.trans (b2.mono U0.size)
  replace ht := ht.below b2
  replace sa := sa.below b2
  replace Ta := Ta.below b2
  replace cTa0 := Ta.cells.1
  replace cTa1 := Ta.cells.2
  replace zTa := Ta.lt
  clear b2
  go_wp2_with fail
  (with_reducible refine (Rt.out _ _ _ _ (by exact sa)).mono ?_)
  rintro e wr ⟨r, hroot, ax, lx, cx, rfl, sx, br⟩
  replace U0 := U0.trans (br.mono U0.size)
  replace ht := ht.below br
  replace sa := sa.below br
  replace Ta := Ta.below br
  replace cTa0 := Ta.cells.1
  replace cTa1 := Ta.cells.2
  replace zTa := Ta.lt
  clear br
  have hra : (r : Int) * r ≤ a ∧ a < ((r : Int) + 1) * (r + 1) := by
    have h1 := hroot.1
    have h2 := hroot.2
    have h3 := H0.out
    have e1 : ((r : Int) * r) = ((r * r : Nat) : Int) := by rw [Int.natCast_mul]
    have e2 : (((r : Int) + 1) * (r + 1)) = (((r + 1) * (r + 1) : Nat) : Int) := by rw [Int.natCast_mul, Int.natCast_add]; rfl
    rw [e1, e2]
    omega
  have ls : Lim ((r : Int) * r) := by
    refine lim_mono (y := a) ?_ NA.out.1
    have h1 := hra.1
    have h2 := H0.out
    have h3 : 0 ≤ (r : Int) * r := Int.mul_nonneg (by omega) (by omega)
    omega
  have lr : Lim r := by
    refine lim_mono (y := (r : Int) * r) ?_ ls
    rcases Nat.eq_zero_or_pos r with h | h
    · subst h; simp
    · have : r ≤ r * r := Nat.le_mul_of_pos_left r h
      have e1 : ((r : Int) * r) = ((r * r : Nat) : Int) := by rw [Int.natCast_mul]
      rw [e1]; omega
  have Nx : Num r false (parts r) := ⟨lr, by simp, by simp⟩
  obtain ⟨ns, xs, Ns⟩ : ∃ n xs, Num ((r : Int) * r) n xs := ⟨_, _, ls, rfl, rfl⟩
  have hsq : timesR ((r : Int), 0) ((r : Int), 0) = ((r : Int) * r, 0) := by unfold timesR; rw [if_pos ⟨rfl, rfl⟩, fitR_ok ls]
  obtain ⟨n1, x1, N1⟩ := num_ex 1 (by decide +kernel)
  obtain ⟨m, em, hm⟩ : ∃ m em, sumR ((r : Int), 0) (1, 0) = (m, em) := ⟨_, _, rfl⟩
  obtain ⟨t, et, ht'⟩ : ∃ t et, timesR (m, em) (m, em) = (t, et) := ⟨_, _, rfl⟩
  have lm : Lim m := by have := sumR_lim ((r : Int), 0) (1, 0); rw [hm] at this; exact this
  have lt : Lim t := by have := timesR_lim (m, em) (m, em); rw [ht'] at this; exact this
  obtain ⟨nm, xm, Nm⟩ : ∃ n xs, Num m n xs := ⟨_, _, lm, rfl, rfl⟩
  obtain ⟨nt, xt, Nt⟩ : ∃ n xs, Num t n xs := ⟨_, _, lt, rfl, rfl⟩
  obtain ⟨v1, hv1, hd1⟩ : ∃ v, cmp3 ((r : Int) * r) a = v ∧ decide ((v : Int) ≤ 0) = true := ⟨_, rfl, by have := hra.1; unfold cmp3; split <;> (try split) <;> simp <;> omega⟩
  have htt : et = 0 → cmp3 t a = 1 := by
    intro e; subst e
    obtain ⟨h1, _, h2⟩ := timesR_zero ht'
    subst h1
    obtain ⟨_, _, h3⟩ := sumR_zero hm
    have h4 := hra.2
    rw [h2, h3]
    unfold cmp3
    rw [if_neg (by omega), if_neg (by omega)]
  have Tq := Lib.hid (fun ax la ca ay lb cb w hx hy => lawTimes_any Nx Nx Ns hsq ax la ca ay lb cb w hx hy)
  have Sm := Lib.hid (fun ax la ca ay lb cb w hx hy => lawSum_any Nx N1 Nm hm ax la ca ay lb cb w hx hy)
  have Tt := Lib.hid (fun ax la ca ay lb cb w hx hy => lawTimes_any Nm Nm Nt ht' ax la ca ay lb cb w hx hy)
  have Of := Lib.hid (fun w => ofP N1 (by omega) (by omega) w)
  have C1 := Lib.hid (fun ax la ca ay lb cb w hx hy => compareP Ns NA.out hv1 ax la ca ay lb cb w hx hy)
  have C2 := Lib.hid (fun h ax la ca ay lb cb w hx hy => compareP Nt NA.out (htt h) ax la ca ay lb cb w hx hy)
  have La := Lib.hid NA.out.last
  have Lx := Lib.hid Nx.last
  have Ls := Lib.hid Ns.last
  clear Rt hroot hra ls lr Nx Ns hsq N1 hm ht' lm lt Nm Nt hv1 htt NA H0
  generalize parts r = xx at *
  go_upto_region 8 with (fail)
  replace U0 := U0.alloc U0.size (.cells #[.bool false, .slice ax lx cx] 24)
  replace ht := ht.alloc (.cells #[.bool false, .slice ax lx cx] 24)
  replace sa := sa.alloc (.cells #[.bool false, .slice ax lx cx] 24)
  replace Ta := Ta.alloc (.cells #[.bool false, .slice ax lx cx] 24)
  replace sx := sx.alloc (.cells #[.bool false, .slice ax lx cx] 24)
  replace cTa0 := Ta.cells.1
  replace cTa1 := Ta.cells.2
  replace zTa := Ta.lt
  have Tx := BoxI.new wr (wr.heap.size) (by first | rfl | simp) false ax lx cx
  have cTx0 := Tx.cells.1
  have cTx1 := Tx.cells.2
  have zTx := Tx.lt
  clear ht
  go_cut [5] (fun s5 wx => RootCut w (w.heap.size) (wr.heap.size) false aa la ca xa ax lx cx xx ns xs s5 wx)
  case first =>
    go_region_held3 (fun w' => (w'.cell? ⟨wr.heap.size, 0, none⟩ = some (.bool false) ∧ w'.cell? ⟨wr.heap.size, 1, none⟩ = some (.slice ax lx cx))) (first | with_reducible exact ⟨Tx.cells.1, Tx.cells.2⟩ | with_reducible exact ⟨Tx.drew.cells.1, Tx.drew.cells.2⟩ | with_reducible exact ⟨(Tx.alloc _).cells.1, (Tx.alloc _).cells.2⟩ | with_reducible exact ⟨(Tx.alloc _).drew.cells.1, (Tx.alloc _).drew.cells.2⟩ | with_reducible exact ⟨(Tx.set3 Z _ _ _).cells.1, (Tx.set3 Z _ _ _).cells.2⟩ | exact ⟨Tx.cells.1, Tx.cells.2⟩ | exact ⟨(Tx.alloc _).cells.1, (Tx.alloc _).cells.2⟩) (first | (go_at_call 65; (with_reducible refine (lawVal_any _ _ _ _ _).mono ?_); rintro e wq ⟨rfl, bq⟩; (try with_reducible replace Z := Z.below bq); (first | (with_reducible have Z := Zr.newA bq; have zg := alloc_le U0.size) | (with_reducible have Z := Zr.newAD bq; have zg := alloc_le U0.size) | (with_reducible have Z := Zr.new bq; have zg := U0.size) | (with_reducible have Z := Zr.newD bq; have zg := U0.size) | skip); (first | (with_reducible replace U0 := U0.trans (bq.mono U0.size)) | (with_reducible replace U0 := (U0.alloc U0.size _).trans (bq.mono (U0.alloc U0.size _).size)) | (with_reducible replace U0 := U0.drew.trans (bq.mono U0.drew.size)) | (with_reducible replace U0 := (U0.alloc U0.size _).drew.trans (bq.mono (U0.alloc U0.size _).drew.size))); (first | (with_reducible replace sa := sa.below bq) | (with_reducible replace sa := (sa.alloc _).below bq) | (with_reducible replace sa := sa.drew.below bq) | (with_reducible replace sa := (sa.alloc _).drew.below bq)); (first | (with_reducible replace Ta := Ta.below bq) | (with_reducible replace Ta := (Ta.alloc _).below bq) | (with_reducible replace Ta := Ta.drew.below bq) | (with_reducible replace Ta := (Ta.alloc _).drew.below bq)); (first | (with_reducible replace sx := sx.below bq) | (with_reducible replace sx := (sx.alloc _).below bq) | (with_reducible replace sx := sx.drew.below bq) | (with_reducible replace sx := (sx.alloc _).drew.below bq)); (first | (with_reducible replace Tx := Tx.below bq) | (with_reducible replace Tx := (Tx.alloc _).below bq) | (with_reducible replace Tx := Tx.drew.below bq) | (with_reducible replace Tx := (Tx.alloc _).drew.below bq)); replace cTa0 := Ta.cells.1; replace cTa1 := Ta.cells.2; replace zTa := Ta.lt; replace cTx0 := Tx.cells.1; replace cTx1 := Tx.cells.2; replace zTx := Tx.lt; (try (replace cz0 := Z.cells.1; replace cz1 := Z.cells.2.1; replace cz2 := Z.cells.2.2; replace fz0 := Z.froz.1; replace fz1 := Z.froz.2.1; replace fz2 := Z.froz.2.2; replace zz := Box3.lt Z)); clear bq) | (go_at_call 68; (with_reducible refine (Tq.out _ _ _ _ _ _ _ (by first | exact sx | exact sx.alloc _ | exact sx.drew | exact (sx.alloc _).drew) (by first | exact sx | exact sx.alloc _ | exact sx.drew | exact (sx.alloc _).drew)).mono ?_); rintro e wq ⟨aq, lq, cq, rfl, sq, bq⟩; (try with_reducible replace Z := Z.below bq); (first | (with_reducible have Z := Zr.newA bq; have zg := alloc_le U0.size) | (with_reducible have Z := Zr.newAD bq; have zg := alloc_le U0.size) | (with_reducible have Z := Zr.new bq; have zg := U0.size) | (with_reducible have Z := Zr.newD bq; have zg := U0.size) | skip); (first | (with_reducible replace U0 := U0.trans (bq.mono U0.size)) | (with_reducible replace U0 := (U0.alloc U0.size _).trans (bq.mono (U0.alloc U0.size _).size)) | (with_reducible replace U0 := U0.drew.trans (bq.mono U0.drew.size)) | (with_reducible replace U0 := (U0.alloc U0.size _).drew.trans (bq.mono (U0.alloc U0.size _).drew.size))); (first | (with_reducible replace sa := sa.below bq) | (with_reducible replace sa := (sa.alloc _).below bq) | (with_reducible replace sa := sa.drew.below bq) | (with_reducible replace sa := (sa.alloc _).drew.below bq)); (first | (with_reducible replace Ta := Ta.below bq) | (with_reducible replace Ta := (Ta.alloc _).below bq) | (with_reducible replace Ta := Ta.drew.below bq) | (with_reducible replace Ta := (Ta.alloc _).drew.below bq)); (first | (with_reducible replace sx := sx.below bq) | (with_reducible replace sx := (sx.alloc _).below bq) | (with_reducible replace sx := sx.drew.below bq) | (with_reducible replace sx := (sx.alloc _).drew.below bq)); (first | (with_reducible replace Tx := Tx.below bq) | (with_reducible replace Tx := (Tx.alloc _).below bq) | (with_reducible replace Tx := Tx.drew.below bq) | (with_reducible replace Tx := (Tx.alloc _).drew.below bq)); replace cTa0 := Ta.cells.1; replace cTa1 := Ta.cells.2; replace zTa := Ta.lt; replace cTx0 := Tx.cells.1; replace cTx1 := Tx.cells.2; replace zTx := Tx.lt; (try (replace cz0 := Z.cells.1; replace cz1 := Z.cells.2.1; replace cz2 := Z.cells.2.2; replace fz0 := Z.froz.1; replace fz1 := Z.froz.2.1; replace fz2 := Z.froz.2.2; replace zz := Box3.lt Z)); clear bq))
    all_goals (go_wp2_with fail; go_meet; (first | exact ⟨_, aq, lq, cq, rfl, Box3.new _ _ _ _ _ _, sq.alloc _, Ta.alloc _, sa.alloc _, Tx.alloc _, sx.alloc _, U0.alloc U0.size _⟩ | exact ⟨_, aq, lq, cq, rfl, Box3.set Z, sq.pair Ls.out Z _ _ _ _ _, Ta.set3 Z _ _ _, sa.pair La.out Z _ _ _ _ _, Tx.set3 Z _ _ _, sx.pair Lx.out Z _ _ _ _ _, Below.set3 U0 zg _ _ _⟩))
  case rest =>
    obtain ⟨g, aq, lq, cq, rfl, Tq3, sq, Ta, sa, Tx, sx, U0⟩ := hcut
    have cTq30 := Tq3.cells.1
    have cTq31 := Tq3.cells.2.1
    have cTq32 := Tq3.cells.2.2
    have zTq3 := Tq3.lt
    have cTa0 := Ta.cells.1
    have cTa1 := Ta.cells.2
    have zTa := Ta.lt
    have cTx0 := Tx.cells.1
    have cTx1 := Tx.cells.2
    have zTx := Tx.lt
    go_wp2_with fail
    (with_reducible refine (lawVal_any _ _ _ _ _).mono ?_)
    rintro e w1 ⟨rfl, b1⟩
    replace U0 := U0.trans (b1.mono U0.size)
    replace Tq3 := Tq3.below b1
    replace sq := sq.below b1
    replace Ta := Ta.below b1
    replace sa := sa.below b1
    replace Tx := Tx.below b1
    replace sx := sx.below b1
    replace cTq30 := Tq3.cells.1
    replace cTq31 := Tq3.cells.2.1
    replace cTq32 := Tq3.cells.2.2
    replace zTq3 := Tq3.lt
    replace cTa0 := Ta.cells.1
    replace cTa1 := Ta.cells.2
    replace zTa := Ta.lt
    replace cTx0 := Tx.cells.1
    replace cTx1 := Tx.cells.2
    replace zTx := Tx.lt
    clear b1
    go_wp2_with fail
    (with_reducible refine (Of.out _).mono ?_)
    rintro e w2 ⟨a1, l1, c1, rfl, s1, b2⟩
    replace U0 := U0.trans (b2.mono U0.size)
    replace Tq3 := Tq3.below b2
    replace sq := sq.below b2
    replace Ta := Ta.below b2
    replace sa := sa.below b2
    replace Tx := Tx.below b2
    replace sx := sx.below b2
    replace cTq30 := Tq3.cells.1
    replace cTq31 := Tq3.cells.2.1
    replace cTq32 := Tq3.cells.2.2
    replace zTq3 := Tq3.lt
    replace cTa0 := Ta.cells.1
    replace cTa1 := Ta.cells.2
    replace zTa := Ta.lt
    replace cTx0 := Tx.cells.1
    replace cTx1 := Tx.cells.2
    replace zTx := Tx.lt
    clear b2
    go_wp2_with fail
    (with_reducible refine (lawVal_any _ _ _ _ _).mono ?_)
    rintro e w3 ⟨rfl, b3⟩
    replace U0 := U0.trans (b3.mono U0.size)
    replace Tq3 := Tq3.below b3
    replace sq := sq.below b3
    replace Ta := Ta.below b3
    replace sa := sa.below b3
    replace Tx := Tx.below b3
    replace sx := sx.below b3
    replace s1 := s1.below b3
    replace cTq30 := Tq3.cells.1
    replace cTq31 := Tq3.cells.2.1
    replace cTq32 := Tq3.cells.2.2
    replace zTq3 := Tq3.lt
    replace cTa0 := Ta.cells.1
    replace cTa1 := Ta.cells.2
    replace zTa := Ta.lt
    replace cTx0 := Tx.cells.1
    replace cTx1 := Tx.cells.2
    replace zTx := Tx.lt
    clear b3
    go_wp2_with fail
    (with_reducible refine (Sm.out _ _ _ _ _ _ _ (by exact sx) (by exact s1)).mono ?_)
    rintro e w4 ⟨am, lm, cm, rfl, sm, b4⟩
    replace U0 := U0.trans (b4.mono U0.size)
    replace Tq3 := Tq3.below b4
    replace sq := sq.below b4
    replace Ta := Ta.below b4
    replace sa := sa.below b4
    replace Tx := Tx.below b4
    replace sx := sx.below b4
    replace s1 := s1.below b4
    replace cTq30 := Tq3.cells.1
    replace cTq31 := Tq3.cells.2.1
    replace cTq32 := Tq3.cells.2.2
    replace zTq3 := Tq3.lt
    replace cTa0 := Ta.cells.1
    replace cTa1 := Ta.cells.2
    replace zTa := Ta.lt
    replace cTx0 := Tx.cells.1
    replace cTx1 := Tx.cells.2
    replace zTx := Tx.lt
    clear b4
    go_wp2_with fail
    replace U0 := U0.alloc U0.size (.cells #[.bool nm, .slice am lm cm, .int .i64 em] 38)
    replace Tq3 := Tq3.alloc (.cells #[.bool nm, .slice am lm cm, .int .i64 em] 38)
    replace sq := sq.alloc (.cells #[.bool nm, .slice am lm cm, .int .i64 em] 38)
    replace Ta := Ta.alloc (.cells #[.bool nm, .slice am lm cm, .int .i64 em] 38)
    replace sa := sa.alloc (.cells #[.bool nm, .slice am lm cm, .int .i64 em] 38)
    replace Tx := Tx.alloc (.cells #[.bool nm, .slice am lm cm, .int .i64 em] 38)
    replace sx := sx.alloc (.cells #[.bool nm, .slice am lm cm, .int .i64 em] 38)
    replace s1 := s1.alloc (.cells #[.bool nm, .slice am lm cm, .int .i64 em] 38)
    replace sm := sm.alloc (.cells #[.bool nm, .slice am lm cm, .int .i64 em] 38)
    replace cTq30 := Tq3.cells.1
    replace cTq31 := Tq3.cells.2.1
    replace cTq32 := Tq3.cells.2.2
    replace zTq3 := Tq3.lt
    replace cTa0 := Ta.cells.1
    replace cTa1 := Ta.cells.2
    replace zTa := Ta.lt
    replace cTx0 := Tx.cells.1
    replace cTx1 := Tx.cells.2
    replace zTx := Tx.lt
    have Tm := Box3.at w4 (w4.heap.size) (by first | rfl | simp) nm am lm cm em
    have cTm0 := Tm.cells.1
    have cTm1 := Tm.cells.2.1
    have cTm2 := Tm.cells.2.2
    have zTm := Tm.lt
    (with_reducible refine (Tt.out _ _ _ _ _ _ _ (by exact sm) (by exact sm)).mono ?_)
    rintro e w5 ⟨at_, lt, ct, rfl, st, b5⟩
    replace U0 := U0.trans (b5.mono U0.size)
    replace Tq3 := Tq3.below b5
    replace sq := sq.below b5
    replace Ta := Ta.below b5
    replace sa := sa.below b5
    replace Tx := Tx.below b5
    replace sx := sx.below b5
    replace s1 := s1.below b5
    replace sm := sm.below b5
    replace Tm := Tm.below b5
    replace cTq30 := Tq3.cells.1
    replace cTq31 := Tq3.cells.2.1
    replace cTq32 := Tq3.cells.2.2
    replace zTq3 := Tq3.lt
    replace cTa0 := Ta.cells.1
    replace cTa1 := Ta.cells.2
    replace zTa := Ta.lt
    replace cTx0 := Tx.cells.1
    replace cTx1 := Tx.cells.2
    replace zTx := Tx.lt
    replace cTm0 := Tm.cells.1
    replace cTm1 := Tm.cells.2.1
    replace cTm2 := Tm.cells.2.2
    replace zTm := Tm.lt
    clear b5
    go_wp2_with fail
    replace U0 := U0.alloc U0.size (.cells #[.bool nt, .slice at_ lt ct, .int .i64 et] 38)
    replace Tq3 := Tq3.alloc (.cells #[.bool nt, .slice at_ lt ct, .int .i64 et] 38)
    replace sq := sq.alloc (.cells #[.bool nt, .slice at_ lt ct, .int .i64 et] 38)
    replace Ta := Ta.alloc (.cells #[.bool nt, .slice at_ lt ct, .int .i64 et] 38)
    replace sa := sa.alloc (.cells #[.bool nt, .slice at_ lt ct, .int .i64 et] 38)
    replace Tx := Tx.alloc (.cells #[.bool nt, .slice at_ lt ct, .int .i64 et] 38)
    replace sx := sx.alloc (.cells #[.bool nt, .slice at_ lt ct, .int .i64 et] 38)
    replace s1 := s1.alloc (.cells #[.bool nt, .slice at_ lt ct, .int .i64 et] 38)
    replace sm := sm.alloc (.cells #[.bool nt, .slice at_ lt ct, .int .i64 et] 38)
    replace Tm := Tm.alloc (.cells #[.bool nt, .slice at_ lt ct, .int .i64 et] 38)
    replace st := st.alloc (.cells #[.bool nt, .slice at_ lt ct, .int .i64 et] 38)
    replace cTq30 := Tq3.cells.1
    replace cTq31 := Tq3.cells.2.1
    replace cTq32 := Tq3.cells.2.2
    replace zTq3 := Tq3.lt
    replace cTa0 := Ta.cells.1
    replace cTa1 := Ta.cells.2
    replace zTa := Ta.lt
    replace cTx0 := Tx.cells.1
    replace cTx1 := Tx.cells.2
    replace zTx := Tx.lt
    replace cTm0 := Tm.cells.1
    replace cTm1 := Tm.cells.2.1
    replace cTm2 := Tm.cells.2.2
    replace zTm := Tm.lt
    have Tt3 := Box3.at w5 (w5.heap.size) (by first | rfl | simp) nt at_ lt ct et
    have cTt30 := Tt3.cells.1
    have cTt31 := Tt3.cells.2.1
    have cTt32 := Tt3.cells.2.2
    have zTt3 := Tt3.lt
    (with_reducible refine (C1.out _ _ _ _ _ _ _ (by exact sq) (by exact sa)).mono ?_)
    rintro e w6 ⟨rfl, b6⟩
    replace U0 := U0.trans (b6.mono U0.size)
    replace Tq3 := Tq3.below b6
    replace sq := sq.below b6
    replace Ta := Ta.below b6
    replace sa := sa.below b6
    replace Tx := Tx.below b6
    replace sx := sx.below b6
    replace s1 := s1.below b6
    replace sm := sm.below b6
    replace Tm := Tm.below b6
    replace st := st.below b6
    replace Tt3 := Tt3.below b6
    replace cTq30 := Tq3.cells.1
    replace cTq31 := Tq3.cells.2.1
    replace cTq32 := Tq3.cells.2.2
    replace zTq3 := Tq3.lt
    replace cTa0 := Ta.cells.1
    replace cTa1 := Ta.cells.2
    replace zTa := Ta.lt
    replace cTx0 := Tx.cells.1
    replace cTx1 := Tx.cells.2
    replace zTx := Tx.lt
    replace cTm0 := Tm.cells.1
    replace cTm1 := Tm.cells.2.1
    replace cTm2 := Tm.cells.2.2
    replace zTm := Tm.lt
    replace cTt30 := Tt3.cells.1
    replace cTt31 := Tt3.cells.2.1
    replace cTt32 := Tt3.cells.2.2
    replace zTt3 := Tt3.lt
    clear b6
    by_cases het : et = 0
    · subst het
      go_wp2_with fail
      (with_reducible refine (C2.out (by first | rfl | trivial) _ _ _ _ _ _ _ (by exact st) (by exact sa)).mono ?_)
      rintro e w7 ⟨rfl, b7⟩
      replace U0 := U0.trans (b7.mono U0.size)
      replace Tq3 := Tq3.below b7
      replace sq := sq.below b7
      replace Ta := Ta.below b7
      replace sa := sa.below b7
      replace Tx := Tx.below b7
      replace sx := sx.below b7
      replace s1 := s1.below b7
      replace sm := sm.below b7
      replace Tm := Tm.below b7
      replace st := st.below b7
      replace Tt3 := Tt3.below b7
      replace cTq30 := Tq3.cells.1
      replace cTq31 := Tq3.cells.2.1
      replace cTq32 := Tq3.cells.2.2
      replace zTq3 := Tq3.lt
      replace cTa0 := Ta.cells.1
      replace cTa1 := Ta.cells.2
      replace zTa := Ta.lt
      replace cTx0 := Tx.cells.1
      replace cTx1 := Tx.cells.2
      replace zTx := Tx.lt
      replace cTm0 := Tm.cells.1
      replace cTm1 := Tm.cells.2.1
      replace cTm2 := Tm.cells.2.2
      replace zTm := Tm.lt
      replace cTt30 := Tt3.cells.1
      replace cTt31 := Tt3.cells.2.1
      replace cTt32 := Tt3.cells.2.2
      replace zTt3 := Tt3.lt
      clear b7
      go_wp2
      go_ret
      exact ⟨rfl, U0⟩
    · have hq : ((et : Int) != 0) = true := by simpa using het
      clear het
      go_wp2
      go_ret
      exact ⟨rfl, U0⟩

theorem numRoots_any (na : Bool) (aa : Option Addr) (la ca : Nat) (xa : List Int) (w : World) (ht : Tab w) (sa : Sl w aa la ca xa) : Calls Tryz.prog 12 #[.agg #[.bool na, .slice aa la ca]] w (RetBool true w) := by
  cases hr : (!(wrong ⟨na, aa, la, ca, xa⟩))
  · exact roots_wrong na aa la ca xa w ht sa hr
  · have h := hr
    simp only [Bool.not_eq_true'] at h
    obtain ⟨a, Na⟩ := wrong_no sa h
    have e := Na.2.1
    by_cases h0 : a < 0
    · exact roots_neg na aa la ca xa w ht sa a Na h0 (by simpa [h0] using e) hr
    · exact roots_ok na aa la ca xa w ht sa a Na (by omega) (by simpa [h0] using e) hr
end Go.Proofs.YtkcjjdiklodofaaGreatDoor

/- NumRoots: for every input the law answers true, and each argument reads afterwards as it read before. Condition: the table of the powers of ten lies as the program's text lays it (tied by the card). -/
namespace Go.Proofs.YtkcjjdiklodofaaGreatDoor.lawNumRoots
open Go.ChangeShapes Go.WideShapes Go.ChangeAt Go.RowKit

theorem door_met (os : Os) (args : Array Value) : laidMetH Tryz.prog Rows.numRootsRow.laid ((World.doorLaid Tryz.prog 24 os).forCall (fun _ _ => 0) ⟨#[], args, []⟩).memory :=
  laidMetH_of_parts3 (fuel := 8) (laidMet_of_run' 8 (by kernel_rfl) (by kernel_rfl)) (by kernel_rfl) (by kernel_rfl)

set_option maxRecDepth 100000 in
theorem lifted (os : Os) (started : os.Started) (H : Type) (enc : TypeId × Value → H) :
    ReturnsInHanded {} Tryz.checked os 12 .any (fun w args => (Rows.numRootsSpec.pre enc Tryz.prog Tryz.f12 [] false w args ∧ laidMetH Tryz.prog Rows.numRootsRow.laid w) ∧ sizedMet enc Tryz.prog Tryz.f12 (OpenSpec.ofChange Rows.numRootsSpec) false w args)
      (Rows.numRootsSpec.post enc Tryz.prog Tryz.f12 false true false false) := by
  refine returnsInHanded_of_change_and (C := Tryz.checked) (X := fun w _ => laidMetH Tryz.prog Rows.numRootsRow.laid w) (fun _ _ _ hh h => h.of_heap hh) lift_own started (by kernel_rfl) Tryz.func12
    (ChangeSpec.witness_shaped (enc := enc) (C := Tryz.checked) (os := os) (X := fun w _ => laidMetH Tryz.prog Rows.numRootsRow.laid w) false (World.doorLaid Tryz.prog 24 os) #[.agg #[.bool false, .slice none 0 0]] 8 rfl (World.shaped_of_RefB (by kernel_rfl) (by kernel_rfl)) (by kernel_rfl) (by kernel_rfl) (by kernel_rfl) (door_met os _)) ?_
  intro W base args ds gs before hval0 hW _ _ hL _
  have hval : ∀ (j : Nat) t v, Tryz.f12.params[j]? = some t → args[j]? = some v → Value.okWide Tryz.prog W .any base t v := hval0
  have hW' := hW
  obtain ⟨p, q, hA0, hV, rfl, hfz, hnd⟩ := hW
  have hA : DataW.TrodAll enc Tryz.prog W 0 (fun _ => true) true Tryz.f12.params.toList args.toList ds p := hA0
  rw [Tryz.params12] at hA hval
  clear hA0 hval0
  obtain ⟨v0, vs0, d0, ds0, p0, q0, hargs, rfl, rfl, h0, r0⟩ := trodAll_cons hA
  obtain ⟨rfl, rfl, rfl⟩ := trodAll_nil r0
  obtain rfl : args = #[v0] := by cases args; simp_all
  obtain ⟨rfl, rfl⟩ := trodVars_none hV
  obtain ⟨n0, ao0, len0, cap0, xs0, rfl, s0⟩ := open_I (hval 0 24 v0 rfl rfl) h0
  simp only [List.append_nil] at hW'
  refine (numRoots_any n0 ao0 len0 cap0 xs0 W (lift_tab hL) s0).mono fun e W' ⟨he, hg⟩ => ?_
  subst he
  have hlt : ∀ x ∈ p0, x.block < W.heap.size := fun x hx => hW'.lt x hx
  have in0 : ∀ x ∈ p0, x ∈ p0 := fun x hx => by simp [hx]
  exact ⟨_, rfl, post_of_below (pv := []) hW' (fun _ _ _ => (trodAll_cons_mk (shut_bool Tryz.underlying4 _) trodAll_mk0)) (fun sp hsp => (trodAll_cons_mk (again_I h0 hg (fun x hx => hlt x (in0 x hx)) (fun x hx => hsp x (in0 x hx))) trodAll_mk0)) (fun _ _ => rfl) (by simp)
    hg (ok_one (by kernel_rfl) rfl (okWide_bool_mk Tryz.underlying4 _))⟩

theorem over : Rows.numRootsRow.holds Tryz.pinned (OpenSpec.ofChange Rows.numRootsSpec) :=
  OpenClaim.holds_of_wide 12 Tryz.f12 rfl rfl rfl rfl rfl rfl rfl ⟨rfl, rfl, rfl, rfl, rfl⟩ rfl rfl rfl rfl rfl (by kernel_rfl) Tryz.func12 (by kernel_rfl)
    (of_decide_eq_true (by kernel_rfl)) (by unfold Func.isWrapper; first | (rw [if_pos (by decide +kernel)]; kernel_rfl) | (rw [if_neg (by decide +kernel)]; exact ⟨rfl, rfl⟩))
    (fun os started H enc _ => lifted os started H enc)

theorem plain (f : FuncId) (fn : Func) (hf : Tryz.pinned.checked.prog.funcNamed "foregone/foregonelaw01.NumRoots" = some f) (hfn : Tryz.pinned.checked.prog.funcs[f]? = some fn) :
    false = Tryz.pinned.checked.prog.looks [] ∧ ∀ (j : Nat) t, fn.params[j]? = some t → Tryz.pinned.checked.prog.wantsStandIn t = false := by
  obtain rfl : f = 12 := Option.some.inj ((show Tryz.prog.funcNamed "foregone/foregonelaw01.NumRoots" = some 12 by kernel_rfl).symm.trans hf) |>.symm
  obtain rfl : fn = Tryz.f12 := (Option.some.inj (Tryz.func12.symm.trans hfn)).symm
  refine ⟨by kernel_rfl, fun j t ht => ?_⟩
  rw [Tryz.params12] at ht
  have hm : t ∈ [24] := by simpa using Array.mem_of_getElem? ht
  have hall : ([24].all fun u => !Tryz.prog.wantsStandIn u) = true := by kernel_rfl
  exact (show Tryz.prog.wantsStandIn t = false by simpa using List.all_eq_true.1 hall t hm)

theorem card : Rows.NumRootsCardSaid :=
  Claim7.holds_tied_plain_at .later [] _ _ _ _ over (fun _ h => by cases h) (by kernel_rfl) (fun _ h => by cases h) numRoots_row_tie rfl ⟨rfl, rfl⟩ (by kernel_rfl) rfl plain (by kernel_rfl)
end Go.Proofs.YtkcjjdiklodofaaGreatDoor.lawNumRoots

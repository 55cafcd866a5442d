/- NumBezout: for every input the law answers true, and each argument reads afterwards as it read before. Condition: the table of the powers of ten lies as the program's text lays it (tied by the card). -/
import Derived.Test.YtkcjjdiklodofaaGreatDoorK8
set_option linter.all false

/- The walk of NumBezout. -/
namespace Go.Proofs.YtkcjjdiklodofaaGreatDoor
open Go.RowKit

theorem not_cmp {z : Int} (h : 0 < z) : cmp3 z 0 = 1 := by unfold cmp3; rw [if_neg (by omega), if_neg (by omega)]
theorem not_cmp' {z : Int} (h : z < 0) : cmp3 z 0 = -1 := by unfold cmp3; rw [if_pos h]
theorem cmp_ne {z : Int} (h : z ≠ 0) : ∃ v, cmp3 z 0 = v ∧ ((v : Int) != 0) = true ∧ ((v : Int) == 0) = false := by
  rcases Int.lt_or_gt_of_ne h with h | h
  · exact ⟨-1, not_cmp' h, rfl, rfl⟩
  · exact ⟨1, not_cmp h, rfl, rfl⟩
set_option maxRecDepth 100000 in
set_option maxHeartbeats 4000000 in
theorem bezout_wrong (na : Bool) (aa : Option Addr) (la ca : Nat) (xa : List Int) (nb : Bool) (ab : Option Addr) (lb cb : Nat) (xb : List Int) (nd : Bool) (ad : Option Addr) (ld cd : Nat) (xd : List Int) (w : World) (ht : Tab w) (sa : Sl w aa la ca xa) (sb : Sl w ab lb cb xb) (sd : Sl w ad ld cd xd) (hr : (!(wrong ⟨na, aa, la, ca, xa⟩ || (wrong ⟨nb, ab, lb, cb, xb⟩ || wrong ⟨nd, ad, ld, cd, xd⟩))) = false) : Calls Tryz.prog 11 #[.agg #[.bool na, .slice aa la ca], .agg #[.bool nb, .slice ab lb cb], .agg #[.bool nd, .slice ad ld cd]] w (RetBool true w) := by
  have Hr := Lib.hid (fun w g hg h1 h2 h3 => right3 na aa la ca xa nb ab lb cb xb nd ad ld cd xd w g hg h1 h2 h3 false hr)
  clear hr
  go_enter Tryz.func11, Tryz.ntmps11
  have U0 := Below.refl w.heap.size w
  go_wp2_with fail
  replace U0 := U0.alloc U0.size (.cells #[.bool na, .slice aa la ca] 24)
  replace ht := ht.alloc (.cells #[.bool na, .slice aa la ca] 24)
  replace sa := sa.alloc (.cells #[.bool na, .slice aa la ca] 24)
  replace sb := sb.alloc (.cells #[.bool na, .slice aa la ca] 24)
  replace sd := sd.alloc (.cells #[.bool na, .slice aa la ca] 24)
  have Ta := BoxI.new w (w.heap.size) (by first | rfl | simp) na aa la ca
  have cTa0 := Ta.cells.1
  have cTa1 := Ta.cells.2
  have zTa := Ta.lt
  replace U0 := U0.alloc U0.size (.cells #[.bool nb, .slice ab lb cb] 24)
  replace ht := ht.alloc (.cells #[.bool nb, .slice ab lb cb] 24)
  replace sa := sa.alloc (.cells #[.bool nb, .slice ab lb cb] 24)
  replace sb := sb.alloc (.cells #[.bool nb, .slice ab lb cb] 24)
  replace sd := sd.alloc (.cells #[.bool nb, .slice ab lb cb] 24)
  replace Ta := Ta.alloc (.cells #[.bool nb, .slice ab lb cb] 24)
  replace cTa0 := Ta.cells.1
  replace cTa1 := Ta.cells.2
  replace zTa := Ta.lt
  have Tb := BoxI.new (w.alloc (.cells #[.bool na, .slice aa la ca] 24)) (w.heap.size + 1) (by first | rfl | simp) nb ab lb cb
  have cTb0 := Tb.cells.1
  have cTb1 := Tb.cells.2
  have zTb := Tb.lt
  replace U0 := U0.alloc U0.size (.cells #[.bool nd, .slice ad ld cd] 24)
  replace ht := ht.alloc (.cells #[.bool nd, .slice ad ld cd] 24)
  replace sa := sa.alloc (.cells #[.bool nd, .slice ad ld cd] 24)
  replace sb := sb.alloc (.cells #[.bool nd, .slice ad ld cd] 24)
  replace sd := sd.alloc (.cells #[.bool nd, .slice ad ld cd] 24)
  replace Ta := Ta.alloc (.cells #[.bool nd, .slice ad ld cd] 24)
  replace Tb := Tb.alloc (.cells #[.bool nd, .slice ad ld cd] 24)
  replace cTa0 := Ta.cells.1
  replace cTa1 := Ta.cells.2
  replace zTa := Ta.lt
  replace cTb0 := Tb.cells.1
  replace cTb1 := Tb.cells.2
  replace zTb := Tb.lt
  have Td := BoxI.new ((w.alloc (.cells #[.bool na, .slice aa la ca] 24)).alloc (.cells #[.bool nb, .slice ab lb cb] 24)) (w.heap.size + 1 + 1) (by first | rfl | simp) nd ad ld cd
  have cTd0 := Td.cells.1
  have cTd1 := Td.cells.2
  have zTd := Td.lt
  (with_reducible refine (sane_any _ (by exact ht)).mono ?_)
  rintro e w1 ⟨rfl, b1⟩
  replace U0 := U0.trans (b1.mono U0.size)
  replace ht := ht.below b1
  replace sa := sa.below b1
  replace sb := sb.below b1
  replace sd := sd.below b1
  replace Ta := Ta.below b1
  replace Tb := Tb.below b1
  replace Td := Td.below b1
  replace cTa0 := Ta.cells.1
  replace cTa1 := Ta.cells.2
  replace zTa := Ta.lt
  replace cTb0 := Tb.cells.1
  replace cTb1 := Tb.cells.2
  replace zTb := Tb.lt
  replace cTd0 := Td.cells.1
  replace cTd1 := Td.cells.2
  replace zTd := Td.lt
  clear b1
  go_wp2_with fail
  replace U0 := U0.alloc U0.size (.cells #[.bool na, .slice aa la ca, .bool nb, .slice ab lb cb, .bool nd, .slice ad ld cd] 24)
  replace ht := ht.alloc (.cells #[.bool na, .slice aa la ca, .bool nb, .slice ab lb cb, .bool nd, .slice ad ld cd] 24)
  replace sa := sa.alloc (.cells #[.bool na, .slice aa la ca, .bool nb, .slice ab lb cb, .bool nd, .slice ad ld cd] 24)
  replace sb := sb.alloc (.cells #[.bool na, .slice aa la ca, .bool nb, .slice ab lb cb, .bool nd, .slice ad ld cd] 24)
  replace sd := sd.alloc (.cells #[.bool na, .slice aa la ca, .bool nb, .slice ab lb cb, .bool nd, .slice ad ld cd] 24)
  replace Ta := Ta.alloc (.cells #[.bool na, .slice aa la ca, .bool nb, .slice ab lb cb, .bool nd, .slice ad ld cd] 24)
  replace Tb := Tb.alloc (.cells #[.bool na, .slice aa la ca, .bool nb, .slice ab lb cb, .bool nd, .slice ad ld cd] 24)
  replace Td := Td.alloc (.cells #[.bool na, .slice aa la ca, .bool nb, .slice ab lb cb, .bool nd, .slice ad ld cd] 24)
  replace cTa0 := Ta.cells.1
  replace cTa1 := Ta.cells.2
  replace zTa := Ta.lt
  replace cTb0 := Tb.cells.1
  replace cTb1 := Tb.cells.2
  replace zTb := Tb.lt
  replace cTd0 := Td.cells.1
  replace cTd1 := Td.cells.2
  replace zTd := Td.lt
  (with_reducible refine (Hr.out _ _ (heap_new _ _) (by exact sa) (by exact sb) (by exact sd)).mono ?_)
  rintro e w2 ⟨rfl, b2⟩
  replace U0 := U0.trans (b2.mono U0.size)
  replace ht := ht.below b2
  replace sa := sa.below b2
  replace sb := sb.below b2
  replace sd := sd.below b2
  replace Ta := Ta.below b2
  replace Tb := Tb.below b2
  replace Td := Td.below b2
  replace cTa0 := Ta.cells.1
  replace cTa1 := Ta.cells.2
  replace zTa := Ta.lt
  replace cTb0 := Tb.cells.1
  replace cTb1 := Tb.cells.2
  replace zTb := Tb.lt
  replace cTd0 := Td.cells.1
  replace cTd1 := Td.cells.2
  replace zTd := Td.lt
  clear b2
  go_wp2
  go_ret
  exact ⟨rfl, U0⟩

set_option maxRecDepth 100000 in
set_option maxHeartbeats 4000000 in
theorem bezout_right (na : Bool) (aa : Option Addr) (la ca : Nat) (xa : List Int) (nb : Bool) (ab : Option Addr) (lb cb : Nat) (xb : List Int) (nd : Bool) (ad : Option Addr) (ld cd : Nat) (xd : List Int) (w : World) (ht : Tab w) (sa : Sl w aa la ca xa) (sb : Sl w ab lb cb xb) (sd : Sl w ad ld cd xd) (a b d : Int) (Na : Num a na xa) (Nb : Num b nb xb) (Nd : Num d nd xd) (hr : (!(wrong ⟨na, aa, la, ca, xa⟩ || (wrong ⟨nb, ab, lb, cb, xb⟩ || wrong ⟨nd, ad, ld, cd, xd⟩))) = true) : Calls Tryz.prog 11 #[.agg #[.bool na, .slice aa la ca], .agg #[.bool nb, .slice ab lb cb], .agg #[.bool nd, .slice ad ld cd]] w (RetBool true w) := by
  have Hr := Lib.hid (fun w g hg h1 h2 h3 => right3 na aa la ca xa nb ab lb cb xb nd ad ld cd xd w g hg h1 h2 h3 true hr)
  obtain ⟨p0, p1, p2, p3, p4, p5⟩ := bez_spec a b
  obtain ⟨q1, q2, q3⟩ := bez_lim a b Na.1 Nb.1
  obtain ⟨g, x, y, hbz⟩ : ∃ g x y, bez a b = (g, x, y) := ⟨_, _, _, rfl⟩
  rw [hbz] at p0 p1 p2 p3 p4 p5 q1 q2 q3
  simp only at p0 p1 p2 p3 p4 p5 q1 q2 q3
  obtain ⟨ng, xg, Ng⟩ : ∃ n xs, Num g n xs := ⟨_, _, q1, rfl, rfl⟩
  obtain ⟨nx, xx, Nx⟩ : ∃ n xs, Num x n xs := ⟨_, _, q2, rfl, rfl⟩
  obtain ⟨ny, xy, Ny⟩ : ∃ n xs, Num y n xs := ⟨_, _, q3, rfl, rfl⟩
  have hng : ng = false := by rw [Ng.2.1]; simp; omega
  subst hng
  have Bz := Lib.hid (fun ax la ca ay lb cb w hx hy => bezP Na Nb Ng Nx Ny hbz ax la ca ay lb cb w hx hy)
  obtain ⟨p, ep, hp⟩ : ∃ p ep, timesR (a, 0) (x, 0) = (p, ep) := ⟨_, _, rfl⟩
  obtain ⟨q, eq, hq⟩ : ∃ q eq, timesR (b, 0) (y, 0) = (q, eq) := ⟨_, _, rfl⟩
  obtain ⟨s, es, hs⟩ : ∃ s es, sumR (p, ep) (q, eq) = (s, es) := ⟨_, _, rfl⟩
  have fz : ∀ z : Int, Lim (fitR z).1 := fitR_lim
  have lp : Lim p := by have := fz (a * x); unfold timesR at hp; rw [if_pos ⟨rfl, rfl⟩] at hp; rw [hp] at this; exact this
  have lq : Lim q := by have := fz (b * y); unfold timesR at hq; rw [if_pos ⟨rfl, rfl⟩] at hq; rw [hq] at this; exact this
  have ls : Lim s := by
    unfold sumR at hs
    split at hs
    · have := fz (p + q); rw [hs] at this; exact this
    · cases hs; exact Lim.zero
  have hag : es ≠ 0 ∨ (0 : Int) ≠ 0 ∨ s = g := by
    by_cases he : es = 0
    · right; right
      subst he
      unfold sumR at hs
      split at hs
      · rename_i hh
        obtain ⟨rfl, rfl⟩ : ep = 0 ∧ eq = 0 := hh
        have e1 : p = a * x := by
          unfold timesR at hp; rw [if_pos ⟨rfl, rfl⟩] at hp
          by_cases hl : Lim (a * x)
          · rw [fitR_ok hl] at hp; cases hp; rfl
          · rw [fitR_no hl] at hp; cases hp
        have e2 : q = b * y := by
          unfold timesR at hq; rw [if_pos ⟨rfl, rfl⟩] at hq
          by_cases hl : Lim (b * y)
          · rw [fitR_ok hl] at hq; cases hq; rfl
          · rw [fitR_no hl] at hq; cases hq
        have e3 : s = p + q := by
          by_cases hl : Lim (p + q)
          · rw [fitR_ok hl] at hs; cases hs; rfl
          · rw [fitR_no hl] at hs; cases hs
        rw [e3, e1, e2]; exact p1
      · cases hs
    · exact .inl he
  obtain ⟨np, xp, Np⟩ : ∃ n xs, Num p n xs := ⟨_, _, lp, rfl, rfl⟩
  obtain ⟨nq, xq, Nq⟩ : ∃ n xs, Num q n xs := ⟨_, _, lq, rfl, rfl⟩
  obtain ⟨ns, xs, Ns⟩ : ∃ n xs, Num s n xs := ⟨_, _, ls, rfl, rfl⟩
  have T1 := Lib.hid (fun ax la ca ay lb cb w hx hy => lawTimes_any Na Nx Np hp ax la ca ay lb cb w hx hy)
  have T2 := Lib.hid (fun ax la ca ay lb cb w hx hy => lawTimes_any Nb Ny Nq hq ax la ca ay lb cb w hx hy)
  have Su := Lib.hid (fun ax la ca ay lb cb w hx hy => lawSum_any Np Nq Ns hs ax la ca ay lb cb w hx hy)
  have Ag := Lib.hid (fun ax la ca ay lb cb w hx hy => agreeP Ns Ng es 0 hag ax la ca ay lb cb w hx hy)
  obtain ⟨n1, x1, N1⟩ := num_ex 1 (by decide +kernel)
  have Of := Lib.hid (fun w => ofP N1 (by omega) (by omega) w)
  obtain ⟨r1, hr1⟩ : ∃ r, decide (b.natAbs < x.natAbs) = r := ⟨_, rfl⟩
  obtain ⟨r2, hr2⟩ : ∃ r, decide ((1 : Int).natAbs < x.natAbs) = r := ⟨_, rfl⟩
  obtain ⟨r3, hr3⟩ : ∃ r, decide (a.natAbs < y.natAbs) = r := ⟨_, rfl⟩
  obtain ⟨r4, hr4⟩ : ∃ r, decide ((1 : Int).natAbs < y.natAbs) = r := ⟨_, rfl⟩
  have h12 : r1 = false ∨ (r1 = true ∧ r2 = false) := by
    rw [← hr1, ← hr2]; simp; omega
  have h34 : r3 = false ∨ (r3 = true ∧ r4 = false) := by
    rw [← hr3, ← hr4]; simp; omega
  have M1 := Lib.hid (fun ax la ca ay lb cb w hx hy => smallerP Nb Nx r1 hr1 ax la ca ay lb cb w hx hy)
  have M2 := Lib.hid (fun ax la ca ay lb cb w hx hy => smallerP N1 Nx r2 hr2 ax la ca ay lb cb w hx hy)
  have M3 := Lib.hid (fun ax la ca ay lb cb w hx hy => smallerP Na Ny r3 hr3 ax la ca ay lb cb w hx hy)
  have M4 := Lib.hid (fun ax la ca ay lb cb w hx hy => smallerP N1 Ny r4 hr4 ax la ca ay lb cb w hx hy)
  have Sg := Lib.hid (fun v hv ao len cap w hs => signQ (v := v) Ng hv ao len cap w hs)
  have Sa := Lib.hid (fun v hv ao len cap w hs => signQ (v := v) Na hv ao len cap w hs)
  have Sb' := Lib.hid (fun v hv ao len cap w hs => signQ (v := v) Nb hv ao len cap w hs)
  have Sd := Lib.hid (fun v hv ao len cap w hs => signQ (v := v) Nd hv ao len cap w hs)
  have D1 := Lib.hid (fun h0 r hr ax la ca ay lb cb w hx hy => dividesP Ng Na h0 r hr ax la ca ay lb cb w hx hy)
  have D2 := Lib.hid (fun h0 r hr ax la ca ay lb cb w hx hy => dividesP Ng Nb h0 r hr ax la ca ay lb cb w hx hy)
  have D3 := Lib.hid (fun h0 r hr ax la ca ay lb cb w hx hy => dividesP Nd Na h0 r hr ax la ca ay lb cb w hx hy)
  have D4 := Lib.hid (fun h0 r hr ax la ca ay lb cb w hx hy => dividesP Nd Nb h0 r hr ax la ca ay lb cb w hx hy)
  have D5 := Lib.hid (fun h0 r hr ax la ca ay lb cb w hx hy => dividesP Nd Ng h0 r hr ax la ca ay lb cb w hx hy)
  have Hm := Lib.hid p1
  have Hga := Lib.hid p2
  have Hgb := Lib.hid p3
  have Hg0 := Lib.hid p0
  clear hr p0 p1 p2 p3 p4 p5 q1 q2 q3 hbz hp hq hs fz lp lq ls hag Np Nq Ns N1 Na Nb Nd Nx Ny Ng hr1 hr2 hr3 hr4
  go_enter Tryz.func11, Tryz.ntmps11
  have U0 := Below.refl w.heap.size w
  go_wp2_with fail
  replace U0 := U0.alloc U0.size (.cells #[.bool na, .slice aa la ca] 24)
  replace ht := ht.alloc (.cells #[.bool na, .slice aa la ca] 24)
  replace sa := sa.alloc (.cells #[.bool na, .slice aa la ca] 24)
  replace sb := sb.alloc (.cells #[.bool na, .slice aa la ca] 24)
  replace sd := sd.alloc (.cells #[.bool na, .slice aa la ca] 24)
  have Ta := BoxI.new w (w.heap.size) (by first | rfl | simp) na aa la ca
  have cTa0 := Ta.cells.1
  have cTa1 := Ta.cells.2
  have zTa := Ta.lt
  replace U0 := U0.alloc U0.size (.cells #[.bool nb, .slice ab lb cb] 24)
  replace ht := ht.alloc (.cells #[.bool nb, .slice ab lb cb] 24)
  replace sa := sa.alloc (.cells #[.bool nb, .slice ab lb cb] 24)
  replace sb := sb.alloc (.cells #[.bool nb, .slice ab lb cb] 24)
  replace sd := sd.alloc (.cells #[.bool nb, .slice ab lb cb] 24)
  replace Ta := Ta.alloc (.cells #[.bool nb, .slice ab lb cb] 24)
  replace cTa0 := Ta.cells.1
  replace cTa1 := Ta.cells.2
  replace zTa := Ta.lt
  have Tb := BoxI.new (w.alloc (.cells #[.bool na, .slice aa la ca] 24)) (w.heap.size + 1) (by first | rfl | simp) nb ab lb cb
  have cTb0 := Tb.cells.1
  have cTb1 := Tb.cells.2
  have zTb := Tb.lt
  replace U0 := U0.alloc U0.size (.cells #[.bool nd, .slice ad ld cd] 24)
  replace ht := ht.alloc (.cells #[.bool nd, .slice ad ld cd] 24)
  replace sa := sa.alloc (.cells #[.bool nd, .slice ad ld cd] 24)
  replace sb := sb.alloc (.cells #[.bool nd, .slice ad ld cd] 24)
  replace sd := sd.alloc (.cells #[.bool nd, .slice ad ld cd] 24)
  replace Ta := Ta.alloc (.cells #[.bool nd, .slice ad ld cd] 24)
  replace Tb := Tb.alloc (.cells #[.bool nd, .slice ad ld cd] 24)
  replace cTa0 := Ta.cells.1
  replace cTa1 := Ta.cells.2
  replace zTa := Ta.lt
  replace cTb0 := Tb.cells.1
  replace cTb1 := Tb.cells.2
  replace zTb := Tb.lt
  have Td := BoxI.new ((w.alloc (.cells #[.bool na, .slice aa la ca] 24)).alloc (.cells #[.bool nb, .slice ab lb cb] 24)) (w.heap.size + 1 + 1) (by first | rfl | simp) nd ad ld cd
  have cTd0 := Td.cells.1
  have cTd1 := Td.cells.2
  have zTd := Td.lt
  (with_reducible refine (sane_any _ (by exact ht)).mono ?_)
  rintro e w1 ⟨rfl, b1⟩
  replace U0 := U0.trans (b1.mono U0.size)
  replace ht := ht.below b1
  replace sa := sa.below b1
  replace sb := sb.below b1
  replace sd := sd.below b1
  replace Ta := Ta.below b1
  replace Tb := Tb.below b1
  replace Td := Td.below b1
  replace cTa0 := Ta.cells.1
  replace cTa1 := Ta.cells.2
  replace zTa := Ta.lt
  replace cTb0 := Tb.cells.1
  replace cTb1 := Tb.cells.2
  replace zTb := Tb.lt
  replace cTd0 := Td.cells.1
  replace cTd1 := Td.cells.2
  replace zTd := Td.lt
  clear b1
  go_wp2_with fail
  replace U0 := U0.alloc U0.size (.cells #[.bool na, .slice aa la ca, .bool nb, .slice ab lb cb, .bool nd, .slice ad ld cd] 24)
  replace ht := ht.alloc (.cells #[.bool na, .slice aa la ca, .bool nb, .slice ab lb cb, .bool nd, .slice ad ld cd] 24)
  replace sa := sa.alloc (.cells #[.bool na, .slice aa la ca, .bool nb, .slice ab lb cb, .bool nd, .slice ad ld cd] 24)
  replace sb := sb.alloc (.cells #[.bool na, .slice aa la ca, .bool nb, .slice ab lb cb, .bool nd, .slice ad ld cd] 24)
  replace sd := sd.alloc (.cells #[.bool na, .slice aa la ca, .bool nb, .slice ab lb cb, .bool nd, .slice ad ld cd] 24)
  replace Ta := Ta.alloc (.cells #[.bool na, .slice aa la ca, .bool nb, .slice ab lb cb, .bool nd, .slice ad ld cd] 24)
  replace Tb := Tb.alloc (.cells #[.bool na, .slice aa la ca, .bool nb, .slice ab lb cb, .bool nd, .slice ad ld cd] 24)
  replace Td := Td.alloc (.cells #[.bool na, .slice aa la ca, .bool nb, .slice ab lb cb, .bool nd, .slice ad ld cd] 24)
  replace cTa0 := Ta.cells.1
  replace cTa1 := Ta.cells.2
  replace zTa := Ta.lt
  replace cTb0 := Tb.cells.1
  replace cTb1 := Tb.cells.2
  replace zTb := Tb.lt
  replace cTd0 := Td.cells.1
  replace cTd1 := Td.cells.2
  replace zTd := Td.lt
  (with_reducible refine (Hr.out _ _ (heap_new _ _) (by exact sa) (by exact sb) (by exact sd)).mono ?_)
  rintro e w2 ⟨rfl, b2⟩
  replace U0 := U0.trans (b2.mono U0.size)
  replace ht := ht.below b2
  replace sa := sa.below b2
  replace sb := sb.below b2
  replace sd := sd.below b2
  replace Ta := Ta.below b2
  replace Tb := Tb.below b2
  replace Td := Td.below b2
  replace cTa0 := Ta.cells.1
  replace cTa1 := Ta.cells.2
  replace zTa := Ta.lt
  replace cTb0 := Tb.cells.1
  replace cTb1 := Tb.cells.2
  replace zTb := Tb.lt
  replace cTd0 := Td.cells.1
  replace cTd1 := Td.cells.2
  replace zTd := Td.lt
  clear b2
  go_wp2_with fail
  (with_reducible refine (Bz.out _ _ _ _ _ _ _ (by exact sa) (by exact sb)).mono ?_)
  rintro e w3 ⟨ag, lg, cg, ax, lx, cx, ay, ly, cy, rfl, sg, sx, sy, b3⟩
  replace U0 := U0.trans (b3.mono U0.size)
  replace ht := ht.below b3
  replace sa := sa.below b3
  replace sb := sb.below b3
  replace sd := sd.below b3
  replace Ta := Ta.below b3
  replace Tb := Tb.below b3
  replace Td := Td.below b3
  replace cTa0 := Ta.cells.1
  replace cTa1 := Ta.cells.2
  replace zTa := Ta.lt
  replace cTb0 := Tb.cells.1
  replace cTb1 := Tb.cells.2
  replace zTb := Tb.lt
  replace cTd0 := Td.cells.1
  replace cTd1 := Td.cells.2
  replace zTd := Td.lt
  clear b3
  go_wp2
  replace U0 := U0.alloc U0.size (.cells #[.bool false, .slice ag lg cg] 24)
  replace ht := ht.alloc (.cells #[.bool false, .slice ag lg cg] 24)
  replace sa := sa.alloc (.cells #[.bool false, .slice ag lg cg] 24)
  replace sb := sb.alloc (.cells #[.bool false, .slice ag lg cg] 24)
  replace sd := sd.alloc (.cells #[.bool false, .slice ag lg cg] 24)
  replace Ta := Ta.alloc (.cells #[.bool false, .slice ag lg cg] 24)
  replace Tb := Tb.alloc (.cells #[.bool false, .slice ag lg cg] 24)
  replace Td := Td.alloc (.cells #[.bool false, .slice ag lg cg] 24)
  replace sg := sg.alloc (.cells #[.bool false, .slice ag lg cg] 24)
  replace sx := sx.alloc (.cells #[.bool false, .slice ag lg cg] 24)
  replace sy := sy.alloc (.cells #[.bool false, .slice ag lg cg] 24)
  replace cTa0 := Ta.cells.1
  replace cTa1 := Ta.cells.2
  replace zTa := Ta.lt
  replace cTb0 := Tb.cells.1
  replace cTb1 := Tb.cells.2
  replace zTb := Tb.lt
  replace cTd0 := Td.cells.1
  replace cTd1 := Td.cells.2
  replace zTd := Td.lt
  have Tg := BoxI.new w3 (w3.heap.size) (by first | rfl | simp) false ag lg cg
  have cTg0 := Tg.cells.1
  have cTg1 := Tg.cells.2
  have zTg := Tg.lt
  replace U0 := U0.alloc U0.size (.cells #[.bool nx, .slice ax lx cx] 24)
  replace ht := ht.alloc (.cells #[.bool nx, .slice ax lx cx] 24)
  replace sa := sa.alloc (.cells #[.bool nx, .slice ax lx cx] 24)
  replace sb := sb.alloc (.cells #[.bool nx, .slice ax lx cx] 24)
  replace sd := sd.alloc (.cells #[.bool nx, .slice ax lx cx] 24)
  replace Ta := Ta.alloc (.cells #[.bool nx, .slice ax lx cx] 24)
  replace Tb := Tb.alloc (.cells #[.bool nx, .slice ax lx cx] 24)
  replace Td := Td.alloc (.cells #[.bool nx, .slice ax lx cx] 24)
  replace sg := sg.alloc (.cells #[.bool nx, .slice ax lx cx] 24)
  replace sx := sx.alloc (.cells #[.bool nx, .slice ax lx cx] 24)
  replace sy := sy.alloc (.cells #[.bool nx, .slice ax lx cx] 24)
  replace Tg := Tg.alloc (.cells #[.bool nx, .slice ax lx cx] 24)
  replace cTa0 := Ta.cells.1
  replace cTa1 := Ta.cells.2
  replace zTa := Ta.lt
  replace cTb0 := Tb.cells.1
  replace cTb1 := Tb.cells.2
  replace zTb := Tb.lt
  replace cTd0 := Td.cells.1
  replace cTd1 := Td.cells.2
  replace zTd := Td.lt
  replace cTg0 := Tg.cells.1
  replace cTg1 := Tg.cells.2
  replace zTg := Tg.lt
  have Tx := BoxI.new (w3.alloc (.cells #[.bool false, .slice ag lg cg] 24)) (w3.heap.size + 1) (by first | rfl | simp) nx ax lx cx
  have cTx0 := Tx.cells.1
  have cTx1 := Tx.cells.2
  have zTx := Tx.lt
  replace U0 := U0.alloc U0.size (.cells #[.bool ny, .slice ay ly cy] 24)
  replace ht := ht.alloc (.cells #[.bool ny, .slice ay ly cy] 24)
  replace sa := sa.alloc (.cells #[.bool ny, .slice ay ly cy] 24)
  replace sb := sb.alloc (.cells #[.bool ny, .slice ay ly cy] 24)
  replace sd := sd.alloc (.cells #[.bool ny, .slice ay ly cy] 24)
  replace Ta := Ta.alloc (.cells #[.bool ny, .slice ay ly cy] 24)
  replace Tb := Tb.alloc (.cells #[.bool ny, .slice ay ly cy] 24)
  replace Td := Td.alloc (.cells #[.bool ny, .slice ay ly cy] 24)
  replace sg := sg.alloc (.cells #[.bool ny, .slice ay ly cy] 24)
  replace sx := sx.alloc (.cells #[.bool ny, .slice ay ly cy] 24)
  replace sy := sy.alloc (.cells #[.bool ny, .slice ay ly cy] 24)
  replace Tg := Tg.alloc (.cells #[.bool ny, .slice ay ly cy] 24)
  replace Tx := Tx.alloc (.cells #[.bool ny, .slice ay ly cy] 24)
  replace cTa0 := Ta.cells.1
  replace cTa1 := Ta.cells.2
  replace zTa := Ta.lt
  replace cTb0 := Tb.cells.1
  replace cTb1 := Tb.cells.2
  replace zTb := Tb.lt
  replace cTd0 := Td.cells.1
  replace cTd1 := Td.cells.2
  replace zTd := Td.lt
  replace cTg0 := Tg.cells.1
  replace cTg1 := Tg.cells.2
  replace zTg := Tg.lt
  replace cTx0 := Tx.cells.1
  replace cTx1 := Tx.cells.2
  replace zTx := Tx.lt
  have Ty := BoxI.new ((w3.alloc (.cells #[.bool false, .slice ag lg cg] 24)).alloc (.cells #[.bool nx, .slice ax lx cx] 24)) (w3.heap.size + 1 + 1) (by first | rfl | simp) ny ay ly cy
  have cTy0 := Ty.cells.1
  have cTy1 := Ty.cells.2
  have zTy := Ty.lt
  replace U0 := U0.drew
  replace ht := ht.drew
  replace sa := sa.drew
  replace sb := sb.drew
  replace sd := sd.drew
  replace Ta := Ta.drew
  replace Tb := Tb.drew
  replace Td := Td.drew
  replace sg := sg.drew
  replace sx := sx.drew
  replace sy := sy.drew
  replace Tg := Tg.drew
  replace Tx := Tx.drew
  replace Ty := Ty.drew
  replace cTa0 := Ta.cells.1
  replace cTa1 := Ta.cells.2
  replace zTa := Ta.lt
  replace cTb0 := Tb.cells.1
  replace cTb1 := Tb.cells.2
  replace zTb := Tb.lt
  replace cTd0 := Td.cells.1
  replace cTd1 := Td.cells.2
  replace zTd := Td.lt
  replace cTg0 := Tg.cells.1
  replace cTg1 := Tg.cells.2
  replace zTg := Tg.lt
  replace cTx0 := Tx.cells.1
  replace cTx1 := Tx.cells.2
  replace zTx := Tx.lt
  replace cTy0 := Ty.cells.1
  replace cTy1 := Ty.cells.2
  replace zTy := Ty.lt
  clear ht
  go_region_held3 (fun w' => (w'.cell? ⟨w.heap.size, 0, none⟩ = some (.bool na) ∧ w'.cell? ⟨w.heap.size, 1, none⟩ = some (.slice aa la ca)) ∧ (w'.cell? ⟨w.heap.size + 1, 0, none⟩ = some (.bool nb) ∧ w'.cell? ⟨w.heap.size + 1, 1, none⟩ = some (.slice ab lb cb)) ∧ (w'.cell? ⟨w3.heap.size, 0, none⟩ = some (.bool false) ∧ w'.cell? ⟨w3.heap.size, 1, none⟩ = some (.slice ag lg cg)) ∧ (w'.cell? ⟨w3.heap.size + 1, 0, none⟩ = some (.bool nx) ∧ w'.cell? ⟨w3.heap.size + 1, 1, none⟩ = some (.slice ax lx cx)) ∧ (w'.cell? ⟨w3.heap.size + 1 + 1, 0, none⟩ = some (.bool ny) ∧ w'.cell? ⟨w3.heap.size + 1 + 1, 1, none⟩ = some (.slice ay ly cy))) (first | with_reducible exact ⟨⟨cTa0, cTa1⟩, ⟨cTb0, cTb1⟩, ⟨cTg0, cTg1⟩, ⟨cTx0, cTx1⟩, ⟨cTy0, cTy1⟩⟩ | exact ⟨⟨cTa0, cTa1⟩, ⟨cTb0, cTb1⟩, ⟨cTg0, cTg1⟩, ⟨cTx0, cTx1⟩, ⟨cTy0, cTy1⟩⟩) (first | (go_at_call 65; (with_reducible refine (lawVal_any _ _ _ _ _).mono ?_); rintro e wq ⟨rfl, bq⟩; replace U0 := U0.trans (bq.mono U0.size); replace sa := sa.below bq; replace sb := sb.below bq; replace sd := sd.below bq; replace Ta := Ta.below bq; replace Tb := Tb.below bq; replace Td := Td.below bq; replace sg := sg.below bq; replace sx := sx.below bq; replace sy := sy.below bq; replace Tg := Tg.below bq; replace Tx := Tx.below bq; replace Ty := Ty.below bq; replace cTa0 := Ta.cells.1; replace cTa1 := Ta.cells.2; replace zTa := Ta.lt; replace cTb0 := Tb.cells.1; replace cTb1 := Tb.cells.2; replace zTb := Tb.lt; replace cTd0 := Td.cells.1; replace cTd1 := Td.cells.2; replace zTd := Td.lt; replace cTg0 := Tg.cells.1; replace cTg1 := Tg.cells.2; replace zTg := Tg.lt; replace cTx0 := Tx.cells.1; replace cTx1 := Tx.cells.2; replace zTx := Tx.lt; replace cTy0 := Ty.cells.1; replace cTy1 := Ty.cells.2; replace zTy := Ty.lt; (try replace sp := sp.below bq); (try replace sq := sq.below bq); (try replace ss := ss.below bq); clear bq) | (go_at_call 68; (first | ((with_reducible refine (T1.out _ _ _ _ _ _ _ sa sx).mono ?_); rintro e wq ⟨pa, pl, pc, rfl, sp, bq⟩; replace U0 := U0.trans (bq.mono U0.size); replace sa := sa.below bq; replace sb := sb.below bq; replace sd := sd.below bq; replace Ta := Ta.below bq; replace Tb := Tb.below bq; replace Td := Td.below bq; replace sg := sg.below bq; replace sx := sx.below bq; replace sy := sy.below bq; replace Tg := Tg.below bq; replace Tx := Tx.below bq; replace Ty := Ty.below bq; replace cTa0 := Ta.cells.1; replace cTa1 := Ta.cells.2; replace zTa := Ta.lt; replace cTb0 := Tb.cells.1; replace cTb1 := Tb.cells.2; replace zTb := Tb.lt; replace cTd0 := Td.cells.1; replace cTd1 := Td.cells.2; replace zTd := Td.lt; replace cTg0 := Tg.cells.1; replace cTg1 := Tg.cells.2; replace zTg := Tg.lt; replace cTx0 := Tx.cells.1; replace cTx1 := Tx.cells.2; replace zTx := Tx.lt; replace cTy0 := Ty.cells.1; replace cTy1 := Ty.cells.2; replace zTy := Ty.lt; clear bq) | ((with_reducible refine (T2.out _ _ _ _ _ _ _ sb sy).mono ?_); rintro e wq ⟨qa, ql, qc, rfl, sq, bq⟩; replace U0 := U0.trans (bq.mono U0.size); replace sa := sa.below bq; replace sb := sb.below bq; replace sd := sd.below bq; replace Ta := Ta.below bq; replace Tb := Tb.below bq; replace Td := Td.below bq; replace sg := sg.below bq; replace sx := sx.below bq; replace sy := sy.below bq; replace Tg := Tg.below bq; replace Tx := Tx.below bq; replace Ty := Ty.below bq; replace cTa0 := Ta.cells.1; replace cTa1 := Ta.cells.2; replace zTa := Ta.lt; replace cTb0 := Tb.cells.1; replace cTb1 := Tb.cells.2; replace zTb := Tb.lt; replace cTd0 := Td.cells.1; replace cTd1 := Td.cells.2; replace zTd := Td.lt; replace cTg0 := Tg.cells.1; replace cTg1 := Tg.cells.2; replace zTg := Tg.lt; replace cTx0 := Tx.cells.1; replace cTx1 := Tx.cells.2; replace zTx := Tx.lt; replace cTy0 := Ty.cells.1; replace cTy1 := Ty.cells.2; replace zTy := Ty.lt; (try replace sp := sp.below bq); clear bq))) | (go_at_call 67; (with_reducible refine (Su.out _ _ _ _ _ _ _ sp sq).mono ?_); rintro e wq ⟨ra, rl, rc, rfl, ss, bq⟩; clear sp sq; replace U0 := U0.trans (bq.mono U0.size); replace sa := sa.below bq; replace sb := sb.below bq; replace sd := sd.below bq; replace Ta := Ta.below bq; replace Tb := Tb.below bq; replace Td := Td.below bq; replace sg := sg.below bq; replace sx := sx.below bq; replace sy := sy.below bq; replace Tg := Tg.below bq; replace Tx := Tx.below bq; replace Ty := Ty.below bq; replace cTa0 := Ta.cells.1; replace cTa1 := Ta.cells.2; replace zTa := Ta.lt; replace cTb0 := Tb.cells.1; replace cTb1 := Tb.cells.2; replace zTb := Tb.lt; replace cTd0 := Td.cells.1; replace cTd1 := Td.cells.2; replace zTd := Td.lt; replace cTg0 := Tg.cells.1; replace cTg1 := Tg.cells.2; replace zTg := Tg.lt; replace cTx0 := Tx.cells.1; replace cTx1 := Tx.cells.2; replace zTx := Tx.lt; replace cTy0 := Ty.cells.1; replace cTy1 := Ty.cells.2; replace zTy := Ty.lt; clear bq) | (go_at_call 66; (with_reducible refine (Ag.out _ _ _ _ _ _ _ ss sg).mono ?_); rintro e wq ⟨rfl, bq⟩; clear ss; replace U0 := U0.trans (bq.mono U0.size); replace sa := sa.below bq; replace sb := sb.below bq; replace sd := sd.below bq; replace Ta := Ta.below bq; replace Tb := Tb.below bq; replace Td := Td.below bq; replace sg := sg.below bq; replace sx := sx.below bq; replace sy := sy.below bq; replace Tg := Tg.below bq; replace Tx := Tx.below bq; replace Ty := Ty.below bq; replace cTa0 := Ta.cells.1; replace cTa1 := Ta.cells.2; replace zTa := Ta.lt; replace cTb0 := Tb.cells.1; replace cTb1 := Tb.cells.2; replace zTb := Tb.lt; replace cTd0 := Td.cells.1; replace cTd1 := Td.cells.2; replace zTd := Td.lt; replace cTg0 := Tg.cells.1; replace cTg1 := Tg.cells.2; replace zTg := Tg.lt; replace cTx0 := Tx.cells.1; replace cTx1 := Tx.cells.2; replace zTx := Tx.lt; replace cTy0 := Ty.cells.1; replace cTy1 := Ty.cells.2; replace zTy := Ty.lt; clear bq))
  by_cases hg : g = 0
  · skip
    subst hg
    have ea : a = 0 := by have := Hga.out; exact Int.zero_dvd.1 this
    have eb : b = 0 := by have := Hgb.out; exact Int.zero_dvd.1 this
    have Ea := Lib.hid (show cmp3 a 0 = 0 by rw [ea]; rfl)
    have Eb := Lib.hid (show cmp3 b 0 = 0 by rw [eb]; rfl)
    clear ea eb
    go_wp2_with fail
    (with_reducible refine (Sg.out 0 rfl _ _ _ _ (by exact sg)).mono ?_)
    rintro e w4 ⟨rfl, b4⟩
    replace U0 := U0.trans (b4.mono U0.size)
    replace sa := sa.below b4
    replace sb := sb.below b4
    replace sd := sd.below b4
    replace Ta := Ta.below b4
    replace Tb := Tb.below b4
    replace Td := Td.below b4
    replace sg := sg.below b4
    replace sx := sx.below b4
    replace sy := sy.below b4
    replace Tg := Tg.below b4
    replace Tx := Tx.below b4
    replace Ty := Ty.below b4
    replace cTa0 := Ta.cells.1
    replace cTa1 := Ta.cells.2
    replace zTa := Ta.lt
    replace cTb0 := Tb.cells.1
    replace cTb1 := Tb.cells.2
    replace zTb := Tb.lt
    replace cTd0 := Td.cells.1
    replace cTd1 := Td.cells.2
    replace zTd := Td.lt
    replace cTg0 := Tg.cells.1
    replace cTg1 := Tg.cells.2
    replace zTg := Tg.lt
    replace cTx0 := Tx.cells.1
    replace cTx1 := Tx.cells.2
    replace zTx := Tx.lt
    replace cTy0 := Ty.cells.1
    replace cTy1 := Ty.cells.2
    replace zTy := Ty.lt
    clear b4
    go_wp2_with fail
    (with_reducible refine (Sa.out 0 Ea.out _ _ _ _ (by exact sa)).mono ?_)
    rintro e w5 ⟨rfl, b5⟩
    replace U0 := U0.trans (b5.mono U0.size)
    replace sa := sa.below b5
    replace sb := sb.below b5
    replace sd := sd.below b5
    replace Ta := Ta.below b5
    replace Tb := Tb.below b5
    replace Td := Td.below b5
    replace sg := sg.below b5
    replace sx := sx.below b5
    replace sy := sy.below b5
    replace Tg := Tg.below b5
    replace Tx := Tx.below b5
    replace Ty := Ty.below b5
    replace cTa0 := Ta.cells.1
    replace cTa1 := Ta.cells.2
    replace zTa := Ta.lt
    replace cTb0 := Tb.cells.1
    replace cTb1 := Tb.cells.2
    replace zTb := Tb.lt
    replace cTd0 := Td.cells.1
    replace cTd1 := Td.cells.2
    replace zTd := Td.lt
    replace cTg0 := Tg.cells.1
    replace cTg1 := Tg.cells.2
    replace zTg := Tg.lt
    replace cTx0 := Tx.cells.1
    replace cTx1 := Tx.cells.2
    replace zTx := Tx.lt
    replace cTy0 := Ty.cells.1
    replace cTy1 := Ty.cells.2
    replace zTy := Ty.lt
    clear b5
    go_wp2_with fail
    (with_reducible refine (Sb'.out 0 Eb.out _ _ _ _ (by exact sb)).mono ?_)
    rintro e w6 ⟨rfl, b6⟩
    replace U0 := U0.trans (b6.mono U0.size)
    replace sa := sa.below b6
    replace sb := sb.below b6
    replace sd := sd.below b6
    replace Ta := Ta.below b6
    replace Tb := Tb.below b6
    replace Td := Td.below b6
    replace sg := sg.below b6
    replace sx := sx.below b6
    replace sy := sy.below b6
    replace Tg := Tg.below b6
    replace Tx := Tx.below b6
    replace Ty := Ty.below b6
    replace cTa0 := Ta.cells.1
    replace cTa1 := Ta.cells.2
    replace zTa := Ta.lt
    replace cTb0 := Tb.cells.1
    replace cTb1 := Tb.cells.2
    replace zTb := Tb.lt
    replace cTd0 := Td.cells.1
    replace cTd1 := Td.cells.2
    replace zTd := Td.lt
    replace cTg0 := Tg.cells.1
    replace cTg1 := Tg.cells.2
    replace zTg := Tg.lt
    replace cTx0 := Tx.cells.1
    replace cTx1 := Tx.cells.2
    replace zTx := Tx.lt
    replace cTy0 := Ty.cells.1
    replace cTy1 := Ty.cells.2
    replace zTy := Ty.lt
    clear b6
    go_wp2
    go_ret
    exact ⟨rfl, U0⟩
  · have hgp : 0 < g := by have := Hg0.out; omega
    have Eg := Lib.hid (not_cmp hgp)
    have HG := Lib.hid hg
    clear hgp hg
    go_wp2_with fail
    (with_reducible refine (Sg.out 1 Eg.out _ _ _ _ (by exact sg)).mono ?_)
    rintro e w4 ⟨rfl, b4⟩
    replace U0 := U0.trans (b4.mono U0.size)
    replace sa := sa.below b4
    replace sb := sb.below b4
    replace sd := sd.below b4
    replace Ta := Ta.below b4
    replace Tb := Tb.below b4
    replace Td := Td.below b4
    replace sg := sg.below b4
    replace sx := sx.below b4
    replace sy := sy.below b4
    replace Tg := Tg.below b4
    replace Tx := Tx.below b4
    replace Ty := Ty.below b4
    replace cTa0 := Ta.cells.1
    replace cTa1 := Ta.cells.2
    replace zTa := Ta.lt
    replace cTb0 := Tb.cells.1
    replace cTb1 := Tb.cells.2
    replace zTb := Tb.lt
    replace cTd0 := Td.cells.1
    replace cTd1 := Td.cells.2
    replace zTd := Td.lt
    replace cTg0 := Tg.cells.1
    replace cTg1 := Tg.cells.2
    replace zTg := Tg.lt
    replace cTx0 := Tx.cells.1
    replace cTx1 := Tx.cells.2
    replace zTx := Tx.lt
    replace cTy0 := Ty.cells.1
    replace cTy1 := Ty.cells.2
    replace zTy := Ty.lt
    clear b4
    go_wp2_with fail
    (with_reducible refine (D1.out HG.out true (decide_eq_true Hga.out) _ _ _ _ _ _ _ (by exact sg) (by exact sa)).mono ?_)
    rintro e w5 ⟨rfl, b5⟩
    replace U0 := U0.trans (b5.mono U0.size)
    replace sa := sa.below b5
    replace sb := sb.below b5
    replace sd := sd.below b5
    replace Ta := Ta.below b5
    replace Tb := Tb.below b5
    replace Td := Td.below b5
    replace sg := sg.below b5
    replace sx := sx.below b5
    replace sy := sy.below b5
    replace Tg := Tg.below b5
    replace Tx := Tx.below b5
    replace Ty := Ty.below b5
    replace cTa0 := Ta.cells.1
    replace cTa1 := Ta.cells.2
    replace zTa := Ta.lt
    replace cTb0 := Tb.cells.1
    replace cTb1 := Tb.cells.2
    replace zTb := Tb.lt
    replace cTd0 := Td.cells.1
    replace cTd1 := Td.cells.2
    replace zTd := Td.lt
    replace cTg0 := Tg.cells.1
    replace cTg1 := Tg.cells.2
    replace zTg := Tg.lt
    replace cTx0 := Tx.cells.1
    replace cTx1 := Tx.cells.2
    replace zTx := Tx.lt
    replace cTy0 := Ty.cells.1
    replace cTy1 := Ty.cells.2
    replace zTy := Ty.lt
    clear b5
    go_wp2_with fail
    (with_reducible refine (D2.out HG.out true (decide_eq_true Hgb.out) _ _ _ _ _ _ _ (by exact sg) (by exact sb)).mono ?_)
    rintro e w6 ⟨rfl, b6⟩
    replace U0 := U0.trans (b6.mono U0.size)
    replace sa := sa.below b6
    replace sb := sb.below b6
    replace sd := sd.below b6
    replace Ta := Ta.below b6
    replace Tb := Tb.below b6
    replace Td := Td.below b6
    replace sg := sg.below b6
    replace sx := sx.below b6
    replace sy := sy.below b6
    replace Tg := Tg.below b6
    replace Tx := Tx.below b6
    replace Ty := Ty.below b6
    replace cTa0 := Ta.cells.1
    replace cTa1 := Ta.cells.2
    replace zTa := Ta.lt
    replace cTb0 := Tb.cells.1
    replace cTb1 := Tb.cells.2
    replace zTb := Tb.lt
    replace cTd0 := Td.cells.1
    replace cTd1 := Td.cells.2
    replace zTd := Td.lt
    replace cTg0 := Tg.cells.1
    replace cTg1 := Tg.cells.2
    replace zTg := Tg.lt
    replace cTx0 := Tx.cells.1
    replace cTx1 := Tx.cells.2
    replace zTx := Tx.lt
    replace cTy0 := Ty.cells.1
    replace cTy1 := Ty.cells.2
    replace zTy := Ty.lt
    clear b6
    by_cases hd : d = 0
    · have Ed := Lib.hid (show cmp3 d 0 = 0 by rw [hd]; rfl)
      clear hd
      go_wp2_with fail
      (with_reducible refine (Sd.out 0 Ed.out _ _ _ _ (by exact sd)).mono ?_)
      rintro e w7 ⟨rfl, b7⟩
      replace U0 := U0.trans (b7.mono U0.size)
      replace sa := sa.below b7
      replace sb := sb.below b7
      replace sd := sd.below b7
      replace Ta := Ta.below b7
      replace Tb := Tb.below b7
      replace Td := Td.below b7
      replace sg := sg.below b7
      replace sx := sx.below b7
      replace sy := sy.below b7
      replace Tg := Tg.below b7
      replace Tx := Tx.below b7
      replace Ty := Ty.below b7
      replace cTa0 := Ta.cells.1
      replace cTa1 := Ta.cells.2
      replace zTa := Ta.lt
      replace cTb0 := Tb.cells.1
      replace cTb1 := Tb.cells.2
      replace zTb := Tb.lt
      replace cTd0 := Td.cells.1
      replace cTd1 := Td.cells.2
      replace zTd := Td.lt
      replace cTg0 := Tg.cells.1
      replace cTg1 := Tg.cells.2
      replace zTg := Tg.lt
      replace cTx0 := Tx.cells.1
      replace cTx1 := Tx.cells.2
      replace zTx := Tx.lt
      replace cTy0 := Ty.cells.1
      replace cTy1 := Ty.cells.2
      replace zTy := Ty.lt
      clear b7
      go_wp2_with fail
      (with_reducible refine (Of.out _).mono ?_)
      rintro e w8 ⟨a1, l1, c1, rfl, s1, b8⟩
      replace U0 := U0.trans (b8.mono U0.size)
      replace sa := sa.below b8
      replace sb := sb.below b8
      replace sd := sd.below b8
      replace Ta := Ta.below b8
      replace Tb := Tb.below b8
      replace Td := Td.below b8
      replace sg := sg.below b8
      replace sx := sx.below b8
      replace sy := sy.below b8
      replace Tg := Tg.below b8
      replace Tx := Tx.below b8
      replace Ty := Ty.below b8
      replace cTa0 := Ta.cells.1
      replace cTa1 := Ta.cells.2
      replace zTa := Ta.lt
      replace cTb0 := Tb.cells.1
      replace cTb1 := Tb.cells.2
      replace zTb := Tb.lt
      replace cTd0 := Td.cells.1
      replace cTd1 := Td.cells.2
      replace zTd := Td.lt
      replace cTg0 := Tg.cells.1
      replace cTg1 := Tg.cells.2
      replace zTg := Tg.lt
      replace cTx0 := Tx.cells.1
      replace cTx1 := Tx.cells.2
      replace zTx := Tx.lt
      replace cTy0 := Ty.cells.1
      replace cTy1 := Ty.cells.2
      replace zTy := Ty.lt
      clear b8
      rcases h12 with rfl | ⟨rfl, rfl⟩
      · rcases h34 with rfl | ⟨rfl, rfl⟩
        · skip
          go_wp2_with fail
          replace U0 := U0.alloc U0.size (.cells #[.bool n1, .slice a1 l1 c1] 24)
          replace sa := sa.alloc (.cells #[.bool n1, .slice a1 l1 c1] 24)
          replace sb := sb.alloc (.cells #[.bool n1, .slice a1 l1 c1] 24)
          replace sd := sd.alloc (.cells #[.bool n1, .slice a1 l1 c1] 24)
          replace Ta := Ta.alloc (.cells #[.bool n1, .slice a1 l1 c1] 24)
          replace Tb := Tb.alloc (.cells #[.bool n1, .slice a1 l1 c1] 24)
          replace Td := Td.alloc (.cells #[.bool n1, .slice a1 l1 c1] 24)
          replace sg := sg.alloc (.cells #[.bool n1, .slice a1 l1 c1] 24)
          replace sx := sx.alloc (.cells #[.bool n1, .slice a1 l1 c1] 24)
          replace sy := sy.alloc (.cells #[.bool n1, .slice a1 l1 c1] 24)
          replace Tg := Tg.alloc (.cells #[.bool n1, .slice a1 l1 c1] 24)
          replace Tx := Tx.alloc (.cells #[.bool n1, .slice a1 l1 c1] 24)
          replace Ty := Ty.alloc (.cells #[.bool n1, .slice a1 l1 c1] 24)
          replace s1 := s1.alloc (.cells #[.bool n1, .slice a1 l1 c1] 24)
          replace cTa0 := Ta.cells.1
          replace cTa1 := Ta.cells.2
          replace zTa := Ta.lt
          replace cTb0 := Tb.cells.1
          replace cTb1 := Tb.cells.2
          replace zTb := Tb.lt
          replace cTd0 := Td.cells.1
          replace cTd1 := Td.cells.2
          replace zTd := Td.lt
          replace cTg0 := Tg.cells.1
          replace cTg1 := Tg.cells.2
          replace zTg := Tg.lt
          replace cTx0 := Tx.cells.1
          replace cTx1 := Tx.cells.2
          replace zTx := Tx.lt
          replace cTy0 := Ty.cells.1
          replace cTy1 := Ty.cells.2
          replace zTy := Ty.lt
          have To := BoxI.new w8 (w8.heap.size) (by first | rfl | simp) n1 a1 l1 c1
          have cTo0 := To.cells.1
          have cTo1 := To.cells.2
          have zTo := To.lt
          (with_reducible refine (M1.out _ _ _ _ _ _ _ (by exact sb) (by exact sx)).mono ?_)
          rintro e w9 ⟨rfl, b9⟩
          replace U0 := U0.trans (b9.mono U0.size)
          replace sa := sa.below b9
          replace sb := sb.below b9
          replace sd := sd.below b9
          replace Ta := Ta.below b9
          replace Tb := Tb.below b9
          replace Td := Td.below b9
          replace sg := sg.below b9
          replace sx := sx.below b9
          replace sy := sy.below b9
          replace Tg := Tg.below b9
          replace Tx := Tx.below b9
          replace Ty := Ty.below b9
          replace s1 := s1.below b9
          replace To := To.below b9
          replace cTa0 := Ta.cells.1
          replace cTa1 := Ta.cells.2
          replace zTa := Ta.lt
          replace cTb0 := Tb.cells.1
          replace cTb1 := Tb.cells.2
          replace zTb := Tb.lt
          replace cTd0 := Td.cells.1
          replace cTd1 := Td.cells.2
          replace zTd := Td.lt
          replace cTg0 := Tg.cells.1
          replace cTg1 := Tg.cells.2
          replace zTg := Tg.lt
          replace cTx0 := Tx.cells.1
          replace cTx1 := Tx.cells.2
          replace zTx := Tx.lt
          replace cTy0 := Ty.cells.1
          replace cTy1 := Ty.cells.2
          replace zTy := Ty.lt
          replace cTo0 := To.cells.1
          replace cTo1 := To.cells.2
          replace zTo := To.lt
          clear b9
          go_wp2_with fail
          (with_reducible refine (M3.out _ _ _ _ _ _ _ (by exact sa) (by exact sy)).mono ?_)
          rintro e w10 ⟨rfl, b10⟩
          replace U0 := U0.trans (b10.mono U0.size)
          replace sa := sa.below b10
          replace sb := sb.below b10
          replace sd := sd.below b10
          replace Ta := Ta.below b10
          replace Tb := Tb.below b10
          replace Td := Td.below b10
          replace sg := sg.below b10
          replace sx := sx.below b10
          replace sy := sy.below b10
          replace Tg := Tg.below b10
          replace Tx := Tx.below b10
          replace Ty := Ty.below b10
          replace s1 := s1.below b10
          replace To := To.below b10
          replace cTa0 := Ta.cells.1
          replace cTa1 := Ta.cells.2
          replace zTa := Ta.lt
          replace cTb0 := Tb.cells.1
          replace cTb1 := Tb.cells.2
          replace zTb := Tb.lt
          replace cTd0 := Td.cells.1
          replace cTd1 := Td.cells.2
          replace zTd := Td.lt
          replace cTg0 := Tg.cells.1
          replace cTg1 := Tg.cells.2
          replace zTg := Tg.lt
          replace cTx0 := Tx.cells.1
          replace cTx1 := Tx.cells.2
          replace zTx := Tx.lt
          replace cTy0 := Ty.cells.1
          replace cTy1 := Ty.cells.2
          replace zTy := Ty.lt
          replace cTo0 := To.cells.1
          replace cTo1 := To.cells.2
          replace zTo := To.lt
          clear b10
          go_wp2
          go_ret
          exact ⟨rfl, U0⟩
        · skip
          go_wp2_with fail
          replace U0 := U0.alloc U0.size (.cells #[.bool n1, .slice a1 l1 c1] 24)
          replace sa := sa.alloc (.cells #[.bool n1, .slice a1 l1 c1] 24)
          replace sb := sb.alloc (.cells #[.bool n1, .slice a1 l1 c1] 24)
          replace sd := sd.alloc (.cells #[.bool n1, .slice a1 l1 c1] 24)
          replace Ta := Ta.alloc (.cells #[.bool n1, .slice a1 l1 c1] 24)
          replace Tb := Tb.alloc (.cells #[.bool n1, .slice a1 l1 c1] 24)
          replace Td := Td.alloc (.cells #[.bool n1, .slice a1 l1 c1] 24)
          replace sg := sg.alloc (.cells #[.bool n1, .slice a1 l1 c1] 24)
          replace sx := sx.alloc (.cells #[.bool n1, .slice a1 l1 c1] 24)
          replace sy := sy.alloc (.cells #[.bool n1, .slice a1 l1 c1] 24)
          replace Tg := Tg.alloc (.cells #[.bool n1, .slice a1 l1 c1] 24)
          replace Tx := Tx.alloc (.cells #[.bool n1, .slice a1 l1 c1] 24)
          replace Ty := Ty.alloc (.cells #[.bool n1, .slice a1 l1 c1] 24)
          replace s1 := s1.alloc (.cells #[.bool n1, .slice a1 l1 c1] 24)
          replace cTa0 := Ta.cells.1
          replace cTa1 := Ta.cells.2
          replace zTa := Ta.lt
          replace cTb0 := Tb.cells.1
          replace cTb1 := Tb.cells.2
          replace zTb := Tb.lt
          replace cTd0 := Td.cells.1
          replace cTd1 := Td.cells.2
          replace zTd := Td.lt
          replace cTg0 := Tg.cells.1
          replace cTg1 := Tg.cells.2
          replace zTg := Tg.lt
          replace cTx0 := Tx.cells.1
          replace cTx1 := Tx.cells.2
          replace zTx := Tx.lt
          replace cTy0 := Ty.cells.1
          replace cTy1 := Ty.cells.2
          replace zTy := Ty.lt
          have To := BoxI.new w8 (w8.heap.size) (by first | rfl | simp) n1 a1 l1 c1
          have cTo0 := To.cells.1
          have cTo1 := To.cells.2
          have zTo := To.lt
          (with_reducible refine (M1.out _ _ _ _ _ _ _ (by exact sb) (by exact sx)).mono ?_)
          rintro e w9 ⟨rfl, b9⟩
          replace U0 := U0.trans (b9.mono U0.size)
          replace sa := sa.below b9
          replace sb := sb.below b9
          replace sd := sd.below b9
          replace Ta := Ta.below b9
          replace Tb := Tb.below b9
          replace Td := Td.below b9
          replace sg := sg.below b9
          replace sx := sx.below b9
          replace sy := sy.below b9
          replace Tg := Tg.below b9
          replace Tx := Tx.below b9
          replace Ty := Ty.below b9
          replace s1 := s1.below b9
          replace To := To.below b9
          replace cTa0 := Ta.cells.1
          replace cTa1 := Ta.cells.2
          replace zTa := Ta.lt
          replace cTb0 := Tb.cells.1
          replace cTb1 := Tb.cells.2
          replace zTb := Tb.lt
          replace cTd0 := Td.cells.1
          replace cTd1 := Td.cells.2
          replace zTd := Td.lt
          replace cTg0 := Tg.cells.1
          replace cTg1 := Tg.cells.2
          replace zTg := Tg.lt
          replace cTx0 := Tx.cells.1
          replace cTx1 := Tx.cells.2
          replace zTx := Tx.lt
          replace cTy0 := Ty.cells.1
          replace cTy1 := Ty.cells.2
          replace zTy := Ty.lt
          replace cTo0 := To.cells.1
          replace cTo1 := To.cells.2
          replace zTo := To.lt
          clear b9
          go_wp2_with fail
          (with_reducible refine (M3.out _ _ _ _ _ _ _ (by exact sa) (by exact sy)).mono ?_)
          rintro e w10 ⟨rfl, b10⟩
          replace U0 := U0.trans (b10.mono U0.size)
          replace sa := sa.below b10
          replace sb := sb.below b10
          replace sd := sd.below b10
          replace Ta := Ta.below b10
          replace Tb := Tb.below b10
          replace Td := Td.below b10
          replace sg := sg.below b10
          replace sx := sx.below b10
          replace sy := sy.below b10
          replace Tg := Tg.below b10
          replace Tx := Tx.below b10
          replace Ty := Ty.below b10
          replace s1 := s1.below b10
          replace To := To.below b10
          replace cTa0 := Ta.cells.1
          replace cTa1 := Ta.cells.2
          replace zTa := Ta.lt
          replace cTb0 := Tb.cells.1
          replace cTb1 := Tb.cells.2
          replace zTb := Tb.lt
          replace cTd0 := Td.cells.1
          replace cTd1 := Td.cells.2
          replace zTd := Td.lt
          replace cTg0 := Tg.cells.1
          replace cTg1 := Tg.cells.2
          replace zTg := Tg.lt
          replace cTx0 := Tx.cells.1
          replace cTx1 := Tx.cells.2
          replace zTx := Tx.lt
          replace cTy0 := Ty.cells.1
          replace cTy1 := Ty.cells.2
          replace zTy := Ty.lt
          replace cTo0 := To.cells.1
          replace cTo1 := To.cells.2
          replace zTo := To.lt
          clear b10
          go_wp2_with fail
          (with_reducible refine (M4.out _ _ _ _ _ _ _ (by exact s1) (by exact sy)).mono ?_)
          rintro e w11 ⟨rfl, b11⟩
          replace U0 := U0.trans (b11.mono U0.size)
          replace sa := sa.below b11
          replace sb := sb.below b11
          replace sd := sd.below b11
          replace Ta := Ta.below b11
          replace Tb := Tb.below b11
          replace Td := Td.below b11
          replace sg := sg.below b11
          replace sx := sx.below b11
          replace sy := sy.below b11
          replace Tg := Tg.below b11
          replace Tx := Tx.below b11
          replace Ty := Ty.below b11
          replace s1 := s1.below b11
          replace To := To.below b11
          replace cTa0 := Ta.cells.1
          replace cTa1 := Ta.cells.2
          replace zTa := Ta.lt
          replace cTb0 := Tb.cells.1
          replace cTb1 := Tb.cells.2
          replace zTb := Tb.lt
          replace cTd0 := Td.cells.1
          replace cTd1 := Td.cells.2
          replace zTd := Td.lt
          replace cTg0 := Tg.cells.1
          replace cTg1 := Tg.cells.2
          replace zTg := Tg.lt
          replace cTx0 := Tx.cells.1
          replace cTx1 := Tx.cells.2
          replace zTx := Tx.lt
          replace cTy0 := Ty.cells.1
          replace cTy1 := Ty.cells.2
          replace zTy := Ty.lt
          replace cTo0 := To.cells.1
          replace cTo1 := To.cells.2
          replace zTo := To.lt
          clear b11
          go_wp2
          go_ret
          exact ⟨rfl, U0⟩
      · rcases h34 with rfl | ⟨rfl, rfl⟩
        · skip
          go_wp2_with fail
          replace U0 := U0.alloc U0.size (.cells #[.bool n1, .slice a1 l1 c1] 24)
          replace sa := sa.alloc (.cells #[.bool n1, .slice a1 l1 c1] 24)
          replace sb := sb.alloc (.cells #[.bool n1, .slice a1 l1 c1] 24)
          replace sd := sd.alloc (.cells #[.bool n1, .slice a1 l1 c1] 24)
          replace Ta := Ta.alloc (.cells #[.bool n1, .slice a1 l1 c1] 24)
          replace Tb := Tb.alloc (.cells #[.bool n1, .slice a1 l1 c1] 24)
          replace Td := Td.alloc (.cells #[.bool n1, .slice a1 l1 c1] 24)
          replace sg := sg.alloc (.cells #[.bool n1, .slice a1 l1 c1] 24)
          replace sx := sx.alloc (.cells #[.bool n1, .slice a1 l1 c1] 24)
          replace sy := sy.alloc (.cells #[.bool n1, .slice a1 l1 c1] 24)
          replace Tg := Tg.alloc (.cells #[.bool n1, .slice a1 l1 c1] 24)
          replace Tx := Tx.alloc (.cells #[.bool n1, .slice a1 l1 c1] 24)
          replace Ty := Ty.alloc (.cells #[.bool n1, .slice a1 l1 c1] 24)
          replace s1 := s1.alloc (.cells #[.bool n1, .slice a1 l1 c1] 24)
          replace cTa0 := Ta.cells.1
          replace cTa1 := Ta.cells.2
          replace zTa := Ta.lt
          replace cTb0 := Tb.cells.1
          replace cTb1 := Tb.cells.2
          replace zTb := Tb.lt
          replace cTd0 := Td.cells.1
          replace cTd1 := Td.cells.2
          replace zTd := Td.lt
          replace cTg0 := Tg.cells.1
          replace cTg1 := Tg.cells.2
          replace zTg := Tg.lt
          replace cTx0 := Tx.cells.1
          replace cTx1 := Tx.cells.2
          replace zTx := Tx.lt
          replace cTy0 := Ty.cells.1
          replace cTy1 := Ty.cells.2
          replace zTy := Ty.lt
          have To := BoxI.new w8 (w8.heap.size) (by first | rfl | simp) n1 a1 l1 c1
          have cTo0 := To.cells.1
          have cTo1 := To.cells.2
          have zTo := To.lt
          (with_reducible refine (M1.out _ _ _ _ _ _ _ (by exact sb) (by exact sx)).mono ?_)
          rintro e w9 ⟨rfl, b9⟩
          replace U0 := U0.trans (b9.mono U0.size)
          replace sa := sa.below b9
          replace sb := sb.below b9
          replace sd := sd.below b9
          replace Ta := Ta.below b9
          replace Tb := Tb.below b9
          replace Td := Td.below b9
          replace sg := sg.below b9
          replace sx := sx.below b9
          replace sy := sy.below b9
          replace Tg := Tg.below b9
          replace Tx := Tx.below b9
          replace Ty := Ty.below b9
          replace s1 := s1.below b9
          replace To := To.below b9
          replace cTa0 := Ta.cells.1
          replace cTa1 := Ta.cells.2
          replace zTa := Ta.lt
          replace cTb0 := Tb.cells.1
          replace cTb1 := Tb.cells.2
          replace zTb := Tb.lt
          replace cTd0 := Td.cells.1
          replace cTd1 := Td.cells.2
          replace zTd := Td.lt
          replace cTg0 := Tg.cells.1
          replace cTg1 := Tg.cells.2
          replace zTg := Tg.lt
          replace cTx0 := Tx.cells.1
          replace cTx1 := Tx.cells.2
          replace zTx := Tx.lt
          replace cTy0 := Ty.cells.1
          replace cTy1 := Ty.cells.2
          replace zTy := Ty.lt
          replace cTo0 := To.cells.1
          replace cTo1 := To.cells.2
          replace zTo := To.lt
          clear b9
          go_wp2_with fail
          (with_reducible refine (M2.out _ _ _ _ _ _ _ (by exact s1) (by exact sx)).mono ?_)
          rintro e w10 ⟨rfl, b10⟩
          replace U0 := U0.trans (b10.mono U0.size)
          replace sa := sa.below b10
          replace sb := sb.below b10
          replace sd := sd.below b10
          replace Ta := Ta.below b10
          replace Tb := Tb.below b10
          replace Td := Td.below b10
          replace sg := sg.below b10
          replace sx := sx.below b10
          replace sy := sy.below b10
          replace Tg := Tg.below b10
          replace Tx := Tx.below b10
          replace Ty := Ty.below b10
          replace s1 := s1.below b10
          replace To := To.below b10
          replace cTa0 := Ta.cells.1
          replace cTa1 := Ta.cells.2
          replace zTa := Ta.lt
          replace cTb0 := Tb.cells.1
          replace cTb1 := Tb.cells.2
          replace zTb := Tb.lt
          replace cTd0 := Td.cells.1
          replace cTd1 := Td.cells.2
          replace zTd := Td.lt
          replace cTg0 := Tg.cells.1
          replace cTg1 := Tg.cells.2
          replace zTg := Tg.lt
          replace cTx0 := Tx.cells.1
          replace cTx1 := Tx.cells.2
          replace zTx := Tx.lt
          replace cTy0 := Ty.cells.1
          replace cTy1 := Ty.cells.2
          replace zTy := Ty.lt
          replace cTo0 := To.cells.1
          replace cTo1 := To.cells.2
          replace zTo := To.lt
          clear b10
          go_wp2_with fail
          (with_reducible refine (M3.out _ _ _ _ _ _ _ (by exact sa) (by exact sy)).mono ?_)
          rintro e w11 ⟨rfl, b11⟩
          replace U0 := U0.trans (b11.mono U0.size)
          replace sa := sa.below b11
          replace sb := sb.below b11
          replace sd := sd.below b11
          replace Ta := Ta.below b11
          replace Tb := Tb.below b11
          replace Td := Td.below b11
          replace sg := sg.below b11
          replace sx := sx.below b11
          replace sy := sy.below b11
          replace Tg := Tg.below b11
          replace Tx := Tx.below b11
          replace Ty := Ty.below b11
          replace s1 := s1.below b11
          replace To := To.below b11
          replace cTa0 := Ta.cells.1
          replace cTa1 := Ta.cells.2
          replace zTa := Ta.lt
          replace cTb0 := Tb.cells.1
          replace cTb1 := Tb.cells.2
          replace zTb := Tb.lt
          replace cTd0 := Td.cells.1
          replace cTd1 := Td.cells.2
          replace zTd := Td.lt
          replace cTg0 := Tg.cells.1
          replace cTg1 := Tg.cells.2
          replace zTg := Tg.lt
          replace cTx0 := Tx.cells.1
          replace cTx1 := Tx.cells.2
          replace zTx := Tx.lt
          replace cTy0 := Ty.cells.1
          replace cTy1 := Ty.cells.2
          replace zTy := Ty.lt
          replace cTo0 := To.cells.1
          replace cTo1 := To.cells.2
          replace zTo := To.lt
          clear b11
          go_wp2
          go_ret
          exact ⟨rfl, U0⟩
        · skip
          go_wp2_with fail
          replace U0 := U0.alloc U0.size (.cells #[.bool n1, .slice a1 l1 c1] 24)
          replace sa := sa.alloc (.cells #[.bool n1, .slice a1 l1 c1] 24)
          replace sb := sb.alloc (.cells #[.bool n1, .slice a1 l1 c1] 24)
          replace sd := sd.alloc (.cells #[.bool n1, .slice a1 l1 c1] 24)
          replace Ta := Ta.alloc (.cells #[.bool n1, .slice a1 l1 c1] 24)
          replace Tb := Tb.alloc (.cells #[.bool n1, .slice a1 l1 c1] 24)
          replace Td := Td.alloc (.cells #[.bool n1, .slice a1 l1 c1] 24)
          replace sg := sg.alloc (.cells #[.bool n1, .slice a1 l1 c1] 24)
          replace sx := sx.alloc (.cells #[.bool n1, .slice a1 l1 c1] 24)
          replace sy := sy.alloc (.cells #[.bool n1, .slice a1 l1 c1] 24)
          replace Tg := Tg.alloc (.cells #[.bool n1, .slice a1 l1 c1] 24)
          replace Tx := Tx.alloc (.cells #[.bool n1, .slice a1 l1 c1] 24)
          replace Ty := Ty.alloc (.cells #[.bool n1, .slice a1 l1 c1] 24)
          replace s1 := s1.alloc (.cells #[.bool n1, .slice a1 l1 c1] 24)
          replace cTa0 := Ta.cells.1
          replace cTa1 := Ta.cells.2
          replace zTa := Ta.lt
          replace cTb0 := Tb.cells.1
          replace cTb1 := Tb.cells.2
          replace zTb := Tb.lt
          replace cTd0 := Td.cells.1
          replace cTd1 := Td.cells.2
          replace zTd := Td.lt
          replace cTg0 := Tg.cells.1
          replace cTg1 := Tg.cells.2
          replace zTg := Tg.lt
          replace cTx0 := Tx.cells.1
          replace cTx1 := Tx.cells.2
          replace zTx := Tx.lt
          replace cTy0 := Ty.cells.1
          replace cTy1 := Ty.cells.2
          replace zTy := Ty.lt
          have To := BoxI.new w8 (w8.heap.size) (by first | rfl | simp) n1 a1 l1 c1
          have cTo0 := To.cells.1
          have cTo1 := To.cells.2
          have zTo := To.lt
          (with_reducible refine (M1.out _ _ _ _ _ _ _ (by exact sb) (by exact sx)).mono ?_)
          rintro e w9 ⟨rfl, b9⟩
          replace U0 := U0.trans (b9.mono U0.size)
          replace sa := sa.below b9
          replace sb := sb.below b9
          replace sd := sd.below b9
          replace Ta := Ta.below b9
          replace Tb := Tb.below b9
          replace Td := Td.below b9
          replace sg := sg.below b9
          replace sx := sx.below b9
          replace sy := sy.below b9
          replace Tg := Tg.below b9
          replace Tx := Tx.below b9
          replace Ty := Ty.below b9
          replace s1 := s1.below b9
          replace To := To.below b9
          replace cTa0 := Ta.cells.1
          replace cTa1 := Ta.cells.2
          replace zTa := Ta.lt
          replace cTb0 := Tb.cells.1
          replace cTb1 := Tb.cells.2
          replace zTb := Tb.lt
          replace cTd0 := Td.cells.1
          replace cTd1 := Td.cells.2
          replace zTd := Td.lt
          replace cTg0 := Tg.cells.1
          replace cTg1 := Tg.cells.2
          replace zTg := Tg.lt
          replace cTx0 := Tx.cells.1
          replace cTx1 := Tx.cells.2
          replace zTx := Tx.lt
          replace cTy0 := Ty.cells.1
          replace cTy1 := Ty.cells.2
          replace zTy := Ty.lt
          replace cTo0 := To.cells.1
          replace cTo1 := To.cells.2
          replace zTo := To.lt
          clear b9
          go_wp2_with fail
          (with_reducible refine (M2.out _ _ _ _ _ _ _ (by exact s1) (by exact sx)).mono ?_)
          rintro e w10 ⟨rfl, b10⟩
          replace U0 := U0.trans (b10.mono U0.size)
          replace sa := sa.below b10
          replace sb := sb.below b10
          replace sd := sd.below b10
          replace Ta := Ta.below b10
          replace Tb := Tb.below b10
          replace Td := Td.below b10
          replace sg := sg.below b10
          replace sx := sx.below b10
          replace sy := sy.below b10
          replace Tg := Tg.below b10
          replace Tx := Tx.below b10
          replace Ty := Ty.below b10
          replace s1 := s1.below b10
          replace To := To.below b10
          replace cTa0 := Ta.cells.1
          replace cTa1 := Ta.cells.2
          replace zTa := Ta.lt
          replace cTb0 := Tb.cells.1
          replace cTb1 := Tb.cells.2
          replace zTb := Tb.lt
          replace cTd0 := Td.cells.1
          replace cTd1 := Td.cells.2
          replace zTd := Td.lt
          replace cTg0 := Tg.cells.1
          replace cTg1 := Tg.cells.2
          replace zTg := Tg.lt
          replace cTx0 := Tx.cells.1
          replace cTx1 := Tx.cells.2
          replace zTx := Tx.lt
          replace cTy0 := Ty.cells.1
          replace cTy1 := Ty.cells.2
          replace zTy := Ty.lt
          replace cTo0 := To.cells.1
          replace cTo1 := To.cells.2
          replace zTo := To.lt
          clear b10
          go_wp2_with fail
          (with_reducible refine (M3.out _ _ _ _ _ _ _ (by exact sa) (by exact sy)).mono ?_)
          rintro e w11 ⟨rfl, b11⟩
          replace U0 := U0.trans (b11.mono U0.size)
          replace sa := sa.below b11
          replace sb := sb.below b11
          replace sd := sd.below b11
          replace Ta := Ta.below b11
          replace Tb := Tb.below b11
          replace Td := Td.below b11
          replace sg := sg.below b11
          replace sx := sx.below b11
          replace sy := sy.below b11
          replace Tg := Tg.below b11
          replace Tx := Tx.below b11
          replace Ty := Ty.below b11
          replace s1 := s1.below b11
          replace To := To.below b11
          replace cTa0 := Ta.cells.1
          replace cTa1 := Ta.cells.2
          replace zTa := Ta.lt
          replace cTb0 := Tb.cells.1
          replace cTb1 := Tb.cells.2
          replace zTb := Tb.lt
          replace cTd0 := Td.cells.1
          replace cTd1 := Td.cells.2
          replace zTd := Td.lt
          replace cTg0 := Tg.cells.1
          replace cTg1 := Tg.cells.2
          replace zTg := Tg.lt
          replace cTx0 := Tx.cells.1
          replace cTx1 := Tx.cells.2
          replace zTx := Tx.lt
          replace cTy0 := Ty.cells.1
          replace cTy1 := Ty.cells.2
          replace zTy := Ty.lt
          replace cTo0 := To.cells.1
          replace cTo1 := To.cells.2
          replace zTo := To.lt
          clear b11
          go_wp2_with fail
          (with_reducible refine (M4.out _ _ _ _ _ _ _ (by exact s1) (by exact sy)).mono ?_)
          rintro e w12 ⟨rfl, b12⟩
          replace U0 := U0.trans (b12.mono U0.size)
          replace sa := sa.below b12
          replace sb := sb.below b12
          replace sd := sd.below b12
          replace Ta := Ta.below b12
          replace Tb := Tb.below b12
          replace Td := Td.below b12
          replace sg := sg.below b12
          replace sx := sx.below b12
          replace sy := sy.below b12
          replace Tg := Tg.below b12
          replace Tx := Tx.below b12
          replace Ty := Ty.below b12
          replace s1 := s1.below b12
          replace To := To.below b12
          replace cTa0 := Ta.cells.1
          replace cTa1 := Ta.cells.2
          replace zTa := Ta.lt
          replace cTb0 := Tb.cells.1
          replace cTb1 := Tb.cells.2
          replace zTb := Tb.lt
          replace cTd0 := Td.cells.1
          replace cTd1 := Td.cells.2
          replace zTd := Td.lt
          replace cTg0 := Tg.cells.1
          replace cTg1 := Tg.cells.2
          replace zTg := Tg.lt
          replace cTx0 := Tx.cells.1
          replace cTx1 := Tx.cells.2
          replace zTx := Tx.lt
          replace cTy0 := Ty.cells.1
          replace cTy1 := Ty.cells.2
          replace zTy := Ty.lt
          replace cTo0 := To.cells.1
          replace cTo1 := To.cells.2
          replace zTo := To.lt
          clear b12
          go_wp2
          go_ret
          exact ⟨rfl, U0⟩
    · obtain ⟨v, hv, hv1, hv2⟩ := cmp_ne hd
      have Ed := Lib.hid hv
      have Hd := Lib.hid hd
      clear hv hd
      go_wp2_with fail
      (with_reducible refine (Sd.out v Ed.out _ _ _ _ (by exact sd)).mono ?_)
      rintro e w7 ⟨rfl, b7⟩
      replace U0 := U0.trans (b7.mono U0.size)
      replace sa := sa.below b7
      replace sb := sb.below b7
      replace sd := sd.below b7
      replace Ta := Ta.below b7
      replace Tb := Tb.below b7
      replace Td := Td.below b7
      replace sg := sg.below b7
      replace sx := sx.below b7
      replace sy := sy.below b7
      replace Tg := Tg.below b7
      replace Tx := Tx.below b7
      replace Ty := Ty.below b7
      replace cTa0 := Ta.cells.1
      replace cTa1 := Ta.cells.2
      replace zTa := Ta.lt
      replace cTb0 := Tb.cells.1
      replace cTb1 := Tb.cells.2
      replace zTb := Tb.lt
      replace cTd0 := Td.cells.1
      replace cTd1 := Td.cells.2
      replace zTd := Td.lt
      replace cTg0 := Tg.cells.1
      replace cTg1 := Tg.cells.2
      replace zTg := Tg.lt
      replace cTx0 := Tx.cells.1
      replace cTx1 := Tx.cells.2
      replace zTx := Tx.lt
      replace cTy0 := Ty.cells.1
      replace cTy1 := Ty.cells.2
      replace zTy := Ty.lt
      clear b7
      by_cases h1 : d ∣ a
      · have H1 := Lib.hid h1
        clear h1
        go_wp2_with fail
        (with_reducible refine (D3.out Hd.out true (decide_eq_true H1.out) _ _ _ _ _ _ _ (by exact sd) (by exact sa)).mono ?_)
        rintro e w8 ⟨rfl, b8⟩
        replace U0 := U0.trans (b8.mono U0.size)
        replace sa := sa.below b8
        replace sb := sb.below b8
        replace sd := sd.below b8
        replace Ta := Ta.below b8
        replace Tb := Tb.below b8
        replace Td := Td.below b8
        replace sg := sg.below b8
        replace sx := sx.below b8
        replace sy := sy.below b8
        replace Tg := Tg.below b8
        replace Tx := Tx.below b8
        replace Ty := Ty.below b8
        replace cTa0 := Ta.cells.1
        replace cTa1 := Ta.cells.2
        replace zTa := Ta.lt
        replace cTb0 := Tb.cells.1
        replace cTb1 := Tb.cells.2
        replace zTb := Tb.lt
        replace cTd0 := Td.cells.1
        replace cTd1 := Td.cells.2
        replace zTd := Td.lt
        replace cTg0 := Tg.cells.1
        replace cTg1 := Tg.cells.2
        replace zTg := Tg.lt
        replace cTx0 := Tx.cells.1
        replace cTx1 := Tx.cells.2
        replace zTx := Tx.lt
        replace cTy0 := Ty.cells.1
        replace cTy1 := Ty.cells.2
        replace zTy := Ty.lt
        clear b8
        by_cases h2 : d ∣ b
        · have H2 := Lib.hid (show d ∣ g by rw [← Hm.out]; exact Int.dvd_add (Int.dvd_mul_of_dvd_left H1.out) (Int.dvd_mul_of_dvd_left h2))
          have H3 := Lib.hid h2
          clear h2
          go_wp2_with fail
          (with_reducible refine (D4.out Hd.out true (decide_eq_true H3.out) _ _ _ _ _ _ _ (by exact sd) (by exact sb)).mono ?_)
          rintro e w9 ⟨rfl, b9⟩
          replace U0 := U0.trans (b9.mono U0.size)
          replace sa := sa.below b9
          replace sb := sb.below b9
          replace sd := sd.below b9
          replace Ta := Ta.below b9
          replace Tb := Tb.below b9
          replace Td := Td.below b9
          replace sg := sg.below b9
          replace sx := sx.below b9
          replace sy := sy.below b9
          replace Tg := Tg.below b9
          replace Tx := Tx.below b9
          replace Ty := Ty.below b9
          replace cTa0 := Ta.cells.1
          replace cTa1 := Ta.cells.2
          replace zTa := Ta.lt
          replace cTb0 := Tb.cells.1
          replace cTb1 := Tb.cells.2
          replace zTb := Tb.lt
          replace cTd0 := Td.cells.1
          replace cTd1 := Td.cells.2
          replace zTd := Td.lt
          replace cTg0 := Tg.cells.1
          replace cTg1 := Tg.cells.2
          replace zTg := Tg.lt
          replace cTx0 := Tx.cells.1
          replace cTx1 := Tx.cells.2
          replace zTx := Tx.lt
          replace cTy0 := Ty.cells.1
          replace cTy1 := Ty.cells.2
          replace zTy := Ty.lt
          clear b9
          go_wp2_with fail
          (with_reducible refine (D5.out Hd.out true (decide_eq_true H2.out) _ _ _ _ _ _ _ (by exact sd) (by exact sg)).mono ?_)
          rintro e w10 ⟨rfl, b10⟩
          replace U0 := U0.trans (b10.mono U0.size)
          replace sa := sa.below b10
          replace sb := sb.below b10
          replace sd := sd.below b10
          replace Ta := Ta.below b10
          replace Tb := Tb.below b10
          replace Td := Td.below b10
          replace sg := sg.below b10
          replace sx := sx.below b10
          replace sy := sy.below b10
          replace Tg := Tg.below b10
          replace Tx := Tx.below b10
          replace Ty := Ty.below b10
          replace cTa0 := Ta.cells.1
          replace cTa1 := Ta.cells.2
          replace zTa := Ta.lt
          replace cTb0 := Tb.cells.1
          replace cTb1 := Tb.cells.2
          replace zTb := Tb.lt
          replace cTd0 := Td.cells.1
          replace cTd1 := Td.cells.2
          replace zTd := Td.lt
          replace cTg0 := Tg.cells.1
          replace cTg1 := Tg.cells.2
          replace zTg := Tg.lt
          replace cTx0 := Tx.cells.1
          replace cTx1 := Tx.cells.2
          replace zTx := Tx.lt
          replace cTy0 := Ty.cells.1
          replace cTy1 := Ty.cells.2
          replace zTy := Ty.lt
          clear b10
          go_wp2_with fail
          (with_reducible refine (Of.out _).mono ?_)
          rintro e w11 ⟨a1, l1, c1, rfl, s1, b11⟩
          replace U0 := U0.trans (b11.mono U0.size)
          replace sa := sa.below b11
          replace sb := sb.below b11
          replace sd := sd.below b11
          replace Ta := Ta.below b11
          replace Tb := Tb.below b11
          replace Td := Td.below b11
          replace sg := sg.below b11
          replace sx := sx.below b11
          replace sy := sy.below b11
          replace Tg := Tg.below b11
          replace Tx := Tx.below b11
          replace Ty := Ty.below b11
          replace cTa0 := Ta.cells.1
          replace cTa1 := Ta.cells.2
          replace zTa := Ta.lt
          replace cTb0 := Tb.cells.1
          replace cTb1 := Tb.cells.2
          replace zTb := Tb.lt
          replace cTd0 := Td.cells.1
          replace cTd1 := Td.cells.2
          replace zTd := Td.lt
          replace cTg0 := Tg.cells.1
          replace cTg1 := Tg.cells.2
          replace zTg := Tg.lt
          replace cTx0 := Tx.cells.1
          replace cTx1 := Tx.cells.2
          replace zTx := Tx.lt
          replace cTy0 := Ty.cells.1
          replace cTy1 := Ty.cells.2
          replace zTy := Ty.lt
          clear b11
          rcases h12 with rfl | ⟨rfl, rfl⟩
          · rcases h34 with rfl | ⟨rfl, rfl⟩
            · skip
              go_wp2_with fail
              replace U0 := U0.alloc U0.size (.cells #[.bool n1, .slice a1 l1 c1] 24)
              replace sa := sa.alloc (.cells #[.bool n1, .slice a1 l1 c1] 24)
              replace sb := sb.alloc (.cells #[.bool n1, .slice a1 l1 c1] 24)
              replace sd := sd.alloc (.cells #[.bool n1, .slice a1 l1 c1] 24)
              replace Ta := Ta.alloc (.cells #[.bool n1, .slice a1 l1 c1] 24)
              replace Tb := Tb.alloc (.cells #[.bool n1, .slice a1 l1 c1] 24)
              replace Td := Td.alloc (.cells #[.bool n1, .slice a1 l1 c1] 24)
              replace sg := sg.alloc (.cells #[.bool n1, .slice a1 l1 c1] 24)
              replace sx := sx.alloc (.cells #[.bool n1, .slice a1 l1 c1] 24)
              replace sy := sy.alloc (.cells #[.bool n1, .slice a1 l1 c1] 24)
              replace Tg := Tg.alloc (.cells #[.bool n1, .slice a1 l1 c1] 24)
              replace Tx := Tx.alloc (.cells #[.bool n1, .slice a1 l1 c1] 24)
              replace Ty := Ty.alloc (.cells #[.bool n1, .slice a1 l1 c1] 24)
              replace s1 := s1.alloc (.cells #[.bool n1, .slice a1 l1 c1] 24)
              replace cTa0 := Ta.cells.1
              replace cTa1 := Ta.cells.2
              replace zTa := Ta.lt
              replace cTb0 := Tb.cells.1
              replace cTb1 := Tb.cells.2
              replace zTb := Tb.lt
              replace cTd0 := Td.cells.1
              replace cTd1 := Td.cells.2
              replace zTd := Td.lt
              replace cTg0 := Tg.cells.1
              replace cTg1 := Tg.cells.2
              replace zTg := Tg.lt
              replace cTx0 := Tx.cells.1
              replace cTx1 := Tx.cells.2
              replace zTx := Tx.lt
              replace cTy0 := Ty.cells.1
              replace cTy1 := Ty.cells.2
              replace zTy := Ty.lt
              have To := BoxI.new w11 (w11.heap.size) (by first | rfl | simp) n1 a1 l1 c1
              have cTo0 := To.cells.1
              have cTo1 := To.cells.2
              have zTo := To.lt
              (with_reducible refine (M1.out _ _ _ _ _ _ _ (by exact sb) (by exact sx)).mono ?_)
              rintro e w12 ⟨rfl, b12⟩
              replace U0 := U0.trans (b12.mono U0.size)
              replace sa := sa.below b12
              replace sb := sb.below b12
              replace sd := sd.below b12
              replace Ta := Ta.below b12
              replace Tb := Tb.below b12
              replace Td := Td.below b12
              replace sg := sg.below b12
              replace sx := sx.below b12
              replace sy := sy.below b12
              replace Tg := Tg.below b12
              replace Tx := Tx.below b12
              replace Ty := Ty.below b12
              replace s1 := s1.below b12
              replace To := To.below b12
              replace cTa0 := Ta.cells.1
              replace cTa1 := Ta.cells.2
              replace zTa := Ta.lt
              replace cTb0 := Tb.cells.1
              replace cTb1 := Tb.cells.2
              replace zTb := Tb.lt
              replace cTd0 := Td.cells.1
              replace cTd1 := Td.cells.2
              replace zTd := Td.lt
              replace cTg0 := Tg.cells.1
              replace cTg1 := Tg.cells.2
              replace zTg := Tg.lt
              replace cTx0 := Tx.cells.1
              replace cTx1 := Tx.cells.2
              replace zTx := Tx.lt
              replace cTy0 := Ty.cells.1
              replace cTy1 := Ty.cells.2
              replace zTy := Ty.lt
              replace cTo0 := To.cells.1
              replace cTo1 := To.cells.2
              replace zTo := To.lt
              clear b12
              go_wp2_with fail
              (with_reducible refine (M3.out _ _ _ _ _ _ _ (by exact sa) (by exact sy)).mono ?_)
              rintro e w13 ⟨rfl, b13⟩
              replace U0 := U0.trans (b13.mono U0.size)
              replace sa := sa.below b13
              replace sb := sb.below b13
              replace sd := sd.below b13
              replace Ta := Ta.below b13
              replace Tb := Tb.below b13
              replace Td := Td.below b13
              replace sg := sg.below b13
              replace sx := sx.below b13
              replace sy := sy.below b13
              replace Tg := Tg.below b13
              replace Tx := Tx.below b13
              replace Ty := Ty.below b13
              replace s1 := s1.below b13
              replace To := To.below b13
              replace cTa0 := Ta.cells.1
              replace cTa1 := Ta.cells.2
              replace zTa := Ta.lt
              replace cTb0 := Tb.cells.1
              replace cTb1 := Tb.cells.2
              replace zTb := Tb.lt
              replace cTd0 := Td.cells.1
              replace cTd1 := Td.cells.2
              replace zTd := Td.lt
              replace cTg0 := Tg.cells.1
              replace cTg1 := Tg.cells.2
              replace zTg := Tg.lt
              replace cTx0 := Tx.cells.1
              replace cTx1 := Tx.cells.2
              replace zTx := Tx.lt
              replace cTy0 := Ty.cells.1
              replace cTy1 := Ty.cells.2
              replace zTy := Ty.lt
              replace cTo0 := To.cells.1
              replace cTo1 := To.cells.2
              replace zTo := To.lt
              clear b13
              go_wp2
              go_ret
              exact ⟨rfl, U0⟩
            · skip
              go_wp2_with fail
              replace U0 := U0.alloc U0.size (.cells #[.bool n1, .slice a1 l1 c1] 24)
              replace sa := sa.alloc (.cells #[.bool n1, .slice a1 l1 c1] 24)
              replace sb := sb.alloc (.cells #[.bool n1, .slice a1 l1 c1] 24)
              replace sd := sd.alloc (.cells #[.bool n1, .slice a1 l1 c1] 24)
              replace Ta := Ta.alloc (.cells #[.bool n1, .slice a1 l1 c1] 24)
              replace Tb := Tb.alloc (.cells #[.bool n1, .slice a1 l1 c1] 24)
              replace Td := Td.alloc (.cells #[.bool n1, .slice a1 l1 c1] 24)
              replace sg := sg.alloc (.cells #[.bool n1, .slice a1 l1 c1] 24)
              replace sx := sx.alloc (.cells #[.bool n1, .slice a1 l1 c1] 24)
              replace sy := sy.alloc (.cells #[.bool n1, .slice a1 l1 c1] 24)
              replace Tg := Tg.alloc (.cells #[.bool n1, .slice a1 l1 c1] 24)
              replace Tx := Tx.alloc (.cells #[.bool n1, .slice a1 l1 c1] 24)
              replace Ty := Ty.alloc (.cells #[.bool n1, .slice a1 l1 c1] 24)
              replace s1 := s1.alloc (.cells #[.bool n1, .slice a1 l1 c1] 24)
              replace cTa0 := Ta.cells.1
              replace cTa1 := Ta.cells.2
              replace zTa := Ta.lt
              replace cTb0 := Tb.cells.1
              replace cTb1 := Tb.cells.2
              replace zTb := Tb.lt
              replace cTd0 := Td.cells.1
              replace cTd1 := Td.cells.2
              replace zTd := Td.lt
              replace cTg0 := Tg.cells.1
              replace cTg1 := Tg.cells.2
              replace zTg := Tg.lt
              replace cTx0 := Tx.cells.1
              replace cTx1 := Tx.cells.2
              replace zTx := Tx.lt
              replace cTy0 := Ty.cells.1
              replace cTy1 := Ty.cells.2
              replace zTy := Ty.lt
              have To := BoxI.new w11 (w11.heap.size) (by first | rfl | simp) n1 a1 l1 c1
              have cTo0 := To.cells.1
              have cTo1 := To.cells.2
              have zTo := To.lt
              (with_reducible refine (M1.out _ _ _ _ _ _ _ (by exact sb) (by exact sx)).mono ?_)
              rintro e w12 ⟨rfl, b12⟩
              replace U0 := U0.trans (b12.mono U0.size)
              replace sa := sa.below b12
              replace sb := sb.below b12
              replace sd := sd.below b12
              replace Ta := Ta.below b12
              replace Tb := Tb.below b12
              replace Td := Td.below b12
              replace sg := sg.below b12
              replace sx := sx.below b12
              replace sy := sy.below b12
              replace Tg := Tg.below b12
              replace Tx := Tx.below b12
              replace Ty := Ty.below b12
              replace s1 := s1.below b12
              replace To := To.below b12
              replace cTa0 := Ta.cells.1
              replace cTa1 := Ta.cells.2
              replace zTa := Ta.lt
              replace cTb0 := Tb.cells.1
              replace cTb1 := Tb.cells.2
              replace zTb := Tb.lt
              replace cTd0 := Td.cells.1
              replace cTd1 := Td.cells.2
              replace zTd := Td.lt
              replace cTg0 := Tg.cells.1
              replace cTg1 := Tg.cells.2
              replace zTg := Tg.lt
              replace cTx0 := Tx.cells.1
              replace cTx1 := Tx.cells.2
              replace zTx := Tx.lt
              replace cTy0 := Ty.cells.1
              replace cTy1 := Ty.cells.2
              replace zTy := Ty.lt
              replace cTo0 := To.cells.1
              replace cTo1 := To.cells.2
              replace zTo := To.lt
              clear b12
              go_wp2_with fail
              (with_reducible refine (M3.out _ _ _ _ _ _ _ (by exact sa) (by exact sy)).mono ?_)
              rintro e w13 ⟨rfl, b13⟩
              replace U0 := U0.trans (b13.mono U0.size)
              replace sa := sa.below b13
              replace sb := sb.below b13
              replace sd := sd.below b13
              replace Ta := Ta.below b13
              replace Tb := Tb.below b13
              replace Td := Td.below b13
              replace sg := sg.below b13
              replace sx := sx.below b13
              replace sy := sy.below b13
              replace Tg := Tg.below b13
              replace Tx := Tx.below b13
              replace Ty := Ty.below b13
              replace s1 := s1.below b13
              replace To := To.below b13
              replace cTa0 := Ta.cells.1
              replace cTa1 := Ta.cells.2
              replace zTa := Ta.lt
              replace cTb0 := Tb.cells.1
              replace cTb1 := Tb.cells.2
              replace zTb := Tb.lt
              replace cTd0 := Td.cells.1
              replace cTd1 := Td.cells.2
              replace zTd := Td.lt
              replace cTg0 := Tg.cells.1
              replace cTg1 := Tg.cells.2
              replace zTg := Tg.lt
              replace cTx0 := Tx.cells.1
              replace cTx1 := Tx.cells.2
              replace zTx := Tx.lt
              replace cTy0 := Ty.cells.1
              replace cTy1 := Ty.cells.2
              replace zTy := Ty.lt
              replace cTo0 := To.cells.1
              replace cTo1 := To.cells.2
              replace zTo := To.lt
              clear b13
              go_wp2_with fail
              (with_reducible refine (M4.out _ _ _ _ _ _ _ (by exact s1) (by exact sy)).mono ?_)
              rintro e w14 ⟨rfl, b14⟩
              replace U0 := U0.trans (b14.mono U0.size)
              replace sa := sa.below b14
              replace sb := sb.below b14
              replace sd := sd.below b14
              replace Ta := Ta.below b14
              replace Tb := Tb.below b14
              replace Td := Td.below b14
              replace sg := sg.below b14
              replace sx := sx.below b14
              replace sy := sy.below b14
              replace Tg := Tg.below b14
              replace Tx := Tx.below b14
              replace Ty := Ty.below b14
              replace s1 := s1.below b14
              replace To := To.below b14
              replace cTa0 := Ta.cells.1
              replace cTa1 := Ta.cells.2
              replace zTa := Ta.lt
              replace cTb0 := Tb.cells.1
              replace cTb1 := Tb.cells.2
              replace zTb := Tb.lt
              replace cTd0 := Td.cells.1
              replace cTd1 := Td.cells.2
              replace zTd := Td.lt
              replace cTg0 := Tg.cells.1
              replace cTg1 := Tg.cells.2
              replace zTg := Tg.lt
              replace cTx0 := Tx.cells.1
              replace cTx1 := Tx.cells.2
              replace zTx := Tx.lt
              replace cTy0 := Ty.cells.1
              replace cTy1 := Ty.cells.2
              replace zTy := Ty.lt
              replace cTo0 := To.cells.1
              replace cTo1 := To.cells.2
              replace zTo := To.lt
              clear b14
              go_wp2
              go_ret
              exact ⟨rfl, U0⟩
          · rcases h34 with rfl | ⟨rfl, rfl⟩
            · skip
              go_wp2_with fail
              replace U0 := U0.alloc U0.size (.cells #[.bool n1, .slice a1 l1 c1] 24)
              replace sa := sa.alloc (.cells #[.bool n1, .slice a1 l1 c1] 24)
              replace sb := sb.alloc (.cells #[.bool n1, .slice a1 l1 c1] 24)
              replace sd := sd.alloc (.cells #[.bool n1, .slice a1 l1 c1] 24)
              replace Ta := Ta.alloc (.cells #[.bool n1, .slice a1 l1 c1] 24)
              replace Tb := Tb.alloc (.cells #[.bool n1, .slice a1 l1 c1] 24)
              replace Td := Td.alloc (.cells #[.bool n1, .slice a1 l1 c1] 24)
              replace sg := sg.alloc (.cells #[.bool n1, .slice a1 l1 c1] 24)
              replace sx := sx.alloc (.cells #[.bool n1, .slice a1 l1 c1] 24)
              replace sy := sy.alloc (.cells #[.bool n1, .slice a1 l1 c1] 24)
              replace Tg := Tg.alloc (.cells #[.bool n1, .slice a1 l1 c1] 24)
              replace Tx := Tx.alloc (.cells #[.bool n1, .slice a1 l1 c1] 24)
              replace Ty := Ty.alloc (.cells #[.bool n1, .slice a1 l1 c1] 24)
              replace s1 := s1.alloc (.cells #[.bool n1, .slice a1 l1 c1] 24)
              replace cTa0 := Ta.cells.1
              replace cTa1 := Ta.cells.2
              replace zTa := Ta.lt
              replace cTb0 := Tb.cells.1
              replace cTb1 := Tb.cells.2
              replace zTb := Tb.lt
              replace cTd0 := Td.cells.1
              replace cTd1 := Td.cells.2
              replace zTd := Td.lt
              replace cTg0 := Tg.cells.1
              replace cTg1 := Tg.cells.2
              replace zTg := Tg.lt
              replace cTx0 := Tx.cells.1
              replace cTx1 := Tx.cells.2
              replace zTx := Tx.lt
              replace cTy0 := Ty.cells.1
              replace cTy1 := Ty.cells.2
              replace zTy := Ty.lt
              have To := BoxI.new w11 (w11.heap.size) (by first | rfl | simp) n1 a1 l1 c1
              have cTo0 := To.cells.1
              have cTo1 := To.cells.2
              have zTo := To.lt
              (with_reducible refine (M1.out _ _ _ _ _ _ _ (by exact sb) (by exact sx)).mono ?_)
              rintro e w12 ⟨rfl, b12⟩
              replace U0 := U0.trans (b12.mono U0.size)
              replace sa := sa.below b12
              replace sb := sb.below b12
              replace sd := sd.below b12
              replace Ta := Ta.below b12
              replace Tb := Tb.below b12
              replace Td := Td.below b12
              replace sg := sg.below b12
              replace sx := sx.below b12
              replace sy := sy.below b12
              replace Tg := Tg.below b12
              replace Tx := Tx.below b12
              replace Ty := Ty.below b12
              replace s1 := s1.below b12
              replace To := To.below b12
              replace cTa0 := Ta.cells.1
              replace cTa1 := Ta.cells.2
              replace zTa := Ta.lt
              replace cTb0 := Tb.cells.1
              replace cTb1 := Tb.cells.2
              replace zTb := Tb.lt
              replace cTd0 := Td.cells.1
              replace cTd1 := Td.cells.2
              replace zTd := Td.lt
              replace cTg0 := Tg.cells.1
              replace cTg1 := Tg.cells.2
              replace zTg := Tg.lt
              replace cTx0 := Tx.cells.1
              replace cTx1 := Tx.cells.2
              replace zTx := Tx.lt
              replace cTy0 := Ty.cells.1
              replace cTy1 := Ty.cells.2
              replace zTy := Ty.lt
              replace cTo0 := To.cells.1
              replace cTo1 := To.cells.2
              replace zTo := To.lt
              clear b12
              go_wp2_with fail
              (with_reducible refine (M2.out _ _ _ _ _ _ _ (by exact s1) (by exact sx)).mono ?_)
              rintro e w13 ⟨rfl, b13⟩
              replace U0 := U0.trans (b13.mono U0.size)
              replace sa := sa.below b13
              replace sb := sb.below b13
              replace sd := sd.below b13
              replace Ta := Ta.below b13
              replace Tb := Tb.below b13
              replace Td := Td.below b13
              replace sg := sg.below b13
              replace sx := sx.below b13
              replace sy := sy.below b13
              replace Tg := Tg.below b13
              replace Tx := Tx.below b13
              replace Ty := Ty.below b13
              replace s1 := s1.below b13
              replace To := To.below b13
              replace cTa0 := Ta.cells.1
              replace cTa1 := Ta.cells.2
              replace zTa := Ta.lt
              replace cTb0 := Tb.cells.1
              replace cTb1 := Tb.cells.2
              replace zTb := Tb.lt
              replace cTd0 := Td.cells.1
              replace cTd1 := Td.cells.2
              replace zTd := Td.lt
              replace cTg0 := Tg.cells.1
              replace cTg1 := Tg.cells.2
              replace zTg := Tg.lt
              replace cTx0 := Tx.cells.1
              replace cTx1 := Tx.cells.2
              replace zTx := Tx.lt
              replace cTy0 := Ty.cells.1
              replace cTy1 := Ty.cells.2
              replace zTy := Ty.lt
              replace cTo0 := To.cells.1
              replace cTo1 := To.cells.2
              replace zTo := To.lt
              clear b13
              go_wp2_with fail
              (with_reducible refine (M3.out _ _ _ _ _ _ _ (by exact sa) (by exact sy)).mono ?_)
              rintro e w14 ⟨rfl, b14⟩
              replace U0 := U0.trans (b14.mono U0.size)
              replace sa := sa.below b14
              replace sb := sb.below b14
              replace sd := sd.below b14
              replace Ta := Ta.below b14
              replace Tb := Tb.below b14
              replace Td := Td.below b14
              replace sg := sg.below b14
              replace sx := sx.below b14
              replace sy := sy.below b14
              replace Tg := Tg.below b14
              replace Tx := Tx.below b14
              replace Ty := Ty.below b14
              replace s1 := s1.below b14
              replace To := To.below b14
              replace cTa0 := Ta.cells.1
              replace cTa1 := Ta.cells.2
              replace zTa := Ta.lt
              replace cTb0 := Tb.cells.1
              replace cTb1 := Tb.cells.2
              replace zTb := Tb.lt
              replace cTd0 := Td.cells.1
              replace cTd1 := Td.cells.2
              replace zTd := Td.lt
              replace cTg0 := Tg.cells.1
              replace cTg1 := Tg.cells.2
              replace zTg := Tg.lt
              replace cTx0 := Tx.cells.1
              replace cTx1 := Tx.cells.2
              replace zTx := Tx.lt
              replace cTy0 := Ty.cells.1
              replace cTy1 := Ty.cells.2
              replace zTy := Ty.lt
              replace cTo0 := To.cells.1
              replace cTo1 := To.cells.2
              replace zTo := To.lt
              clear b14
              go_wp2
              go_ret
              exact ⟨rfl, U0⟩
            · skip
              go_wp2_with fail
              replace U0 := U0.alloc U0.size (.cells #[.bool n1, .slice a1 l1 c1] 24)
              replace sa := sa.alloc (.cells #[.bool n1, .slice a1 l1 c1] 24)
              replace sb := sb.alloc (.cells #[.bool n1, .slice a1 l1 c1] 24)
              replace sd := sd.alloc (.cells #[.bool n1, .slice a1 l1 c1] 24)
              replace Ta := Ta.alloc (.cells #[.bool n1, .slice a1 l1 c1] 24)
              replace Tb := Tb.alloc (.cells #[.bool n1, .slice a1 l1 c1] 24)
              replace Td := Td.alloc (.cells #[.bool n1, .slice a1 l1 c1] 24)
              replace sg := sg.alloc (.cells #[.bool n1, .slice a1 l1 c1] 24)
              replace sx := sx.alloc (.cells #[.bool n1, .slice a1 l1 c1] 24)
              replace sy := sy.alloc (.cells #[.bool n1, .slice a1 l1 c1] 24)
              replace Tg := Tg.alloc (.cells #[.bool n1, .slice a1 l1 c1] 24)
              replace Tx := Tx.alloc (.cells #[.bool n1, .slice a1 l1 c1] 24)
              replace Ty := Ty.alloc (.cells #[.bool n1, .slice a1 l1 c1] 24)
              replace s1 := s1.alloc (.cells #[.bool n1, .slice a1 l1 c1] 24)
              replace cTa0 := Ta.cells.1
              replace cTa1 := Ta.cells.2
              replace zTa := Ta.lt
              replace cTb0 := Tb.cells.1
              replace cTb1 := Tb.cells.2
              replace zTb := Tb.lt
              replace cTd0 := Td.cells.1
              replace cTd1 := Td.cells.2
              replace zTd := Td.lt
              replace cTg0 := Tg.cells.1
              replace cTg1 := Tg.cells.2
              replace zTg := Tg.lt
              replace cTx0 := Tx.cells.1
              replace cTx1 := Tx.cells.2
              replace zTx := Tx.lt
              replace cTy0 := Ty.cells.1
              replace cTy1 := Ty.cells.2
              replace zTy := Ty.lt
              have To := BoxI.new w11 (w11.heap.size) (by first | rfl | simp) n1 a1 l1 c1
              have cTo0 := To.cells.1
              have cTo1 := To.cells.2
              have zTo := To.lt
              (with_reducible refine (M1.out _ _ _ _ _ _ _ (by exact sb) (by exact sx)).mono ?_)
              rintro e w12 ⟨rfl, b12⟩
              replace U0 := U0.trans (b12.mono U0.size)
              replace sa := sa.below b12
              replace sb := sb.below b12
              replace sd := sd.below b12
              replace Ta := Ta.below b12
              replace Tb := Tb.below b12
              replace Td := Td.below b12
              replace sg := sg.below b12
              replace sx := sx.below b12
              replace sy := sy.below b12
              replace Tg := Tg.below b12
              replace Tx := Tx.below b12
              replace Ty := Ty.below b12
              replace s1 := s1.below b12
              replace To := To.below b12
              replace cTa0 := Ta.cells.1
              replace cTa1 := Ta.cells.2
              replace zTa := Ta.lt
              replace cTb0 := Tb.cells.1
              replace cTb1 := Tb.cells.2
              replace zTb := Tb.lt
              replace cTd0 := Td.cells.1
              replace cTd1 := Td.cells.2
              replace zTd := Td.lt
              replace cTg0 := Tg.cells.1
              replace cTg1 := Tg.cells.2
              replace zTg := Tg.lt
              replace cTx0 := Tx.cells.1
              replace cTx1 := Tx.cells.2
              replace zTx := Tx.lt
              replace cTy0 := Ty.cells.1
              replace cTy1 := Ty.cells.2
              replace zTy := Ty.lt
              replace cTo0 := To.cells.1
              replace cTo1 := To.cells.2
              replace zTo := To.lt
              clear b12
              go_wp2_with fail
              (with_reducible refine (M2.out _ _ _ _ _ _ _ (by exact s1) (by exact sx)).mono ?_)
              rintro e w13 ⟨rfl, b13⟩
              replace U0 := U0.trans (b13.mono U0.size)
              replace sa := sa.below b13
              replace sb := sb.below b13
              replace sd := sd.below b13
              replace Ta := Ta.below b13
              replace Tb := Tb.below b13
              replace Td := Td.below b13
              replace sg := sg.below b13
              replace sx := sx.below b13
              replace sy := sy.below b13
              replace Tg := Tg.below b13
              replace Tx := Tx.below b13
              replace Ty := Ty.below b13
              replace s1 := s1.below b13
              replace To := To.below b13
              replace cTa0 := Ta.cells.1
              replace cTa1 := Ta.cells.2
              replace zTa := Ta.lt
              replace cTb0 := Tb.cells.1
              replace cTb1 := Tb.cells.2
              replace zTb := Tb.lt
              replace cTd0 := Td.cells.1
              replace cTd1 := Td.cells.2
              replace zTd := Td.lt
              replace cTg0 := Tg.cells.1
              replace cTg1 := Tg.cells.2
              replace zTg := Tg.lt
              replace cTx0 := Tx.cells.1
              replace cTx1 := Tx.cells.2
              replace zTx := Tx.lt
              replace cTy0 := Ty.cells.1
              replace cTy1 := Ty.cells.2
              replace zTy := Ty.lt
              replace cTo0 := To.cells.1
              replace cTo1 := To.cells.2
              replace zTo := To.lt
              clear b13
              go_wp2_with fail
              (with_reducible refine (M3.out _ _ _ _ _ _ _ (by exact sa) (by exact sy)).mono ?_)
              rintro e w14 ⟨rfl, b14⟩
              replace U0 := U0.trans (b14.mono U0.size)
              replace sa := sa.below b14
              replace sb := sb.below b14
              replace sd := sd.below b14
              replace Ta := Ta.below b14
              replace Tb := Tb.below b14
              replace Td := Td.below b14
              replace sg := sg.below b14
              replace sx := sx.below b14
              replace sy := sy.below b14
              replace Tg := Tg.below b14
              replace Tx := Tx.below b14
              replace Ty := Ty.below b14
              replace s1 := s1.below b14
              replace To := To.below b14
              replace cTa0 := Ta.cells.1
              replace cTa1 := Ta.cells.2
              replace zTa := Ta.lt
              replace cTb0 := Tb.cells.1
              replace cTb1 := Tb.cells.2
              replace zTb := Tb.lt
              replace cTd0 := Td.cells.1
              replace cTd1 := Td.cells.2
              replace zTd := Td.lt
              replace cTg0 := Tg.cells.1
              replace cTg1 := Tg.cells.2
              replace zTg := Tg.lt
              replace cTx0 := Tx.cells.1
              replace cTx1 := Tx.cells.2
              replace zTx := Tx.lt
              replace cTy0 := Ty.cells.1
              replace cTy1 := Ty.cells.2
              replace zTy := Ty.lt
              replace cTo0 := To.cells.1
              replace cTo1 := To.cells.2
              replace zTo := To.lt
              clear b14
              go_wp2_with fail
              (with_reducible refine (M4.out _ _ _ _ _ _ _ (by exact s1) (by exact sy)).mono ?_)
              rintro e w15 ⟨rfl, b15⟩
              replace U0 := U0.trans (b15.mono U0.size)
              replace sa := sa.below b15
              replace sb := sb.below b15
              replace sd := sd.below b15
              replace Ta := Ta.below b15
              replace Tb := Tb.below b15
              replace Td := Td.below b15
              replace sg := sg.below b15
              replace sx := sx.below b15
              replace sy := sy.below b15
              replace Tg := Tg.below b15
              replace Tx := Tx.below b15
              replace Ty := Ty.below b15
              replace s1 := s1.below b15
              replace To := To.below b15
              replace cTa0 := Ta.cells.1
              replace cTa1 := Ta.cells.2
              replace zTa := Ta.lt
              replace cTb0 := Tb.cells.1
              replace cTb1 := Tb.cells.2
              replace zTb := Tb.lt
              replace cTd0 := Td.cells.1
              replace cTd1 := Td.cells.2
              replace zTd := Td.lt
              replace cTg0 := Tg.cells.1
              replace cTg1 := Tg.cells.2
              replace zTg := Tg.lt
              replace cTx0 := Tx.cells.1
              replace cTx1 := Tx.cells.2
              replace zTx := Tx.lt
              replace cTy0 := Ty.cells.1
              replace cTy1 := Ty.cells.2
              replace zTy := Ty.lt
              replace cTo0 := To.cells.1
              replace cTo1 := To.cells.2
              replace zTo := To.lt
              clear b15
              go_wp2
              go_ret
              exact ⟨rfl, U0⟩
        · have H2 := Lib.hid h2
          clear h2
          go_wp2_with fail
          (with_reducible refine (D4.out Hd.out false (decide_eq_false H2.out) _ _ _ _ _ _ _ (by exact sd) (by exact sb)).mono ?_)
          rintro e w9 ⟨rfl, b9⟩
          replace U0 := U0.trans (b9.mono U0.size)
          replace sa := sa.below b9
          replace sb := sb.below b9
          replace sd := sd.below b9
          replace Ta := Ta.below b9
          replace Tb := Tb.below b9
          replace Td := Td.below b9
          replace sg := sg.below b9
          replace sx := sx.below b9
          replace sy := sy.below b9
          replace Tg := Tg.below b9
          replace Tx := Tx.below b9
          replace Ty := Ty.below b9
          replace cTa0 := Ta.cells.1
          replace cTa1 := Ta.cells.2
          replace zTa := Ta.lt
          replace cTb0 := Tb.cells.1
          replace cTb1 := Tb.cells.2
          replace zTb := Tb.lt
          replace cTd0 := Td.cells.1
          replace cTd1 := Td.cells.2
          replace zTd := Td.lt
          replace cTg0 := Tg.cells.1
          replace cTg1 := Tg.cells.2
          replace zTg := Tg.lt
          replace cTx0 := Tx.cells.1
          replace cTx1 := Tx.cells.2
          replace zTx := Tx.lt
          replace cTy0 := Ty.cells.1
          replace cTy1 := Ty.cells.2
          replace zTy := Ty.lt
          clear b9
          go_wp2_with fail
          (with_reducible refine (Of.out _).mono ?_)
          rintro e w10 ⟨a1, l1, c1, rfl, s1, b10⟩
          replace U0 := U0.trans (b10.mono U0.size)
          replace sa := sa.below b10
          replace sb := sb.below b10
          replace sd := sd.below b10
          replace Ta := Ta.below b10
          replace Tb := Tb.below b10
          replace Td := Td.below b10
          replace sg := sg.below b10
          replace sx := sx.below b10
          replace sy := sy.below b10
          replace Tg := Tg.below b10
          replace Tx := Tx.below b10
          replace Ty := Ty.below b10
          replace cTa0 := Ta.cells.1
          replace cTa1 := Ta.cells.2
          replace zTa := Ta.lt
          replace cTb0 := Tb.cells.1
          replace cTb1 := Tb.cells.2
          replace zTb := Tb.lt
          replace cTd0 := Td.cells.1
          replace cTd1 := Td.cells.2
          replace zTd := Td.lt
          replace cTg0 := Tg.cells.1
          replace cTg1 := Tg.cells.2
          replace zTg := Tg.lt
          replace cTx0 := Tx.cells.1
          replace cTx1 := Tx.cells.2
          replace zTx := Tx.lt
          replace cTy0 := Ty.cells.1
          replace cTy1 := Ty.cells.2
          replace zTy := Ty.lt
          clear b10
          rcases h12 with rfl | ⟨rfl, rfl⟩
          · rcases h34 with rfl | ⟨rfl, rfl⟩
            · skip
              go_wp2_with fail
              replace U0 := U0.alloc U0.size (.cells #[.bool n1, .slice a1 l1 c1] 24)
              replace sa := sa.alloc (.cells #[.bool n1, .slice a1 l1 c1] 24)
              replace sb := sb.alloc (.cells #[.bool n1, .slice a1 l1 c1] 24)
              replace sd := sd.alloc (.cells #[.bool n1, .slice a1 l1 c1] 24)
              replace Ta := Ta.alloc (.cells #[.bool n1, .slice a1 l1 c1] 24)
              replace Tb := Tb.alloc (.cells #[.bool n1, .slice a1 l1 c1] 24)
              replace Td := Td.alloc (.cells #[.bool n1, .slice a1 l1 c1] 24)
              replace sg := sg.alloc (.cells #[.bool n1, .slice a1 l1 c1] 24)
              replace sx := sx.alloc (.cells #[.bool n1, .slice a1 l1 c1] 24)
              replace sy := sy.alloc (.cells #[.bool n1, .slice a1 l1 c1] 24)
              replace Tg := Tg.alloc (.cells #[.bool n1, .slice a1 l1 c1] 24)
              replace Tx := Tx.alloc (.cells #[.bool n1, .slice a1 l1 c1] 24)
              replace Ty := Ty.alloc (.cells #[.bool n1, .slice a1 l1 c1] 24)
              replace s1 := s1.alloc (.cells #[.bool n1, .slice a1 l1 c1] 24)
              replace cTa0 := Ta.cells.1
              replace cTa1 := Ta.cells.2
              replace zTa := Ta.lt
              replace cTb0 := Tb.cells.1
              replace cTb1 := Tb.cells.2
              replace zTb := Tb.lt
              replace cTd0 := Td.cells.1
              replace cTd1 := Td.cells.2
              replace zTd := Td.lt
              replace cTg0 := Tg.cells.1
              replace cTg1 := Tg.cells.2
              replace zTg := Tg.lt
              replace cTx0 := Tx.cells.1
              replace cTx1 := Tx.cells.2
              replace zTx := Tx.lt
              replace cTy0 := Ty.cells.1
              replace cTy1 := Ty.cells.2
              replace zTy := Ty.lt
              have To := BoxI.new w10 (w10.heap.size) (by first | rfl | simp) n1 a1 l1 c1
              have cTo0 := To.cells.1
              have cTo1 := To.cells.2
              have zTo := To.lt
              (with_reducible refine (M1.out _ _ _ _ _ _ _ (by exact sb) (by exact sx)).mono ?_)
              rintro e w11 ⟨rfl, b11⟩
              replace U0 := U0.trans (b11.mono U0.size)
              replace sa := sa.below b11
              replace sb := sb.below b11
              replace sd := sd.below b11
              replace Ta := Ta.below b11
              replace Tb := Tb.below b11
              replace Td := Td.below b11
              replace sg := sg.below b11
              replace sx := sx.below b11
              replace sy := sy.below b11
              replace Tg := Tg.below b11
              replace Tx := Tx.below b11
              replace Ty := Ty.below b11
              replace s1 := s1.below b11
              replace To := To.below b11
              replace cTa0 := Ta.cells.1
              replace cTa1 := Ta.cells.2
              replace zTa := Ta.lt
              replace cTb0 := Tb.cells.1
              replace cTb1 := Tb.cells.2
              replace zTb := Tb.lt
              replace cTd0 := Td.cells.1
              replace cTd1 := Td.cells.2
              replace zTd := Td.lt
              replace cTg0 := Tg.cells.1
              replace cTg1 := Tg.cells.2
              replace zTg := Tg.lt
              replace cTx0 := Tx.cells.1
              replace cTx1 := Tx.cells.2
              replace zTx := Tx.lt
              replace cTy0 := Ty.cells.1
              replace cTy1 := Ty.cells.2
              replace zTy := Ty.lt
              replace cTo0 := To.cells.1
              replace cTo1 := To.cells.2
              replace zTo := To.lt
              clear b11
              go_wp2_with fail
              (with_reducible refine (M3.out _ _ _ _ _ _ _ (by exact sa) (by exact sy)).mono ?_)
              rintro e w12 ⟨rfl, b12⟩
              replace U0 := U0.trans (b12.mono U0.size)
              replace sa := sa.below b12
              replace sb := sb.below b12
              replace sd := sd.below b12
              replace Ta := Ta.below b12
              replace Tb := Tb.below b12
              replace Td := Td.below b12
              replace sg := sg.below b12
              replace sx := sx.below b12
              replace sy := sy.below b12
              replace Tg := Tg.below b12
              replace Tx := Tx.below b12
              replace Ty := Ty.below b12
              replace s1 := s1.below b12
              replace To := To.below b12
              replace cTa0 := Ta.cells.1
              replace cTa1 := Ta.cells.2
              replace zTa := Ta.lt
              replace cTb0 := Tb.cells.1
              replace cTb1 := Tb.cells.2
              replace zTb := Tb.lt
              replace cTd0 := Td.cells.1
              replace cTd1 := Td.cells.2
              replace zTd := Td.lt
              replace cTg0 := Tg.cells.1
              replace cTg1 := Tg.cells.2
              replace zTg := Tg.lt
              replace cTx0 := Tx.cells.1
              replace cTx1 := Tx.cells.2
              replace zTx := Tx.lt
              replace cTy0 := Ty.cells.1
              replace cTy1 := Ty.cells.2
              replace zTy := Ty.lt
              replace cTo0 := To.cells.1
              replace cTo1 := To.cells.2
              replace zTo := To.lt
              clear b12
              go_wp2
              go_ret
              exact ⟨rfl, U0⟩
            · skip
              go_wp2_with fail
              replace U0 := U0.alloc U0.size (.cells #[.bool n1, .slice a1 l1 c1] 24)
              replace sa := sa.alloc (.cells #[.bool n1, .slice a1 l1 c1] 24)
              replace sb := sb.alloc (.cells #[.bool n1, .slice a1 l1 c1] 24)
              replace sd := sd.alloc (.cells #[.bool n1, .slice a1 l1 c1] 24)
              replace Ta := Ta.alloc (.cells #[.bool n1, .slice a1 l1 c1] 24)
              replace Tb := Tb.alloc (.cells #[.bool n1, .slice a1 l1 c1] 24)
              replace Td := Td.alloc (.cells #[.bool n1, .slice a1 l1 c1] 24)
              replace sg := sg.alloc (.cells #[.bool n1, .slice a1 l1 c1] 24)
              replace sx := sx.alloc (.cells #[.bool n1, .slice a1 l1 c1] 24)
              replace sy := sy.alloc (.cells #[.bool n1, .slice a1 l1 c1] 24)
              replace Tg := Tg.alloc (.cells #[.bool n1, .slice a1 l1 c1] 24)
              replace Tx := Tx.alloc (.cells #[.bool n1, .slice a1 l1 c1] 24)
              replace Ty := Ty.alloc (.cells #[.bool n1, .slice a1 l1 c1] 24)
              replace s1 := s1.alloc (.cells #[.bool n1, .slice a1 l1 c1] 24)
              replace cTa0 := Ta.cells.1
              replace cTa1 := Ta.cells.2
              replace zTa := Ta.lt
              replace cTb0 := Tb.cells.1
              replace cTb1 := Tb.cells.2
              replace zTb := Tb.lt
              replace cTd0 := Td.cells.1
              replace cTd1 := Td.cells.2
              replace zTd := Td.lt
              replace cTg0 := Tg.cells.1
              replace cTg1 := Tg.cells.2
              replace zTg := Tg.lt
              replace cTx0 := Tx.cells.1
              replace cTx1 := Tx.cells.2
              replace zTx := Tx.lt
              replace cTy0 := Ty.cells.1
              replace cTy1 := Ty.cells.2
              replace zTy := Ty.lt
              have To := BoxI.new w10 (w10.heap.size) (by first | rfl | simp) n1 a1 l1 c1
              have cTo0 := To.cells.1
              have cTo1 := To.cells.2
              have zTo := To.lt
              (with_reducible refine (M1.out _ _ _ _ _ _ _ (by exact sb) (by exact sx)).mono ?_)
              rintro e w11 ⟨rfl, b11⟩
              replace U0 := U0.trans (b11.mono U0.size)
              replace sa := sa.below b11
              replace sb := sb.below b11
              replace sd := sd.below b11
              replace Ta := Ta.below b11
              replace Tb := Tb.below b11
              replace Td := Td.below b11
              replace sg := sg.below b11
              replace sx := sx.below b11
              replace sy := sy.below b11
              replace Tg := Tg.below b11
              replace Tx := Tx.below b11
              replace Ty := Ty.below b11
              replace s1 := s1.below b11
              replace To := To.below b11
              replace cTa0 := Ta.cells.1
              replace cTa1 := Ta.cells.2
              replace zTa := Ta.lt
              replace cTb0 := Tb.cells.1
              replace cTb1 := Tb.cells.2
              replace zTb := Tb.lt
              replace cTd0 := Td.cells.1
              replace cTd1 := Td.cells.2
              replace zTd := Td.lt
              replace cTg0 := Tg.cells.1
              replace cTg1 := Tg.cells.2
              replace zTg := Tg.lt
              replace cTx0 := Tx.cells.1
              replace cTx1 := Tx.cells.2
              replace zTx := Tx.lt
              replace cTy0 := Ty.cells.1
              replace cTy1 := Ty.cells.2
              replace zTy := Ty.lt
              replace cTo0 := To.cells.1
              replace cTo1 := To.cells.2
              replace zTo := To.lt
              clear b11
              go_wp2_with fail
              (with_reducible refine (M3.out _ _ _ _ _ _ _ (by exact sa) (by exact sy)).mono ?_)
              rintro e w12 ⟨rfl, b12⟩
              replace U0 := U0.trans (b12.mono U0.size)
              replace sa := sa.below b12
              replace sb := sb.below b12
              replace sd := sd.below b12
              replace Ta := Ta.below b12
              replace Tb := Tb.below b12
              replace Td := Td.below b12
              replace sg := sg.below b12
              replace sx := sx.below b12
              replace sy := sy.below b12
              replace Tg := Tg.below b12
              replace Tx := Tx.below b12
              replace Ty := Ty.below b12
              replace s1 := s1.below b12
              replace To := To.below b12
              replace cTa0 := Ta.cells.1
              replace cTa1 := Ta.cells.2
              replace zTa := Ta.lt
              replace cTb0 := Tb.cells.1
              replace cTb1 := Tb.cells.2
              replace zTb := Tb.lt
              replace cTd0 := Td.cells.1
              replace cTd1 := Td.cells.2
              replace zTd := Td.lt
              replace cTg0 := Tg.cells.1
              replace cTg1 := Tg.cells.2
              replace zTg := Tg.lt
              replace cTx0 := Tx.cells.1
              replace cTx1 := Tx.cells.2
              replace zTx := Tx.lt
              replace cTy0 := Ty.cells.1
              replace cTy1 := Ty.cells.2
              replace zTy := Ty.lt
              replace cTo0 := To.cells.1
              replace cTo1 := To.cells.2
              replace zTo := To.lt
              clear b12
              go_wp2_with fail
              (with_reducible refine (M4.out _ _ _ _ _ _ _ (by exact s1) (by exact sy)).mono ?_)
              rintro e w13 ⟨rfl, b13⟩
              replace U0 := U0.trans (b13.mono U0.size)
              replace sa := sa.below b13
              replace sb := sb.below b13
              replace sd := sd.below b13
              replace Ta := Ta.below b13
              replace Tb := Tb.below b13
              replace Td := Td.below b13
              replace sg := sg.below b13
              replace sx := sx.below b13
              replace sy := sy.below b13
              replace Tg := Tg.below b13
              replace Tx := Tx.below b13
              replace Ty := Ty.below b13
              replace s1 := s1.below b13
              replace To := To.below b13
              replace cTa0 := Ta.cells.1
              replace cTa1 := Ta.cells.2
              replace zTa := Ta.lt
              replace cTb0 := Tb.cells.1
              replace cTb1 := Tb.cells.2
              replace zTb := Tb.lt
              replace cTd0 := Td.cells.1
              replace cTd1 := Td.cells.2
              replace zTd := Td.lt
              replace cTg0 := Tg.cells.1
              replace cTg1 := Tg.cells.2
              replace zTg := Tg.lt
              replace cTx0 := Tx.cells.1
              replace cTx1 := Tx.cells.2
              replace zTx := Tx.lt
              replace cTy0 := Ty.cells.1
              replace cTy1 := Ty.cells.2
              replace zTy := Ty.lt
              replace cTo0 := To.cells.1
              replace cTo1 := To.cells.2
              replace zTo := To.lt
              clear b13
              go_wp2
              go_ret
              exact ⟨rfl, U0⟩
          · rcases h34 with rfl | ⟨rfl, rfl⟩
            · skip
              go_wp2_with fail
              replace U0 := U0.alloc U0.size (.cells #[.bool n1, .slice a1 l1 c1] 24)
              replace sa := sa.alloc (.cells #[.bool n1, .slice a1 l1 c1] 24)
              replace sb := sb.alloc (.cells #[.bool n1, .slice a1 l1 c1] 24)
              replace sd := sd.alloc (.cells #[.bool n1, .slice a1 l1 c1] 24)
              replace Ta := Ta.alloc (.cells #[.bool n1, .slice a1 l1 c1] 24)
              replace Tb := Tb.alloc (.cells #[.bool n1, .slice a1 l1 c1] 24)
              replace Td := Td.alloc (.cells #[.bool n1, .slice a1 l1 c1] 24)
              replace sg := sg.alloc (.cells #[.bool n1, .slice a1 l1 c1] 24)
              replace sx := sx.alloc (.cells #[.bool n1, .slice a1 l1 c1] 24)
              replace sy := sy.alloc (.cells #[.bool n1, .slice a1 l1 c1] 24)
              replace Tg := Tg.alloc (.cells #[.bool n1, .slice a1 l1 c1] 24)
              replace Tx := Tx.alloc (.cells #[.bool n1, .slice a1 l1 c1] 24)
              replace Ty := Ty.alloc (.cells #[.bool n1, .slice a1 l1 c1] 24)
              replace s1 := s1.alloc (.cells #[.bool n1, .slice a1 l1 c1] 24)
              replace cTa0 := Ta.cells.1
              replace cTa1 := Ta.cells.2
              replace zTa := Ta.lt
              replace cTb0 := Tb.cells.1
              replace cTb1 := Tb.cells.2
              replace zTb := Tb.lt
              replace cTd0 := Td.cells.1
              replace cTd1 := Td.cells.2
              replace zTd := Td.lt
              replace cTg0 := Tg.cells.1
              replace cTg1 := Tg.cells.2
              replace zTg := Tg.lt
              replace cTx0 := Tx.cells.1
              replace cTx1 := Tx.cells.2
              replace zTx := Tx.lt
              replace cTy0 := Ty.cells.1
              replace cTy1 := Ty.cells.2
              replace zTy := Ty.lt
              have To := BoxI.new w10 (w10.heap.size) (by first | rfl | simp) n1 a1 l1 c1
              have cTo0 := To.cells.1
              have cTo1 := To.cells.2
              have zTo := To.lt
              (with_reducible refine (M1.out _ _ _ _ _ _ _ (by exact sb) (by exact sx)).mono ?_)
              rintro e w11 ⟨rfl, b11⟩
              replace U0 := U0.trans (b11.mono U0.size)
              replace sa := sa.below b11
              replace sb := sb.below b11
              replace sd := sd.below b11
              replace Ta := Ta.below b11
              replace Tb := Tb.below b11
              replace Td := Td.below b11
              replace sg := sg.below b11
              replace sx := sx.below b11
              replace sy := sy.below b11
              replace Tg := Tg.below b11
              replace Tx := Tx.below b11
              replace Ty := Ty.below b11
              replace s1 := s1.below b11
              replace To := To.below b11
              replace cTa0 := Ta.cells.1
              replace cTa1 := Ta.cells.2
              replace zTa := Ta.lt
              replace cTb0 := Tb.cells.1
              replace cTb1 := Tb.cells.2
              replace zTb := Tb.lt
              replace cTd0 := Td.cells.1
              replace cTd1 := Td.cells.2
              replace zTd := Td.lt
              replace cTg0 := Tg.cells.1
              replace cTg1 := Tg.cells.2
              replace zTg := Tg.lt
              replace cTx0 := Tx.cells.1
              replace cTx1 := Tx.cells.2
              replace zTx := Tx.lt
              replace cTy0 := Ty.cells.1
              replace cTy1 := Ty.cells.2
              replace zTy := Ty.lt
              replace cTo0 := To.cells.1
              replace cTo1 := To.cells.2
              replace zTo := To.lt
              clear b11
              go_wp2_with fail
              (with_reducible refine (M2.out _ _ _ _ _ _ _ (by exact s1) (by exact sx)).mono ?_)
              rintro e w12 ⟨rfl, b12⟩
              replace U0 := U0.trans (b12.mono U0.size)
              replace sa := sa.below b12
              replace sb := sb.below b12
              replace sd := sd.below b12
              replace Ta := Ta.below b12
              replace Tb := Tb.below b12
              replace Td := Td.below b12
              replace sg := sg.below b12
              replace sx := sx.below b12
              replace sy := sy.below b12
              replace Tg := Tg.below b12
              replace Tx := Tx.below b12
              replace Ty := Ty.below b12
              replace s1 := s1.below b12
              replace To := To.below b12
              replace cTa0 := Ta.cells.1
              replace cTa1 := Ta.cells.2
              replace zTa := Ta.lt
              replace cTb0 := Tb.cells.1
              replace cTb1 := Tb.cells.2
              replace zTb := Tb.lt
              replace cTd0 := Td.cells.1
              replace cTd1 := Td.cells.2
              replace zTd := Td.lt
              replace cTg0 := Tg.cells.1
              replace cTg1 := Tg.cells.2
              replace zTg := Tg.lt
              replace cTx0 := Tx.cells.1
              replace cTx1 := Tx.cells.2
              replace zTx := Tx.lt
              replace cTy0 := Ty.cells.1
              replace cTy1 := Ty.cells.2
              replace zTy := Ty.lt
              replace cTo0 := To.cells.1
              replace cTo1 := To.cells.2
              replace zTo := To.lt
              clear b12
              go_wp2_with fail
              (with_reducible refine (M3.out _ _ _ _ _ _ _ (by exact sa) (by exact sy)).mono ?_)
              rintro e w13 ⟨rfl, b13⟩
              replace U0 := U0.trans (b13.mono U0.size)
              replace sa := sa.below b13
              replace sb := sb.below b13
              replace sd := sd.below b13
              replace Ta := Ta.below b13
              replace Tb := Tb.below b13
              replace Td := Td.below b13
              replace sg := sg.below b13
              replace sx := sx.below b13
              replace sy := sy.below b13
              replace Tg := Tg.below b13
              replace Tx := Tx.below b13
              replace Ty := Ty.below b13
              replace s1 := s1.below b13
              replace To := To.below b13
              replace cTa0 := Ta.cells.1
              replace cTa1 := Ta.cells.2
              replace zTa := Ta.lt
              replace cTb0 := Tb.cells.1
              replace cTb1 := Tb.cells.2
              replace zTb := Tb.lt
              replace cTd0 := Td.cells.1
              replace cTd1 := Td.cells.2
              replace zTd := Td.lt
              replace cTg0 := Tg.cells.1
              replace cTg1 := Tg.cells.2
              replace zTg := Tg.lt
              replace cTx0 := Tx.cells.1
              replace cTx1 := Tx.cells.2
              replace zTx := Tx.lt
              replace cTy0 := Ty.cells.1
              replace cTy1 := Ty.cells.2
              replace zTy := Ty.lt
              replace cTo0 := To.cells.1
              replace cTo1 := To.cells.2
              replace zTo := To.lt
              clear b13
              go_wp2
              go_ret
              exact ⟨rfl, U0⟩
            · skip
              go_wp2_with fail
              replace U0 := U0.alloc U0.size (.cells #[.bool n1, .slice a1 l1 c1] 24)
              replace sa := sa.alloc (.cells #[.bool n1, .slice a1 l1 c1] 24)
              replace sb := sb.alloc (.cells #[.bool n1, .slice a1 l1 c1] 24)
              replace sd := sd.alloc (.cells #[.bool n1, .slice a1 l1 c1] 24)
              replace Ta := Ta.alloc (.cells #[.bool n1, .slice a1 l1 c1] 24)
              replace Tb := Tb.alloc (.cells #[.bool n1, .slice a1 l1 c1] 24)
              replace Td := Td.alloc (.cells #[.bool n1, .slice a1 l1 c1] 24)
              replace sg := sg.alloc (.cells #[.bool n1, .slice a1 l1 c1] 24)
              replace sx := sx.alloc (.cells #[.bool n1, .slice a1 l1 c1] 24)
              replace sy := sy.alloc (.cells #[.bool n1, .slice a1 l1 c1] 24)
              replace Tg := Tg.alloc (.cells #[.bool n1, .slice a1 l1 c1] 24)
              replace Tx := Tx.alloc (.cells #[.bool n1, .slice a1 l1 c1] 24)
              replace Ty := Ty.alloc (.cells #[.bool n1, .slice a1 l1 c1] 24)
              replace s1 := s1.alloc (.cells #[.bool n1, .slice a1 l1 c1] 24)
              replace cTa0 := Ta.cells.1
              replace cTa1 := Ta.cells.2
              replace zTa := Ta.lt
              replace cTb0 := Tb.cells.1
              replace cTb1 := Tb.cells.2
              replace zTb := Tb.lt
              replace cTd0 := Td.cells.1
              replace cTd1 := Td.cells.2
              replace zTd := Td.lt
              replace cTg0 := Tg.cells.1
              replace cTg1 := Tg.cells.2
              replace zTg := Tg.lt
              replace cTx0 := Tx.cells.1
              replace cTx1 := Tx.cells.2
              replace zTx := Tx.lt
              replace cTy0 := Ty.cells.1
              replace cTy1 := Ty.cells.2
              replace zTy := Ty.lt
              have To := BoxI.new w10 (w10.heap.size) (by first | rfl | simp) n1 a1 l1 c1
              have cTo0 := To.cells.1
              have cTo1 := To.cells.2
              have zTo := To.lt
              (with_reducible refine (M1.out _ _ _ _ _ _ _ (by exact sb) (by exact sx)).mono ?_)
              rintro e w11 ⟨rfl, b11⟩
              replace U0 := U0.trans (b11.mono U0.size)
              replace sa := sa.below b11
              replace sb := sb.below b11
              replace sd := sd.below b11
              replace Ta := Ta.below b11
              replace Tb := Tb.below b11
              replace Td := Td.below b11
              replace sg := sg.below b11
              replace sx := sx.below b11
              replace sy := sy.below b11
              replace Tg := Tg.below b11
              replace Tx := Tx.below b11
              replace Ty := Ty.below b11
              replace s1 := s1.below b11
              replace To := To.below b11
              replace cTa0 := Ta.cells.1
              replace cTa1 := Ta.cells.2
              replace zTa := Ta.lt
              replace cTb0 := Tb.cells.1
              replace cTb1 := Tb.cells.2
              replace zTb := Tb.lt
              replace cTd0 := Td.cells.1
              replace cTd1 := Td.cells.2
              replace zTd := Td.lt
              replace cTg0 := Tg.cells.1
              replace cTg1 := Tg.cells.2
              replace zTg := Tg.lt
              replace cTx0 := Tx.cells.1
              replace cTx1 := Tx.cells.2
              replace zTx := Tx.lt
              replace cTy0 := Ty.cells.1
              replace cTy1 := Ty.cells.2
              replace zTy := Ty.lt
              replace cTo0 := To.cells.1
              replace cTo1 := To.cells.2
              replace zTo := To.lt
              clear b11
              go_wp2_with fail
              (with_reducible refine (M2.out _ _ _ _ _ _ _ (by exact s1) (by exact sx)).mono ?_)
              rintro e w12 ⟨rfl, b12⟩
              replace U0 := U0.trans (b12.mono U0.size)
              replace sa := sa.below b12
              replace sb := sb.below b12
              replace sd := sd.below b12
              replace Ta := Ta.below b12
              replace Tb := Tb.below b12
              replace Td := Td.below b12
              replace sg := sg.below b12
              replace sx := sx.below b12
              replace sy := sy.below b12
              replace Tg := Tg.below b12
              replace Tx := Tx.below b12
              replace Ty := Ty.below b12
              replace s1 := s1.below b12
              replace To := To.below b12
              replace cTa0 := Ta.cells.1
              replace cTa1 := Ta.cells.2
              replace zTa := Ta.lt
              replace cTb0 := Tb.cells.1
              replace cTb1 := Tb.cells.2
              replace zTb := Tb.lt
              replace cTd0 := Td.cells.1
              replace cTd1 := Td.cells.2
              replace zTd := Td.lt
              replace cTg0 := Tg.cells.1
              replace cTg1 := Tg.cells.2
              replace zTg := Tg.lt
              replace cTx0 := Tx.cells.1
              replace cTx1 := Tx.cells.2
              replace zTx := Tx.lt
              replace cTy0 := Ty.cells.1
              replace cTy1 := Ty.cells.2
              replace zTy := Ty.lt
              replace cTo0 := To.cells.1
              replace cTo1 := To.cells.2
              replace zTo := To.lt
              clear b12
              go_wp2_with fail
              (with_reducible refine (M3.out _ _ _ _ _ _ _ (by exact sa) (by exact sy)).mono ?_)
              rintro e w13 ⟨rfl, b13⟩
              replace U0 := U0.trans (b13.mono U0.size)
              replace sa := sa.below b13
              replace sb := sb.below b13
              replace sd := sd.below b13
              replace Ta := Ta.below b13
              replace Tb := Tb.below b13
              replace Td := Td.below b13
              replace sg := sg.below b13
              replace sx := sx.below b13
              replace sy := sy.below b13
              replace Tg := Tg.below b13
              replace Tx := Tx.below b13
              replace Ty := Ty.below b13
              replace s1 := s1.below b13
              replace To := To.below b13
              replace cTa0 := Ta.cells.1
              replace cTa1 := Ta.cells.2
              replace zTa := Ta.lt
              replace cTb0 := Tb.cells.1
              replace cTb1 := Tb.cells.2
              replace zTb := Tb.lt
              replace cTd0 := Td.cells.1
              replace cTd1 := Td.cells.2
              replace zTd := Td.lt
              replace cTg0 := Tg.cells.1
              replace cTg1 := Tg.cells.2
              replace zTg := Tg.lt
              replace cTx0 := Tx.cells.1
              replace cTx1 := Tx.cells.2
              replace zTx := Tx.lt
              replace cTy0 := Ty.cells.1
              replace cTy1 := Ty.cells.2
              replace zTy := Ty.lt
              replace cTo0 := To.cells.1
              replace cTo1 := To.cells.2
              replace zTo := To.lt
              clear b13
              go_wp2_with fail
              (with_reducible refine (M4.out _ _ _ _ _ _ _ (by exact s1) (by exact sy)).mono ?_)
              rintro e w14 ⟨rfl, b14⟩
              replace U0 := U0.trans (b14.mono U0.size)
              replace sa := sa.below b14
              replace sb := sb.below b14
              replace sd := sd.below b14
              replace Ta := Ta.below b14
              replace Tb := Tb.below b14
              replace Td := Td.below b14
              replace sg := sg.below b14
              replace sx := sx.below b14
              replace sy := sy.below b14
              replace Tg := Tg.below b14
              replace Tx := Tx.below b14
              replace Ty := Ty.below b14
              replace s1 := s1.below b14
              replace To := To.below b14
              replace cTa0 := Ta.cells.1
              replace cTa1 := Ta.cells.2
              replace zTa := Ta.lt
              replace cTb0 := Tb.cells.1
              replace cTb1 := Tb.cells.2
              replace zTb := Tb.lt
              replace cTd0 := Td.cells.1
              replace cTd1 := Td.cells.2
              replace zTd := Td.lt
              replace cTg0 := Tg.cells.1
              replace cTg1 := Tg.cells.2
              replace zTg := Tg.lt
              replace cTx0 := Tx.cells.1
              replace cTx1 := Tx.cells.2
              replace zTx := Tx.lt
              replace cTy0 := Ty.cells.1
              replace cTy1 := Ty.cells.2
              replace zTy := Ty.lt
              replace cTo0 := To.cells.1
              replace cTo1 := To.cells.2
              replace zTo := To.lt
              clear b14
              go_wp2
              go_ret
              exact ⟨rfl, U0⟩
      · have H1 := Lib.hid h1
        clear h1
        go_wp2_with fail
        (with_reducible refine (D3.out Hd.out false (decide_eq_false H1.out) _ _ _ _ _ _ _ (by exact sd) (by exact sa)).mono ?_)
        rintro e w8 ⟨rfl, b8⟩
        replace U0 := U0.trans (b8.mono U0.size)
        replace sa := sa.below b8
        replace sb := sb.below b8
        replace sd := sd.below b8
        replace Ta := Ta.below b8
        replace Tb := Tb.below b8
        replace Td := Td.below b8
        replace sg := sg.below b8
        replace sx := sx.below b8
        replace sy := sy.below b8
        replace Tg := Tg.below b8
        replace Tx := Tx.below b8
        replace Ty := Ty.below b8
        replace cTa0 := Ta.cells.1
        replace cTa1 := Ta.cells.2
        replace zTa := Ta.lt
        replace cTb0 := Tb.cells.1
        replace cTb1 := Tb.cells.2
        replace zTb := Tb.lt
        replace cTd0 := Td.cells.1
        replace cTd1 := Td.cells.2
        replace zTd := Td.lt
        replace cTg0 := Tg.cells.1
        replace cTg1 := Tg.cells.2
        replace zTg := Tg.lt
        replace cTx0 := Tx.cells.1
        replace cTx1 := Tx.cells.2
        replace zTx := Tx.lt
        replace cTy0 := Ty.cells.1
        replace cTy1 := Ty.cells.2
        replace zTy := Ty.lt
        clear b8
        go_wp2_with fail
        (with_reducible refine (Of.out _).mono ?_)
        rintro e w9 ⟨a1, l1, c1, rfl, s1, b9⟩
        replace U0 := U0.trans (b9.mono U0.size)
        replace sa := sa.below b9
        replace sb := sb.below b9
        replace sd := sd.below b9
        replace Ta := Ta.below b9
        replace Tb := Tb.below b9
        replace Td := Td.below b9
        replace sg := sg.below b9
        replace sx := sx.below b9
        replace sy := sy.below b9
        replace Tg := Tg.below b9
        replace Tx := Tx.below b9
        replace Ty := Ty.below b9
        replace cTa0 := Ta.cells.1
        replace cTa1 := Ta.cells.2
        replace zTa := Ta.lt
        replace cTb0 := Tb.cells.1
        replace cTb1 := Tb.cells.2
        replace zTb := Tb.lt
        replace cTd0 := Td.cells.1
        replace cTd1 := Td.cells.2
        replace zTd := Td.lt
        replace cTg0 := Tg.cells.1
        replace cTg1 := Tg.cells.2
        replace zTg := Tg.lt
        replace cTx0 := Tx.cells.1
        replace cTx1 := Tx.cells.2
        replace zTx := Tx.lt
        replace cTy0 := Ty.cells.1
        replace cTy1 := Ty.cells.2
        replace zTy := Ty.lt
        clear b9
        rcases h12 with rfl | ⟨rfl, rfl⟩
        · rcases h34 with rfl | ⟨rfl, rfl⟩
          · skip
            go_wp2_with fail
            replace U0 := U0.alloc U0.size (.cells #[.bool n1, .slice a1 l1 c1] 24)
            replace sa := sa.alloc (.cells #[.bool n1, .slice a1 l1 c1] 24)
            replace sb := sb.alloc (.cells #[.bool n1, .slice a1 l1 c1] 24)
            replace sd := sd.alloc (.cells #[.bool n1, .slice a1 l1 c1] 24)
            replace Ta := Ta.alloc (.cells #[.bool n1, .slice a1 l1 c1] 24)
            replace Tb := Tb.alloc (.cells #[.bool n1, .slice a1 l1 c1] 24)
            replace Td := Td.alloc (.cells #[.bool n1, .slice a1 l1 c1] 24)
            replace sg := sg.alloc (.cells #[.bool n1, .slice a1 l1 c1] 24)
            replace sx := sx.alloc (.cells #[.bool n1, .slice a1 l1 c1] 24)
            replace sy := sy.alloc (.cells #[.bool n1, .slice a1 l1 c1] 24)
            replace Tg := Tg.alloc (.cells #[.bool n1, .slice a1 l1 c1] 24)
            replace Tx := Tx.alloc (.cells #[.bool n1, .slice a1 l1 c1] 24)
            replace Ty := Ty.alloc (.cells #[.bool n1, .slice a1 l1 c1] 24)
            replace s1 := s1.alloc (.cells #[.bool n1, .slice a1 l1 c1] 24)
            replace cTa0 := Ta.cells.1
            replace cTa1 := Ta.cells.2
            replace zTa := Ta.lt
            replace cTb0 := Tb.cells.1
            replace cTb1 := Tb.cells.2
            replace zTb := Tb.lt
            replace cTd0 := Td.cells.1
            replace cTd1 := Td.cells.2
            replace zTd := Td.lt
            replace cTg0 := Tg.cells.1
            replace cTg1 := Tg.cells.2
            replace zTg := Tg.lt
            replace cTx0 := Tx.cells.1
            replace cTx1 := Tx.cells.2
            replace zTx := Tx.lt
            replace cTy0 := Ty.cells.1
            replace cTy1 := Ty.cells.2
            replace zTy := Ty.lt
            have To := BoxI.new w9 (w9.heap.size) (by first | rfl | simp) n1 a1 l1 c1
            have cTo0 := To.cells.1
            have cTo1 := To.cells.2
            have zTo := To.lt
            (with_reducible refine (M1.out _ _ _ _ _ _ _ (by exact sb) (by exact sx)).mono ?_)
            rintro e w10 ⟨rfl, b10⟩
            replace U0 := U0.trans (b10.mono U0.size)
            replace sa := sa.below b10
            replace sb := sb.below b10
            replace sd := sd.below b10
            replace Ta := Ta.below b10
            replace Tb := Tb.below b10
            replace Td := Td.below b10
            replace sg := sg.below b10
            replace sx := sx.below b10
            replace sy := sy.below b10
            replace Tg := Tg.below b10
            replace Tx := Tx.below b10
            replace Ty := Ty.below b10
            replace s1 := s1.below b10
            replace To := To.below b10
            replace cTa0 := Ta.cells.1
            replace cTa1 := Ta.cells.2
            replace zTa := Ta.lt
            replace cTb0 := Tb.cells.1
            replace cTb1 := Tb.cells.2
            replace zTb := Tb.lt
            replace cTd0 := Td.cells.1
            replace cTd1 := Td.cells.2
            replace zTd := Td.lt
            replace cTg0 := Tg.cells.1
            replace cTg1 := Tg.cells.2
            replace zTg := Tg.lt
            replace cTx0 := Tx.cells.1
            replace cTx1 := Tx.cells.2
            replace zTx := Tx.lt
            replace cTy0 := Ty.cells.1
            replace cTy1 := Ty.cells.2
            replace zTy := Ty.lt
            replace cTo0 := To.cells.1
            replace cTo1 := To.cells.2
            replace zTo := To.lt
            clear b10
            go_wp2_with fail
            (with_reducible refine (M3.out _ _ _ _ _ _ _ (by exact sa) (by exact sy)).mono ?_)
            rintro e w11 ⟨rfl, b11⟩
            replace U0 := U0.trans (b11.mono U0.size)
            replace sa := sa.below b11
            replace sb := sb.below b11
            replace sd := sd.below b11
            replace Ta := Ta.below b11
            replace Tb := Tb.below b11
            replace Td := Td.below b11
            replace sg := sg.below b11
            replace sx := sx.below b11
            replace sy := sy.below b11
            replace Tg := Tg.below b11
            replace Tx := Tx.below b11
            replace Ty := Ty.below b11
            replace s1 := s1.below b11
            replace To := To.below b11
            replace cTa0 := Ta.cells.1
            replace cTa1 := Ta.cells.2
            replace zTa := Ta.lt
            replace cTb0 := Tb.cells.1
            replace cTb1 := Tb.cells.2
            replace zTb := Tb.lt
            replace cTd0 := Td.cells.1
            replace cTd1 := Td.cells.2
            replace zTd := Td.lt
            replace cTg0 := Tg.cells.1
            replace cTg1 := Tg.cells.2
            replace zTg := Tg.lt
            replace cTx0 := Tx.cells.1
            replace cTx1 := Tx.cells.2
            replace zTx := Tx.lt
            replace cTy0 := Ty.cells.1
            replace cTy1 := Ty.cells.2
            replace zTy := Ty.lt
            replace cTo0 := To.cells.1
            replace cTo1 := To.cells.2
            replace zTo := To.lt
            clear b11
            go_wp2
            go_ret
            exact ⟨rfl, U0⟩
          · skip
            go_wp2_with fail
            replace U0 := U0.alloc U0.size (.cells #[.bool n1, .slice a1 l1 c1] 24)
            replace sa := sa.alloc (.cells #[.bool n1, .slice a1 l1 c1] 24)
            replace sb := sb.alloc (.cells #[.bool n1, .slice a1 l1 c1] 24)
            replace sd := sd.alloc (.cells #[.bool n1, .slice a1 l1 c1] 24)
            replace Ta := Ta.alloc (.cells #[.bool n1, .slice a1 l1 c1] 24)
            replace Tb := Tb.alloc (.cells #[.bool n1, .slice a1 l1 c1] 24)
            replace Td := Td.alloc (.cells #[.bool n1, .slice a1 l1 c1] 24)
            replace sg := sg.alloc (.cells #[.bool n1, .slice a1 l1 c1] 24)
            replace sx := sx.alloc (.cells #[.bool n1, .slice a1 l1 c1] 24)
            replace sy := sy.alloc (.cells #[.bool n1, .slice a1 l1 c1] 24)
            replace Tg := Tg.alloc (.cells #[.bool n1, .slice a1 l1 c1] 24)
            replace Tx := Tx.alloc (.cells #[.bool n1, .slice a1 l1 c1] 24)
            replace Ty := Ty.alloc (.cells #[.bool n1, .slice a1 l1 c1] 24)
            replace s1 := s1.alloc (.cells #[.bool n1, .slice a1 l1 c1] 24)
            replace cTa0 := Ta.cells.1
            replace cTa1 := Ta.cells.2
            replace zTa := Ta.lt
            replace cTb0 := Tb.cells.1
            replace cTb1 := Tb.cells.2
            replace zTb := Tb.lt
            replace cTd0 := Td.cells.1
            replace cTd1 := Td.cells.2
            replace zTd := Td.lt
            replace cTg0 := Tg.cells.1
            replace cTg1 := Tg.cells.2
            replace zTg := Tg.lt
            replace cTx0 := Tx.cells.1
            replace cTx1 := Tx.cells.2
            replace zTx := Tx.lt
            replace cTy0 := Ty.cells.1
            replace cTy1 := Ty.cells.2
            replace zTy := Ty.lt
            have To := BoxI.new w9 (w9.heap.size) (by first | rfl | simp) n1 a1 l1 c1
            have cTo0 := To.cells.1
            have cTo1 := To.cells.2
            have zTo := To.lt
            (with_reducible refine (M1.out _ _ _ _ _ _ _ (by exact sb) (by exact sx)).mono ?_)
            rintro e w10 ⟨rfl, b10⟩
            replace U0 := U0.trans (b10.mono U0.size)
            replace sa := sa.below b10
            replace sb := sb.below b10
            replace sd := sd.below b10
            replace Ta := Ta.below b10
            replace Tb := Tb.below b10
            replace Td := Td.below b10
            replace sg := sg.below b10
            replace sx := sx.below b10
            replace sy := sy.below b10
            replace Tg := Tg.below b10
            replace Tx := Tx.below b10
            replace Ty := Ty.below b10
            replace s1 := s1.below b10
            replace To := To.below b10
            replace cTa0 := Ta.cells.1
            replace cTa1 := Ta.cells.2
            replace zTa := Ta.lt
            replace cTb0 := Tb.cells.1
            replace cTb1 := Tb.cells.2
            replace zTb := Tb.lt
            replace cTd0 := Td.cells.1
            replace cTd1 := Td.cells.2
            replace zTd := Td.lt
            replace cTg0 := Tg.cells.1
            replace cTg1 := Tg.cells.2
            replace zTg := Tg.lt
            replace cTx0 := Tx.cells.1
            replace cTx1 := Tx.cells.2
            replace zTx := Tx.lt
            replace cTy0 := Ty.cells.1
            replace cTy1 := Ty.cells.2
            replace zTy := Ty.lt
            replace cTo0 := To.cells.1
            replace cTo1 := To.cells.2
            replace zTo := To.lt
            clear b10
            go_wp2_with fail
            (with_reducible refine (M3.out _ _ _ _ _ _ _ (by exact sa) (by exact sy)).mono ?_)
            rintro e w11 ⟨rfl, b11⟩
            replace U0 := U0.trans (b11.mono U0.size)
            replace sa := sa.below b11
            replace sb := sb.below b11
            replace sd := sd.below b11
            replace Ta := Ta.below b11
            replace Tb := Tb.below b11
            replace Td := Td.below b11
            replace sg := sg.below b11
            replace sx := sx.below b11
            replace sy := sy.below b11
            replace Tg := Tg.below b11
            replace Tx := Tx.below b11
            replace Ty := Ty.below b11
            replace s1 := s1.below b11
            replace To := To.below b11
            replace cTa0 := Ta.cells.1
            replace cTa1 := Ta.cells.2
            replace zTa := Ta.lt
            replace cTb0 := Tb.cells.1
            replace cTb1 := Tb.cells.2
            replace zTb := Tb.lt
            replace cTd0 := Td.cells.1
            replace cTd1 := Td.cells.2
            replace zTd := Td.lt
            replace cTg0 := Tg.cells.1
            replace cTg1 := Tg.cells.2
            replace zTg := Tg.lt
            replace cTx0 := Tx.cells.1
            replace cTx1 := Tx.cells.2
            replace zTx := Tx.lt
            replace cTy0 := Ty.cells.1
            replace cTy1 := Ty.cells.2
            replace zTy := Ty.lt
            replace cTo0 := To.cells.1
            replace cTo1 := To.cells.2
            replace zTo := To.lt
            clear b11
            go_wp2_with fail
            (with_reducible refine (M4.out _ _ _ _ _ _ _ (by exact s1) (by exact sy)).mono ?_)
            rintro e w12 ⟨rfl, b12⟩
            replace U0 := U0.trans (b12.mono U0.size)
            replace sa := sa.below b12
            replace sb := sb.below b12
            replace sd := sd.below b12
            replace Ta := Ta.below b12
            replace Tb := Tb.below b12
            replace Td := Td.below b12
            replace sg := sg.below b12
            replace sx := sx.below b12
            replace sy := sy.below b12
            replace Tg := Tg.below b12
            replace Tx := Tx.below b12
            replace Ty := Ty.below b12
            replace s1 := s1.below b12
            replace To := To.below b12
            replace cTa0 := Ta.cells.1
            replace cTa1 := Ta.cells.2
            replace zTa := Ta.lt
            replace cTb0 := Tb.cells.1
            replace cTb1 := Tb.cells.2
            replace zTb := Tb.lt
            replace cTd0 := Td.cells.1
            replace cTd1 := Td.cells.2
            replace zTd := Td.lt
            replace cTg0 := Tg.cells.1
            replace cTg1 := Tg.cells.2
            replace zTg := Tg.lt
            replace cTx0 := Tx.cells.1
            replace cTx1 := Tx.cells.2
            replace zTx := Tx.lt
            replace cTy0 := Ty.cells.1
            replace cTy1 := Ty.cells.2
            replace zTy := Ty.lt
            replace cTo0 := To.cells.1
            replace cTo1 := To.cells.2
            replace zTo := To.lt
            clear b12
            go_wp2
            go_ret
            exact ⟨rfl, U0⟩
        · rcases h34 with rfl | ⟨rfl, rfl⟩
          · skip
            go_wp2_with fail
            replace U0 := U0.alloc U0.size (.cells #[.bool n1, .slice a1 l1 c1] 24)
            replace sa := sa.alloc (.cells #[.bool n1, .slice a1 l1 c1] 24)
            replace sb := sb.alloc (.cells #[.bool n1, .slice a1 l1 c1] 24)
            replace sd := sd.alloc (.cells #[.bool n1, .slice a1 l1 c1] 24)
            replace Ta := Ta.alloc (.cells #[.bool n1, .slice a1 l1 c1] 24)
            replace Tb := Tb.alloc (.cells #[.bool n1, .slice a1 l1 c1] 24)
            replace Td := Td.alloc (.cells #[.bool n1, .slice a1 l1 c1] 24)
            replace sg := sg.alloc (.cells #[.bool n1, .slice a1 l1 c1] 24)
            replace sx := sx.alloc (.cells #[.bool n1, .slice a1 l1 c1] 24)
            replace sy := sy.alloc (.cells #[.bool n1, .slice a1 l1 c1] 24)
            replace Tg := Tg.alloc (.cells #[.bool n1, .slice a1 l1 c1] 24)
            replace Tx := Tx.alloc (.cells #[.bool n1, .slice a1 l1 c1] 24)
            replace Ty := Ty.alloc (.cells #[.bool n1, .slice a1 l1 c1] 24)
            replace s1 := s1.alloc (.cells #[.bool n1, .slice a1 l1 c1] 24)
            replace cTa0 := Ta.cells.1
            replace cTa1 := Ta.cells.2
            replace zTa := Ta.lt
            replace cTb0 := Tb.cells.1
            replace cTb1 := Tb.cells.2
            replace zTb := Tb.lt
            replace cTd0 := Td.cells.1
            replace cTd1 := Td.cells.2
            replace zTd := Td.lt
            replace cTg0 := Tg.cells.1
            replace cTg1 := Tg.cells.2
            replace zTg := Tg.lt
            replace cTx0 := Tx.cells.1
            replace cTx1 := Tx.cells.2
            replace zTx := Tx.lt
            replace cTy0 := Ty.cells.1
            replace cTy1 := Ty.cells.2
            replace zTy := Ty.lt
            have To := BoxI.new w9 (w9.heap.size) (by first | rfl | simp) n1 a1 l1 c1
            have cTo0 := To.cells.1
            have cTo1 := To.cells.2
            have zTo := To.lt
            (with_reducible refine (M1.out _ _ _ _ _ _ _ (by exact sb) (by exact sx)).mono ?_)
            rintro e w10 ⟨rfl, b10⟩
            replace U0 := U0.trans (b10.mono U0.size)
            replace sa := sa.below b10
            replace sb := sb.below b10
            replace sd := sd.below b10
            replace Ta := Ta.below b10
            replace Tb := Tb.below b10
            replace Td := Td.below b10
            replace sg := sg.below b10
            replace sx := sx.below b10
            replace sy := sy.below b10
            replace Tg := Tg.below b10
            replace Tx := Tx.below b10
            replace Ty := Ty.below b10
            replace s1 := s1.below b10
            replace To := To.below b10
            replace cTa0 := Ta.cells.1
            replace cTa1 := Ta.cells.2
            replace zTa := Ta.lt
            replace cTb0 := Tb.cells.1
            replace cTb1 := Tb.cells.2
            replace zTb := Tb.lt
            replace cTd0 := Td.cells.1
            replace cTd1 := Td.cells.2
            replace zTd := Td.lt
            replace cTg0 := Tg.cells.1
            replace cTg1 := Tg.cells.2
            replace zTg := Tg.lt
            replace cTx0 := Tx.cells.1
            replace cTx1 := Tx.cells.2
            replace zTx := Tx.lt
            replace cTy0 := Ty.cells.1
            replace cTy1 := Ty.cells.2
            replace zTy := Ty.lt
            replace cTo0 := To.cells.1
            replace cTo1 := To.cells.2
            replace zTo := To.lt
            clear b10
            go_wp2_with fail
            (with_reducible refine (M2.out _ _ _ _ _ _ _ (by exact s1) (by exact sx)).mono ?_)
            rintro e w11 ⟨rfl, b11⟩
            replace U0 := U0.trans (b11.mono U0.size)
            replace sa := sa.below b11
            replace sb := sb.below b11
            replace sd := sd.below b11
            replace Ta := Ta.below b11
            replace Tb := Tb.below b11
            replace Td := Td.below b11
            replace sg := sg.below b11
            replace sx := sx.below b11
            replace sy := sy.below b11
            replace Tg := Tg.below b11
            replace Tx := Tx.below b11
            replace Ty := Ty.below b11
            replace s1 := s1.below b11
            replace To := To.below b11
            replace cTa0 := Ta.cells.1
            replace cTa1 := Ta.cells.2
            replace zTa := Ta.lt
            replace cTb0 := Tb.cells.1
            replace cTb1 := Tb.cells.2
            replace zTb := Tb.lt
            replace cTd0 := Td.cells.1
            replace cTd1 := Td.cells.2
            replace zTd := Td.lt
            replace cTg0 := Tg.cells.1
            replace cTg1 := Tg.cells.2
            replace zTg := Tg.lt
            replace cTx0 := Tx.cells.1
            replace cTx1 := Tx.cells.2
            replace zTx := Tx.lt
            replace cTy0 := Ty.cells.1
            replace cTy1 := Ty.cells.2
            replace zTy := Ty.lt
            replace cTo0 := To.cells.1
            replace cTo1 := To.cells.2
            replace zTo := To.lt
            clear b11
            go_wp2_with fail
            (with_reducible refine (M3.out _ _ _ _ _ _ _ (by exact sa) (by exact sy)).mono ?_)
            rintro e w12 ⟨rfl, b12⟩
            replace U0 := U0.trans (b12.mono U0.size)
            replace sa := sa.below b12
            replace sb := sb.below b12
            replace sd := sd.below b12
            replace Ta := Ta.below b12
            replace Tb := Tb.below b12
            replace Td := Td.below b12
            replace sg := sg.below b12
            replace sx := sx.below b12
            replace sy := sy.below b12
            replace Tg := Tg.below b12
            replace Tx := Tx.below b12
            replace Ty := Ty.below b12
            replace s1 := s1.below b12
            replace To := To.below b12
            replace cTa0 := Ta.cells.1
            replace cTa1 := Ta.cells.2
            replace zTa := Ta.lt
            replace cTb0 := Tb.cells.1
            replace cTb1 := Tb.cells.2
            replace zTb := Tb.lt
            replace cTd0 := Td.cells.1
            replace cTd1 := Td.cells.2
            replace zTd := Td.lt
            replace cTg0 := Tg.cells.1
            replace cTg1 := Tg.cells.2
            replace zTg := Tg.lt
            replace cTx0 := Tx.cells.1
            replace cTx1 := Tx.cells.2
            replace zTx := Tx.lt
            replace cTy0 := Ty.cells.1
            replace cTy1 := Ty.cells.2
            replace zTy := Ty.lt
            replace cTo0 := To.cells.1
            replace cTo1 := To.cells.2
            replace zTo := To.lt
            clear b12
            go_wp2
            go_ret
            exact ⟨rfl, U0⟩
          · skip
            go_wp2_with fail
            replace U0 := U0.alloc U0.size (.cells #[.bool n1, .slice a1 l1 c1] 24)
            replace sa := sa.alloc (.cells #[.bool n1, .slice a1 l1 c1] 24)
            replace sb := sb.alloc (.cells #[.bool n1, .slice a1 l1 c1] 24)
            replace sd := sd.alloc (.cells #[.bool n1, .slice a1 l1 c1] 24)
            replace Ta := Ta.alloc (.cells #[.bool n1, .slice a1 l1 c1] 24)
            replace Tb := Tb.alloc (.cells #[.bool n1, .slice a1 l1 c1] 24)
            replace Td := Td.alloc (.cells #[.bool n1, .slice a1 l1 c1] 24)
            replace sg := sg.alloc (.cells #[.bool n1, .slice a1 l1 c1] 24)
            replace sx := sx.alloc (.cells #[.bool n1, .slice a1 l1 c1] 24)
            replace sy := sy.alloc (.cells #[.bool n1, .slice a1 l1 c1] 24)
            replace Tg := Tg.alloc (.cells #[.bool n1, .slice a1 l1 c1] 24)
            replace Tx := Tx.alloc (.cells #[.bool n1, .slice a1 l1 c1] 24)
            replace Ty := Ty.alloc (.cells #[.bool n1, .slice a1 l1 c1] 24)
            replace s1 := s1.alloc (.cells #[.bool n1, .slice a1 l1 c1] 24)
            replace cTa0 := Ta.cells.1
            replace cTa1 := Ta.cells.2
            replace zTa := Ta.lt
            replace cTb0 := Tb.cells.1
            replace cTb1 := Tb.cells.2
            replace zTb := Tb.lt
            replace cTd0 := Td.cells.1
            replace cTd1 := Td.cells.2
            replace zTd := Td.lt
            replace cTg0 := Tg.cells.1
            replace cTg1 := Tg.cells.2
            replace zTg := Tg.lt
            replace cTx0 := Tx.cells.1
            replace cTx1 := Tx.cells.2
            replace zTx := Tx.lt
            replace cTy0 := Ty.cells.1
            replace cTy1 := Ty.cells.2
            replace zTy := Ty.lt
            have To := BoxI.new w9 (w9.heap.size) (by first | rfl | simp) n1 a1 l1 c1
            have cTo0 := To.cells.1
            have cTo1 := To.cells.2
            have zTo := To.lt
            (with_reducible refine (M1.out _ _ _ _ _ _ _ (by exact sb) (by exact sx)).mono ?_)
            rintro e w10 ⟨rfl, b10⟩
            replace U0 := U0.trans (b10.mono U0.size)
            replace sa := sa.below b10
            replace sb := sb.below b10
            replace sd := sd.below b10
            replace Ta := Ta.below b10
            replace Tb := Tb.below b10
            replace Td := Td.below b10
            replace sg := sg.below b10
            replace sx := sx.below b10
            replace sy := sy.below b10
            replace Tg := Tg.below b10
            replace Tx := Tx.below b10
            replace Ty := Ty.below b10
            replace s1 := s1.below b10
            replace To := To.below b10
            replace cTa0 := Ta.cells.1
            replace cTa1 := Ta.cells.2
            replace zTa := Ta.lt
            replace cTb0 := Tb.cells.1
            replace cTb1 := Tb.cells.2
            replace zTb := Tb.lt
            replace cTd0 := Td.cells.1
            replace cTd1 := Td.cells.2
            replace zTd := Td.lt
            replace cTg0 := Tg.cells.1
            replace cTg1 := Tg.cells.2
            replace zTg := Tg.lt
            replace cTx0 := Tx.cells.1
            replace cTx1 := Tx.cells.2
            replace zTx := Tx.lt
            replace cTy0 := Ty.cells.1
            replace cTy1 := Ty.cells.2
            replace zTy := Ty.lt
            replace cTo0 := To.cells.1
            replace cTo1 := To.cells.2
            replace zTo := To.lt
            clear b10
            go_wp2_with fail
            (with_reducible refine (M2.out _ _ _ _ _ _ _ (by exact s1) (by exact sx)).mono ?_)
            rintro e w11 ⟨rfl, b11⟩
            replace U0 := U0.trans (b11.mono U0.size)
            replace sa := sa.below b11
            replace sb := sb.below b11
            replace sd := sd.below b11
            replace Ta := Ta.below b11
            replace Tb := Tb.below b11
            replace Td := Td.below b11
            replace sg := sg.below b11
            replace sx := sx.below b11
            replace sy := sy.below b11
            replace Tg := Tg.below b11
            replace Tx := Tx.below b11
            replace Ty := Ty.below b11
            replace s1 := s1.below b11
            replace To := To.below b11
            replace cTa0 := Ta.cells.1
            replace cTa1 := Ta.cells.2
            replace zTa := Ta.lt
            replace cTb0 := Tb.cells.1
            replace cTb1 := Tb.cells.2
            replace zTb := Tb.lt
            replace cTd0 := Td.cells.1
            replace cTd1 := Td.cells.2
            replace zTd := Td.lt
            replace cTg0 := Tg.cells.1
            replace cTg1 := Tg.cells.2
            replace zTg := Tg.lt
            replace cTx0 := Tx.cells.1
            replace cTx1 := Tx.cells.2
            replace zTx := Tx.lt
            replace cTy0 := Ty.cells.1
            replace cTy1 := Ty.cells.2
            replace zTy := Ty.lt
            replace cTo0 := To.cells.1
            replace cTo1 := To.cells.2
            replace zTo := To.lt
            clear b11
            go_wp2_with fail
            (with_reducible refine (M3.out _ _ _ _ _ _ _ (by exact sa) (by exact sy)).mono ?_)
            rintro e w12 ⟨rfl, b12⟩
            replace U0 := U0.trans (b12.mono U0.size)
            replace sa := sa.below b12
            replace sb := sb.below b12
            replace sd := sd.below b12
            replace Ta := Ta.below b12
            replace Tb := Tb.below b12
            replace Td := Td.below b12
            replace sg := sg.below b12
            replace sx := sx.below b12
            replace sy := sy.below b12
            replace Tg := Tg.below b12
            replace Tx := Tx.below b12
            replace Ty := Ty.below b12
            replace s1 := s1.below b12
            replace To := To.below b12
            replace cTa0 := Ta.cells.1
            replace cTa1 := Ta.cells.2
            replace zTa := Ta.lt
            replace cTb0 := Tb.cells.1
            replace cTb1 := Tb.cells.2
            replace zTb := Tb.lt
            replace cTd0 := Td.cells.1
            replace cTd1 := Td.cells.2
            replace zTd := Td.lt
            replace cTg0 := Tg.cells.1
            replace cTg1 := Tg.cells.2
            replace zTg := Tg.lt
            replace cTx0 := Tx.cells.1
            replace cTx1 := Tx.cells.2
            replace zTx := Tx.lt
            replace cTy0 := Ty.cells.1
            replace cTy1 := Ty.cells.2
            replace zTy := Ty.lt
            replace cTo0 := To.cells.1
            replace cTo1 := To.cells.2
            replace zTo := To.lt
            clear b12
            go_wp2_with fail
            (with_reducible refine (M4.out _ _ _ _ _ _ _ (by exact s1) (by exact sy)).mono ?_)
            rintro e w13 ⟨rfl, b13⟩
            replace U0 := U0.trans (b13.mono U0.size)
            replace sa := sa.below b13
            replace sb := sb.below b13
            replace sd := sd.below b13
            replace Ta := Ta.below b13
            replace Tb := Tb.below b13
            replace Td := Td.below b13
            replace sg := sg.below b13
            replace sx := sx.below b13
            replace sy := sy.below b13
            replace Tg := Tg.below b13
            replace Tx := Tx.below b13
            replace Ty := Ty.below b13
            replace s1 := s1.below b13
            replace To := To.below b13
            replace cTa0 := Ta.cells.1
            replace cTa1 := Ta.cells.2
            replace zTa := Ta.lt
            replace cTb0 := Tb.cells.1
            replace cTb1 := Tb.cells.2
            replace zTb := Tb.lt
            replace cTd0 := Td.cells.1
            replace cTd1 := Td.cells.2
            replace zTd := Td.lt
            replace cTg0 := Tg.cells.1
            replace cTg1 := Tg.cells.2
            replace zTg := Tg.lt
            replace cTx0 := Tx.cells.1
            replace cTx1 := Tx.cells.2
            replace zTx := Tx.lt
            replace cTy0 := Ty.cells.1
            replace cTy1 := Ty.cells.2
            replace zTy := Ty.lt
            replace cTo0 := To.cells.1
            replace cTo1 := To.cells.2
            replace zTo := To.lt
            clear b13
            go_wp2
            go_ret
            exact ⟨rfl, U0⟩

theorem numBezout_any (na : Bool) (aa : Option Addr) (la ca : Nat) (xa : List Int) (nb : Bool) (ab : Option Addr) (lb cb : Nat) (xb : List Int) (nd : Bool) (ad : Option Addr) (ld cd : Nat) (xd : List Int) (w : World) (ht : Tab w) (sa : Sl w aa la ca xa) (sb : Sl w ab lb cb xb) (sd : Sl w ad ld cd xd) : Calls Tryz.prog 11 #[.agg #[.bool na, .slice aa la ca], .agg #[.bool nb, .slice ab lb cb], .agg #[.bool nd, .slice ad ld cd]] w (RetBool true w) := by
  cases hr : (!(wrong ⟨na, aa, la, ca, xa⟩ || (wrong ⟨nb, ab, lb, cb, xb⟩ || wrong ⟨nd, ad, ld, cd, xd⟩)))
  · exact bezout_wrong na aa la ca xa nb ab lb cb xb nd ad ld cd xd w ht sa sb sd hr
  · have h := hr
    simp only [Bool.not_eq_true', Bool.or_eq_false_iff] at h
    obtain ⟨a, Na⟩ := wrong_no sa h.1
    obtain ⟨b, Nb⟩ := wrong_no sb h.2.1
    obtain ⟨d, Nd⟩ := wrong_no sd h.2.2
    exact bezout_right na aa la ca xa nb ab lb cb xb nd ad ld cd xd w ht sa sb sd a b d Na Nb Nd hr
end Go.Proofs.YtkcjjdiklodofaaGreatDoor

/- NumBezout: for every input the law answers true, and each argument reads afterwards as it read before. Condition: the table of the powers of ten lies as the program's text lays it (tied by the card). -/
namespace Go.Proofs.YtkcjjdiklodofaaGreatDoor.lawNumBezout
open Go.ChangeShapes Go.WideShapes Go.ChangeAt Go.RowKit

theorem door_met (os : Os) (args : Array Value) : laidMetH Tryz.prog Rows.numBezoutRow.laid ((World.doorLaid Tryz.prog 24 os).forCall (fun _ _ => 0) ⟨#[], args, []⟩).memory :=
  laidMetH_of_parts3 (fuel := 8) (laidMet_of_run' 8 (by kernel_rfl) (by kernel_rfl)) (by kernel_rfl) (by kernel_rfl)

set_option maxRecDepth 100000 in
theorem lifted (os : Os) (started : os.Started) (H : Type) (enc : TypeId × Value → H) :
    ReturnsInHanded {} Tryz.checked os 11 .any (fun w args => (Rows.numBezoutSpec.pre enc Tryz.prog Tryz.f11 [] false w args ∧ laidMetH Tryz.prog Rows.numBezoutRow.laid w) ∧ sizedMet enc Tryz.prog Tryz.f11 (OpenSpec.ofChange Rows.numBezoutSpec) false w args)
      (Rows.numBezoutSpec.post enc Tryz.prog Tryz.f11 false true false false) := by
  refine returnsInHanded_of_change_and (C := Tryz.checked) (X := fun w _ => laidMetH Tryz.prog Rows.numBezoutRow.laid w) (fun _ _ _ hh h => h.of_heap hh) lift_own started (by kernel_rfl) Tryz.func11
    (ChangeSpec.witness_shaped (enc := enc) (C := Tryz.checked) (os := os) (X := fun w _ => laidMetH Tryz.prog Rows.numBezoutRow.laid w) false (World.doorLaid Tryz.prog 24 os) #[.agg #[.bool false, .slice none 0 0], .agg #[.bool false, .slice none 0 0], .agg #[.bool false, .slice none 0 0]] 8 rfl (World.shaped_of_RefB (by kernel_rfl) (by kernel_rfl)) (by kernel_rfl) (by kernel_rfl) (by kernel_rfl) (door_met os _)) ?_
  intro W base args ds gs before hval0 hW _ _ hL _
  have hval : ∀ (j : Nat) t v, Tryz.f11.params[j]? = some t → args[j]? = some v → Value.okWide Tryz.prog W .any base t v := hval0
  have hW' := hW
  obtain ⟨p, q, hA0, hV, rfl, hfz, hnd⟩ := hW
  have hA : DataW.TrodAll enc Tryz.prog W 0 (fun _ => true) true Tryz.f11.params.toList args.toList ds p := hA0
  rw [Tryz.params11] at hA hval
  clear hA0 hval0
  obtain ⟨v0, vs0, d0, ds0, p0, q0, hargs, rfl, rfl, h0, r0⟩ := trodAll_cons hA
  obtain ⟨v1, vs1, d1, ds1, p1, q1, rfl, rfl, rfl, h1, r1⟩ := trodAll_cons r0
  obtain ⟨v2, vs2, d2, ds2, p2, q2, rfl, rfl, rfl, h2, r2⟩ := trodAll_cons r1
  obtain ⟨rfl, rfl, rfl⟩ := trodAll_nil r2
  obtain rfl : args = #[v0, v1, v2] := by cases args; simp_all
  obtain ⟨rfl, rfl⟩ := trodVars_none hV
  obtain ⟨n0, ao0, len0, cap0, xs0, rfl, s0⟩ := open_I (hval 0 24 v0 rfl rfl) h0
  obtain ⟨n1, ao1, len1, cap1, xs1, rfl, s1⟩ := open_I (hval 1 24 v1 rfl rfl) h1
  obtain ⟨n2, ao2, len2, cap2, xs2, rfl, s2⟩ := open_I (hval 2 24 v2 rfl rfl) h2
  simp only [List.append_nil] at hW'
  refine (numBezout_any n0 ao0 len0 cap0 xs0 n1 ao1 len1 cap1 xs1 n2 ao2 len2 cap2 xs2 W (lift_tab hL) s0 s1 s2).mono fun e W' ⟨he, hg⟩ => ?_
  subst he
  have hlt : ∀ x ∈ p0 ++ (p1 ++ (p2)), x.block < W.heap.size := fun x hx => hW'.lt x hx
  have in0 : ∀ x ∈ p0, x ∈ p0 ++ (p1 ++ (p2)) := fun x hx => by simp [hx]
  have in1 : ∀ x ∈ p1, x ∈ p0 ++ (p1 ++ (p2)) := fun x hx => by simp [hx]
  have in2 : ∀ x ∈ p2, x ∈ p0 ++ (p1 ++ (p2)) := fun x hx => by simp [hx]
  exact ⟨_, rfl, post_of_below (pv := []) hW' (fun _ _ _ => (trodAll_cons_mk (shut_bool Tryz.underlying4 _) trodAll_mk0)) (fun sp hsp => (trodAll_cons_mk (again_I h0 hg (fun x hx => hlt x (in0 x hx)) (fun x hx => hsp x (in0 x hx))) (trodAll_cons_mk (again_I h1 hg (fun x hx => hlt x (in1 x hx)) (fun x hx => hsp x (in1 x hx))) (trodAll_cons_mk (again_I h2 hg (fun x hx => hlt x (in2 x hx)) (fun x hx => hsp x (in2 x hx))) trodAll_mk0)))) (fun _ _ => rfl) (by simp)
    hg (ok_one (by kernel_rfl) rfl (okWide_bool_mk Tryz.underlying4 _))⟩

theorem over : Rows.numBezoutRow.holds Tryz.pinned (OpenSpec.ofChange Rows.numBezoutSpec) :=
  OpenClaim.holds_of_wide 11 Tryz.f11 rfl rfl rfl rfl rfl rfl rfl ⟨rfl, rfl, rfl, rfl, rfl⟩ rfl rfl rfl rfl rfl (by kernel_rfl) Tryz.func11 (by kernel_rfl)
    (of_decide_eq_true (by kernel_rfl)) (by unfold Func.isWrapper; first | (rw [if_pos (by decide +kernel)]; kernel_rfl) | (rw [if_neg (by decide +kernel)]; exact ⟨rfl, rfl⟩))
    (fun os started H enc _ => lifted os started H enc)

theorem plain (f : FuncId) (fn : Func) (hf : Tryz.pinned.checked.prog.funcNamed "foregone/foregonelaw01.NumBezout" = some f) (hfn : Tryz.pinned.checked.prog.funcs[f]? = some fn) :
    false = Tryz.pinned.checked.prog.looks [] ∧ ∀ (j : Nat) t, fn.params[j]? = some t → Tryz.pinned.checked.prog.wantsStandIn t = false := by
  obtain rfl : f = 11 := Option.some.inj ((show Tryz.prog.funcNamed "foregone/foregonelaw01.NumBezout" = some 11 by kernel_rfl).symm.trans hf) |>.symm
  obtain rfl : fn = Tryz.f11 := (Option.some.inj (Tryz.func11.symm.trans hfn)).symm
  refine ⟨by kernel_rfl, fun j t ht => ?_⟩
  rw [Tryz.params11] at ht
  have hm : t ∈ [24] := by simpa using Array.mem_of_getElem? ht
  have hall : ([24].all fun u => !Tryz.prog.wantsStandIn u) = true := by kernel_rfl
  exact (show Tryz.prog.wantsStandIn t = false by simpa using List.all_eq_true.1 hall t hm)

theorem card : Rows.NumBezoutCardSaid :=
  Claim7.holds_tied_plain_at .later [] _ _ _ _ over (fun _ h => by cases h) (by kernel_rfl) (fun _ h => by cases h) numBezout_row_tie rfl ⟨rfl, rfl⟩ (by kernel_rfl) rfl plain (by kernel_rfl)
end Go.Proofs.YtkcjjdiklodofaaGreatDoor.lawNumBezout

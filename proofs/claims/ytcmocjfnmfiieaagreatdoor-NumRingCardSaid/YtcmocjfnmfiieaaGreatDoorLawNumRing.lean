/- NumRing: for every input the law answers true, and each argument reads afterwards as it read before. Condition: the table of the powers of ten lies as the program's text lays it (tied by the card). -/
import Derived.Deep.DeepCutAuto
import Derived.Test.YtcmocjfnmfiieaaGreatDoorLawNumRingH
set_option linter.all false

/- The walk of NumRing. -/
namespace Go.Proofs.YtcmocjfnmfiieaaGreatDoor
open Go.RowKit

/-- What a piece leaves: the integers in their boxes, and their pairs in boxes of their own. -/
def RingCut (w0 : World) (ga gb gc : Nat) (na : Bool) (aa : Option Addr) (la ca : Nat) (xa : List Int) (nb : Bool) (ab : Option Addr) (lb cb : Nat) (xb : List Int) (nc : Bool) (ac : Option Addr) (lc cc : Nat) (xc : List Int) (hx hy hz : Nat) (px : Option Addr) (qx rx : Nat) (py : Option Addr) (qy ry : Nat) (pz : Option Addr) (qz rz : Nat) (wx : World) : Prop :=
  BoxI wx ga na aa la ca ∧ Sl wx aa la ca xa ∧ BoxI wx gb nb ab lb cb ∧ Sl wx ab lb cb xb ∧ BoxI wx gc nc ac lc cc ∧ Sl wx ac lc cc xc ∧ Box3 wx hx na px qx rx 0 ∧ Sl wx px qx rx xa ∧ Box3 wx hy nb py qy ry 0 ∧ Sl wx py qy ry xb ∧ Box3 wx hz nc pz qz rz 0 ∧ Sl wx pz qz rz xc ∧ Below w0.heap.size w0 wx

set_option maxRecDepth 100000 in
set_option maxHeartbeats 16000000 in
theorem ring_wrong (na : Bool) (aa : Option Addr) (la ca : Nat) (xa : List Int) (nb : Bool) (ab : Option Addr) (lb cb : Nat) (xb : List Int) (nc : Bool) (ac : Option Addr) (lc cc : Nat) (xc : List Int) (w : World) (ht : Tab w) (sa : Sl w aa la ca xa) (sb : Sl w ab lb cb xb) (sc : Sl w ac lc cc xc) (hr : (!(wrong ⟨na, aa, la, ca, xa⟩ || (wrong ⟨nb, ab, lb, cb, xb⟩ || wrong ⟨nc, ac, lc, cc, xc⟩))) = false) : Calls Tryz.prog 7 #[.agg #[.bool na, .slice aa la ca], .agg #[.bool nb, .slice ab lb cb], .agg #[.bool nc, .slice ac lc cc]] w (RetBool true w) := by
  have Hr := Lib.hid (fun w g hg h1 h2 h3 => right3 na aa la ca xa nb ab lb cb xb nc ac lc cc xc w g hg h1 h2 h3 false hr)
  clear hr
  go_enter Tryz.func7, Tryz.ntmps7
  have U0 := Below.refl w.heap.size w
  go_wp2_with fail
  replace U0 := U0.alloc U0.size (.cells #[.bool na, .slice aa la ca] 24)
  replace ht := ht.alloc (.cells #[.bool na, .slice aa la ca] 24)
  replace sa := sa.alloc (.cells #[.bool na, .slice aa la ca] 24)
  replace sb := sb.alloc (.cells #[.bool na, .slice aa la ca] 24)
  replace sc := sc.alloc (.cells #[.bool na, .slice aa la ca] 24)
  have Ta := BoxI.new w (w.heap.size) (by first | rfl | simp) na aa la ca
  have cTa0 := Ta.cells.1
  have cTa1 := Ta.cells.2
  have zTa := Ta.lt
  replace U0 := U0.alloc U0.size (.cells #[.bool nb, .slice ab lb cb] 24)
  replace ht := ht.alloc (.cells #[.bool nb, .slice ab lb cb] 24)
  replace sa := sa.alloc (.cells #[.bool nb, .slice ab lb cb] 24)
  replace sb := sb.alloc (.cells #[.bool nb, .slice ab lb cb] 24)
  replace sc := sc.alloc (.cells #[.bool nb, .slice ab lb cb] 24)
  replace Ta := Ta.alloc (.cells #[.bool nb, .slice ab lb cb] 24)
  replace cTa0 := Ta.cells.1
  replace cTa1 := Ta.cells.2
  replace zTa := Ta.lt
  have Tb := BoxI.new (w.alloc (.cells #[.bool na, .slice aa la ca] 24)) (w.heap.size + 1) (by first | rfl | simp) nb ab lb cb
  have cTb0 := Tb.cells.1
  have cTb1 := Tb.cells.2
  have zTb := Tb.lt
  replace U0 := U0.alloc U0.size (.cells #[.bool nc, .slice ac lc cc] 24)
  replace ht := ht.alloc (.cells #[.bool nc, .slice ac lc cc] 24)
  replace sa := sa.alloc (.cells #[.bool nc, .slice ac lc cc] 24)
  replace sb := sb.alloc (.cells #[.bool nc, .slice ac lc cc] 24)
  replace sc := sc.alloc (.cells #[.bool nc, .slice ac lc cc] 24)
  replace Ta := Ta.alloc (.cells #[.bool nc, .slice ac lc cc] 24)
  replace Tb := Tb.alloc (.cells #[.bool nc, .slice ac lc cc] 24)
  replace cTa0 := Ta.cells.1
  replace cTa1 := Ta.cells.2
  replace zTa := Ta.lt
  replace cTb0 := Tb.cells.1
  replace cTb1 := Tb.cells.2
  replace zTb := Tb.lt
  have Tc := BoxI.new ((w.alloc (.cells #[.bool na, .slice aa la ca] 24)).alloc (.cells #[.bool nb, .slice ab lb cb] 24)) (w.heap.size + 1 + 1) (by first | rfl | simp) nc ac lc cc
  have cTc0 := Tc.cells.1
  have cTc1 := Tc.cells.2
  have zTc := Tc.lt
  (with_reducible refine (sane_any _ (by exact ht)).mono ?_)
  rintro e w1 ⟨rfl, b1⟩
  replace U0 := U0.trans (b1.mono U0.size)
  replace ht := ht.below b1
  replace sa := sa.below b1
  replace sb := sb.below b1
  replace sc := sc.below b1
  replace Ta := Ta.below b1
  replace Tb := Tb.below b1
  replace Tc := Tc.below b1
  replace cTa0 := Ta.cells.1
  replace cTa1 := Ta.cells.2
  replace zTa := Ta.lt
  replace cTb0 := Tb.cells.1
  replace cTb1 := Tb.cells.2
  replace zTb := Tb.lt
  replace cTc0 := Tc.cells.1
  replace cTc1 := Tc.cells.2
  replace zTc := Tc.lt
  clear b1
  clear ht
  go_wp2_with fail
  replace U0 := U0.alloc U0.size (.cells #[.bool na, .slice aa la ca, .bool nb, .slice ab lb cb, .bool nc, .slice ac lc cc] 24)
  replace sa := sa.alloc (.cells #[.bool na, .slice aa la ca, .bool nb, .slice ab lb cb, .bool nc, .slice ac lc cc] 24)
  replace sb := sb.alloc (.cells #[.bool na, .slice aa la ca, .bool nb, .slice ab lb cb, .bool nc, .slice ac lc cc] 24)
  replace sc := sc.alloc (.cells #[.bool na, .slice aa la ca, .bool nb, .slice ab lb cb, .bool nc, .slice ac lc cc] 24)
  replace Ta := Ta.alloc (.cells #[.bool na, .slice aa la ca, .bool nb, .slice ab lb cb, .bool nc, .slice ac lc cc] 24)
  replace Tb := Tb.alloc (.cells #[.bool na, .slice aa la ca, .bool nb, .slice ab lb cb, .bool nc, .slice ac lc cc] 24)
  replace Tc := Tc.alloc (.cells #[.bool na, .slice aa la ca, .bool nb, .slice ab lb cb, .bool nc, .slice ac lc cc] 24)
  replace cTa0 := Ta.cells.1
  replace cTa1 := Ta.cells.2
  replace zTa := Ta.lt
  replace cTb0 := Tb.cells.1
  replace cTb1 := Tb.cells.2
  replace zTb := Tb.lt
  replace cTc0 := Tc.cells.1
  replace cTc1 := Tc.cells.2
  replace zTc := Tc.lt
  (with_reducible refine (Hr.out _ _ (heap_new _ _) (by exact sa) (by exact sb) (by exact sc)).mono ?_)
  rintro e w2 ⟨rfl, b2⟩
  replace U0 := U0.trans (b2.mono U0.size)
  replace sa := sa.below b2
  replace sb := sb.below b2
  replace sc := sc.below b2
  replace Ta := Ta.below b2
  replace Tb := Tb.below b2
  replace Tc := Tc.below b2
  replace cTa0 := Ta.cells.1
  replace cTa1 := Ta.cells.2
  replace zTa := Ta.lt
  replace cTb0 := Tb.cells.1
  replace cTb1 := Tb.cells.2
  replace zTb := Tb.lt
  replace cTc0 := Tc.cells.1
  replace cTc1 := Tc.cells.2
  replace zTc := Tc.lt
  clear b2
  go_wp2
  go_ret
  exact ⟨rfl, U0⟩

set_option maxRecDepth 100000 in
set_option maxHeartbeats 16000000 in
theorem ring_right (na : Bool) (aa : Option Addr) (la ca : Nat) (xa : List Int) (nb : Bool) (ab : Option Addr) (lb cb : Nat) (xb : List Int) (nc : Bool) (ac : Option Addr) (lc cc : Nat) (xc : List Int) (w : World) (ht : Tab w) (sa : Sl w aa la ca xa) (sb : Sl w ab lb cb xb) (sc : Sl w ac lc cc xc) (a : Int) (Na : Num a na xa) (b : Int) (Nb : Num b nb xb) (c : Int) (Nc : Num c nc xc) (hr : (!(wrong ⟨na, aa, la, ca, xa⟩ || (wrong ⟨nb, ab, lb, cb, xb⟩ || wrong ⟨nc, ac, lc, cc, xc⟩))) = true) : Calls Tryz.prog 7 #[.agg #[.bool na, .slice aa la ca], .agg #[.bool nb, .slice ab lb cb], .agg #[.bool nc, .slice ac lc cc]] w (RetBool true w) := by
  obtain ⟨v1, ev1, hv1⟩ : ∃ v e, sumR (a, 0) (b, 0) = (v, e) := ⟨_, _, rfl⟩
  have lv1_ : Lim v1 := by have := sumR_lim (a, 0) (b, 0); rw [hv1] at this; exact this
  obtain ⟨nv1, xv1, Nv1⟩ : ∃ n xs, Num v1 n xs := ⟨_, _, lv1_, rfl, rfl⟩
  obtain ⟨v2, ev2, hv2⟩ : ∃ v e, timesR (a, 0) (b, 0) = (v, e) := ⟨_, _, rfl⟩
  have lv2_ : Lim v2 := by have := timesR_lim (a, 0) (b, 0); rw [hv2] at this; exact this
  obtain ⟨nv2, xv2, Nv2⟩ : ∃ n xs, Num v2 n xs := ⟨_, _, lv2_, rfl, rfl⟩
  obtain ⟨v3, ev3, hv3⟩ : ∃ v e, sumR (v1, ev1) (c, 0) = (v, e) := ⟨_, _, rfl⟩
  have lv3_ : Lim v3 := by have := sumR_lim (v1, ev1) (c, 0); rw [hv3] at this; exact this
  obtain ⟨nv3, xv3, Nv3⟩ : ∃ n xs, Num v3 n xs := ⟨_, _, lv3_, rfl, rfl⟩
  obtain ⟨v4, ev4, hv4⟩ : ∃ v e, sumR (b, 0) (c, 0) = (v, e) := ⟨_, _, rfl⟩
  have lv4_ : Lim v4 := by have := sumR_lim (b, 0) (c, 0); rw [hv4] at this; exact this
  obtain ⟨nv4, xv4, Nv4⟩ : ∃ n xs, Num v4 n xs := ⟨_, _, lv4_, rfl, rfl⟩
  obtain ⟨v5, ev5, hv5⟩ : ∃ v e, sumR (a, 0) (v4, ev4) = (v, e) := ⟨_, _, rfl⟩
  have lv5_ : Lim v5 := by have := sumR_lim (a, 0) (v4, ev4); rw [hv5] at this; exact this
  obtain ⟨nv5, xv5, Nv5⟩ : ∃ n xs, Num v5 n xs := ⟨_, _, lv5_, rfl, rfl⟩
  obtain ⟨v6, ev6, hv6⟩ : ∃ v e, timesR (v2, ev2) (c, 0) = (v, e) := ⟨_, _, rfl⟩
  have lv6_ : Lim v6 := by have := timesR_lim (v2, ev2) (c, 0); rw [hv6] at this; exact this
  obtain ⟨nv6, xv6, Nv6⟩ : ∃ n xs, Num v6 n xs := ⟨_, _, lv6_, rfl, rfl⟩
  obtain ⟨v7, ev7, hv7⟩ : ∃ v e, timesR (b, 0) (c, 0) = (v, e) := ⟨_, _, rfl⟩
  have lv7_ : Lim v7 := by have := timesR_lim (b, 0) (c, 0); rw [hv7] at this; exact this
  obtain ⟨nv7, xv7, Nv7⟩ : ∃ n xs, Num v7 n xs := ⟨_, _, lv7_, rfl, rfl⟩
  obtain ⟨v8, ev8, hv8⟩ : ∃ v e, timesR (a, 0) (v7, ev7) = (v, e) := ⟨_, _, rfl⟩
  have lv8_ : Lim v8 := by have := timesR_lim (a, 0) (v7, ev7); rw [hv8] at this; exact this
  obtain ⟨nv8, xv8, Nv8⟩ : ∃ n xs, Num v8 n xs := ⟨_, _, lv8_, rfl, rfl⟩
  obtain ⟨v9, ev9, hv9⟩ : ∃ v e, timesR (a, 0) (v4, ev4) = (v, e) := ⟨_, _, rfl⟩
  have lv9_ : Lim v9 := by have := timesR_lim (a, 0) (v4, ev4); rw [hv9] at this; exact this
  obtain ⟨nv9, xv9, Nv9⟩ : ∃ n xs, Num v9 n xs := ⟨_, _, lv9_, rfl, rfl⟩
  obtain ⟨v10, ev10, hv10⟩ : ∃ v e, timesR (a, 0) (c, 0) = (v, e) := ⟨_, _, rfl⟩
  have lv10_ : Lim v10 := by have := timesR_lim (a, 0) (c, 0); rw [hv10] at this; exact this
  obtain ⟨nv10, xv10, Nv10⟩ : ∃ n xs, Num v10 n xs := ⟨_, _, lv10_, rfl, rfl⟩
  obtain ⟨v11, ev11, hv11⟩ : ∃ v e, sumR (v2, ev2) (v10, ev10) = (v, e) := ⟨_, _, rfl⟩
  have lv11_ : Lim v11 := by have := sumR_lim (v2, ev2) (v10, ev10); rw [hv11] at this; exact this
  obtain ⟨nv11, xv11, Nv11⟩ : ∃ n xs, Num v11 n xs := ⟨_, _, lv11_, rfl, rfl⟩
  obtain ⟨n0, x0, N0⟩ := num_ex 0 (by decide +kernel)
  obtain ⟨n1, x1, N1⟩ := num_ex 1 (by decide +kernel)
  obtain ⟨nm, xm, Nm⟩ := neg_num Na
  have C1 := Lib.hid (fun ax la ca ay lb cb w hx hy => lawSum_any Na Nb Nv1 hv1 ax la ca ay lb cb w hx hy)
  have C1b := Lib.hid (fun ax la ca ay lb cb w hx hy => lawSum_any Nb Na Nv1 (sumR_comm hv1) ax la ca ay lb cb w hx hy)
  have C2 := Lib.hid (fun ax la ca ay lb cb w hx hy => lawTimes_any Na Nb Nv2 hv2 ax la ca ay lb cb w hx hy)
  have C2b := Lib.hid (fun ax la ca ay lb cb w hx hy => lawTimes_any Nb Na Nv2 (timesR_comm hv2) ax la ca ay lb cb w hx hy)
  have C3 := Lib.hid (fun ax la ca ay lb cb w hx hy => lawSum_any Nv1 Nc Nv3 hv3 ax la ca ay lb cb w hx hy)
  have C4 := Lib.hid (fun ax la ca ay lb cb w hx hy => lawSum_any Nb Nc Nv4 hv4 ax la ca ay lb cb w hx hy)
  have C5 := Lib.hid (fun ax la ca ay lb cb w hx hy => lawSum_any Na Nv4 Nv5 hv5 ax la ca ay lb cb w hx hy)
  have C6 := Lib.hid (fun ax la ca ay lb cb w hx hy => lawTimes_any Nv2 Nc Nv6 hv6 ax la ca ay lb cb w hx hy)
  have C7 := Lib.hid (fun ax la ca ay lb cb w hx hy => lawTimes_any Nb Nc Nv7 hv7 ax la ca ay lb cb w hx hy)
  have C8 := Lib.hid (fun ax la ca ay lb cb w hx hy => lawTimes_any Na Nv7 Nv8 hv8 ax la ca ay lb cb w hx hy)
  have C9 := Lib.hid (fun ax la ca ay lb cb w hx hy => lawTimes_any Na Nv4 Nv9 hv9 ax la ca ay lb cb w hx hy)
  have C10 := Lib.hid (fun ax la ca ay lb cb w hx hy => lawTimes_any Na Nc Nv10 hv10 ax la ca ay lb cb w hx hy)
  have C11 := Lib.hid (fun ax la ca ay lb cb w hx hy => lawSum_any Nv2 Nv10 Nv11 hv11 ax la ca ay lb cb w hx hy)
  have C12 := Lib.hid (fun ax la ca ay lb cb w hx hy => lawSum_any Na N0 Na (sumR_nil Na) ax la ca ay lb cb w hx hy)
  have C13 := Lib.hid (fun ax la ca ay lb cb w hx hy => lawTimes_any Na N1 Na (timesR_one Na) ax la ca ay lb cb w hx hy)
  have C14 := Lib.hid (fun ax la ca ay lb cb w hx hy => lawTimes_any Na N0 N0 (timesR_nil a) ax la ca ay lb cb w hx hy)
  have C15 := Lib.hid (fun ax la ca ay lb cb w hx hy => lawSum_any Na Nm N0 (sumR_neg a) ax la ca ay lb cb w hx hy)
  have A1 := Lib.hid (fun ax la ca ay lb cb w hx hy => agreeP Nv1 Nv1 ev1 ev1 (.inr (.inr rfl)) ax la ca ay lb cb w hx hy)
  have A2 := Lib.hid (fun ax la ca ay lb cb w hx hy => agreeP Nv2 Nv2 ev2 ev2 (.inr (.inr rfl)) ax la ca ay lb cb w hx hy)
  have A3 := Lib.hid (fun ax la ca ay lb cb w hx hy => agreeP Nv3 Nv5 ev3 ev5 (sum_assoc hv1 hv3 hv4 hv5) ax la ca ay lb cb w hx hy)
  have A4 := Lib.hid (fun ax la ca ay lb cb w hx hy => agreeP Nv6 Nv8 ev6 ev8 (times_assoc hv2 hv6 hv7 hv8) ax la ca ay lb cb w hx hy)
  have A5 := Lib.hid (fun ax la ca ay lb cb w hx hy => agreeP Nv9 Nv11 ev9 ev11 (times_sum hv4 hv9 hv2 hv10 hv11) ax la ca ay lb cb w hx hy)
  have O0 := Lib.hid (fun w => ofP N0 (by omega) (by omega) w)
  have O1 := Lib.hid (fun w => ofP N1 (by omega) (by omega) w)
  have Sa := Lib.hid (fun ax la ca ay lb cb w hx hy => pairSelfQ Na 0 ax la ca ay lb cb w hx hy)
  have S0 := Lib.hid (fun ax la ca ay lb cb w hx hy => pairSelfQ N0 0 ax la ca ay lb cb w hx hy)
  have Sb_ := Lib.hid (fun (h : ev1 = 0) ax la ca ay lb cb w h1 h2 => subQ Nv1 Nb Na (sum_sub hv1 h) ax la ca ay lb cb w h1 h2)
  have Ng := Lib.hid (fun ao len cap w hs => negQ Na Nm ao len cap w hs)
  have Lxa := Lib.hid Na.last
  have Lxb := Lib.hid Nb.last
  have Lxc := Lib.hid Nc.last
  have Hr := Lib.hid (fun w g hg h1 h2 h3 => right3 na aa la ca xa nb ab lb cb xb nc ac lc cc xc w g hg h1 h2 h3 true hr)
  have HNa := Lib.hid Na; have HNb := Lib.hid Nb
  clear hr hv1 lv1_ hv2 lv2_ hv3 lv3_ hv4 lv4_ hv5 lv5_ hv6 lv6_ hv7 lv7_ hv8 lv8_ hv9 lv9_ hv10 lv10_ hv11 lv11_ Na Nb Nc Nm N0 N1 Nv1 Nv2 Nv3 Nv4 Nv5 Nv6 Nv7 Nv8 Nv9 Nv10 Nv11
  go_enter Tryz.func7, Tryz.ntmps7
  have U0 := Below.refl w.heap.size w
  go_wp2_with fail
  replace U0 := U0.alloc U0.size (.cells #[.bool na, .slice aa la ca] 24)
  replace ht := ht.alloc (.cells #[.bool na, .slice aa la ca] 24)
  replace sa := sa.alloc (.cells #[.bool na, .slice aa la ca] 24)
  replace sb := sb.alloc (.cells #[.bool na, .slice aa la ca] 24)
  replace sc := sc.alloc (.cells #[.bool na, .slice aa la ca] 24)
  have Ta := BoxI.new w (w.heap.size) (by first | rfl | simp) na aa la ca
  have cTa0 := Ta.cells.1
  have cTa1 := Ta.cells.2
  have zTa := Ta.lt
  replace U0 := U0.alloc U0.size (.cells #[.bool nb, .slice ab lb cb] 24)
  replace ht := ht.alloc (.cells #[.bool nb, .slice ab lb cb] 24)
  replace sa := sa.alloc (.cells #[.bool nb, .slice ab lb cb] 24)
  replace sb := sb.alloc (.cells #[.bool nb, .slice ab lb cb] 24)
  replace sc := sc.alloc (.cells #[.bool nb, .slice ab lb cb] 24)
  replace Ta := Ta.alloc (.cells #[.bool nb, .slice ab lb cb] 24)
  replace cTa0 := Ta.cells.1
  replace cTa1 := Ta.cells.2
  replace zTa := Ta.lt
  have Tb := BoxI.new (w.alloc (.cells #[.bool na, .slice aa la ca] 24)) (w.heap.size + 1) (by first | rfl | simp) nb ab lb cb
  have cTb0 := Tb.cells.1
  have cTb1 := Tb.cells.2
  have zTb := Tb.lt
  replace U0 := U0.alloc U0.size (.cells #[.bool nc, .slice ac lc cc] 24)
  replace ht := ht.alloc (.cells #[.bool nc, .slice ac lc cc] 24)
  replace sa := sa.alloc (.cells #[.bool nc, .slice ac lc cc] 24)
  replace sb := sb.alloc (.cells #[.bool nc, .slice ac lc cc] 24)
  replace sc := sc.alloc (.cells #[.bool nc, .slice ac lc cc] 24)
  replace Ta := Ta.alloc (.cells #[.bool nc, .slice ac lc cc] 24)
  replace Tb := Tb.alloc (.cells #[.bool nc, .slice ac lc cc] 24)
  replace cTa0 := Ta.cells.1
  replace cTa1 := Ta.cells.2
  replace zTa := Ta.lt
  replace cTb0 := Tb.cells.1
  replace cTb1 := Tb.cells.2
  replace zTb := Tb.lt
  have Tc := BoxI.new ((w.alloc (.cells #[.bool na, .slice aa la ca] 24)).alloc (.cells #[.bool nb, .slice ab lb cb] 24)) (w.heap.size + 1 + 1) (by first | rfl | simp) nc ac lc cc
  have cTc0 := Tc.cells.1
  have cTc1 := Tc.cells.2
  have zTc := Tc.lt
  (with_reducible refine (sane_any _ (by exact ht)).mono ?_)
  rintro e w1 ⟨rfl, b1⟩
  replace U0 := U0.trans (b1.mono U0.size)
  replace ht := ht.below b1
  replace sa := sa.below b1
  replace sb := sb.below b1
  replace sc := sc.below b1
  replace Ta := Ta.below b1
  replace Tb := Tb.below b1
  replace Tc := Tc.below b1
  replace cTa0 := Ta.cells.1
  replace cTa1 := Ta.cells.2
  replace zTa := Ta.lt
  replace cTb0 := Tb.cells.1
  replace cTb1 := Tb.cells.2
  replace zTb := Tb.lt
  replace cTc0 := Tc.cells.1
  replace cTc1 := Tc.cells.2
  replace zTc := Tc.lt
  clear b1
  clear ht
  go_wp2_with fail
  replace U0 := U0.alloc U0.size (.cells #[.bool na, .slice aa la ca, .bool nb, .slice ab lb cb, .bool nc, .slice ac lc cc] 24)
  replace sa := sa.alloc (.cells #[.bool na, .slice aa la ca, .bool nb, .slice ab lb cb, .bool nc, .slice ac lc cc] 24)
  replace sb := sb.alloc (.cells #[.bool na, .slice aa la ca, .bool nb, .slice ab lb cb, .bool nc, .slice ac lc cc] 24)
  replace sc := sc.alloc (.cells #[.bool na, .slice aa la ca, .bool nb, .slice ab lb cb, .bool nc, .slice ac lc cc] 24)
  replace Ta := Ta.alloc (.cells #[.bool na, .slice aa la ca, .bool nb, .slice ab lb cb, .bool nc, .slice ac lc cc] 24)
  replace Tb := Tb.alloc (.cells #[.bool na, .slice aa la ca, .bool nb, .slice ab lb cb, .bool nc, .slice ac lc cc] 24)
  replace Tc := Tc.alloc (.cells #[.bool na, .slice aa la ca, .bool nb, .slice ab lb cb, .bool nc, .slice ac lc cc] 24)
  replace cTa0 := Ta.cells.1
  replace cTa1 := Ta.cells.2
  replace zTa := Ta.lt
  replace cTb0 := Tb.cells.1
  replace cTb1 := Tb.cells.2
  replace zTb := Tb.lt
  replace cTc0 := Tc.cells.1
  replace cTc1 := Tc.cells.2
  replace zTc := Tc.lt
  (with_reducible refine (Hr.out _ _ (heap_new _ _) (by exact sa) (by exact sb) (by exact sc)).mono ?_)
  rintro e w2 ⟨rfl, b2⟩
  replace U0 := U0.trans (b2.mono U0.size)
  replace sa := sa.below b2
  replace sb := sb.below b2
  replace sc := sc.below b2
  replace Ta := Ta.below b2
  replace Tb := Tb.below b2
  replace Tc := Tc.below b2
  replace cTa0 := Ta.cells.1
  replace cTa1 := Ta.cells.2
  replace zTa := Ta.lt
  replace cTb0 := Tb.cells.1
  replace cTb1 := Tb.cells.2
  replace zTb := Tb.lt
  replace cTc0 := Tc.cells.1
  replace cTc1 := Tc.cells.2
  replace zTc := Tc.lt
  clear b2
  go_upto_region 5 with (fail)
  go_cut [7, 8, 9] (fun s7 s8 s9 wx => ∃ hx hy hz px qx rx py qy ry pz qz rz, s7 = .pointer (some ⟨hx, 0, none⟩) ∧ s8 = .pointer (some ⟨hy, 0, none⟩) ∧ s9 = .pointer (some ⟨hz, 0, none⟩) ∧ RingCut w (w.heap.size) (w.heap.size + 1) (w.heap.size + 1 + 1) na aa la ca xa nb ab lb cb xb nc ac lc cc xc hx hy hz px qx rx py qy ry pz qz rz wx)
  case first => as_aux_lemma =>
    clear cTa0 cTa1 zTa cTb0 cTb1 zTb cTc0 cTc1 zTc
    clear C1 C1b C2 C2b C3 C4 C5 C6 C7 C8 C9 C10 C11 C12 C13 C14 C15 A1 A2 A3 A4 A5 O0 O1 Sa S0 Sb_ Ng Hr HNa HNb
    refine region_kept 12 [some 25, some 26, some 27, some 28, some 29, some 30, some 7, some 8, some 9, none, none, none] (fun U => [U 0, U 1, U 2, U 3, U 4, U 5, U 6, U 7, U 8, U 9, U 10, U 11]) (fun L U w' => Below (w2).heap.size (w2) w' ∧ (L 0 = true → U 0 = .agg #[.bool na, .slice aa la ca]) ∧ (L 1 = true → U 1 = .agg #[.bool na, .slice aa la ca, .int .i64 0]) ∧ (L 2 = true → U 2 = .agg #[.bool nb, .slice ab lb cb]) ∧ (L 3 = true → U 3 = .agg #[.bool nb, .slice ab lb cb, .int .i64 0]) ∧ (L 4 = true → U 4 = .agg #[.bool nc, .slice ac lc cc]) ∧ (L 5 = true → U 5 = .agg #[.bool nc, .slice ac lc cc, .int .i64 0]) ∧ (L 6 = true → PBox (w2).heap.size w' (U 6) (L 9) (na) (xa) (0)) ∧ (L 7 = true → PBox (w2).heap.size w' (U 7) (L 10) (nb) (xb) (0)) ∧ (L 8 = true → PBox (w2).heap.size w' (U 8) (L 11) (nc) (xc) (0)) ∧ (L 6 = true → L 7 = true → U 6 ≠ U 7) ∧ (L 6 = true → L 8 = true → U 6 ≠ U 8) ∧ (L 7 = true → L 8 = true → U 7 ≠ U 8) ∧ (L 9 = true → L 6 = true) ∧ (L 10 = true → L 7 = true) ∧ (L 11 = true → L 8 = true)) rfl rfl (fun _ => rfl) rfl (by kernel_rfl) (by kernel_rfl) (by kernel_rfl) ?start ?step ?fin
    case start =>
      intro U
      exact ⟨(Below.refl _ _).drew, (by intro h; cases h), (by intro h; cases h), (by intro h; cases h), (by intro h; cases h), (by intro h; cases h), (by intro h; cases h), (by intro h; cases h), (by intro h; cases h), (by intro h; cases h), (by intro h; cases h), (by intro h; cases h), (by intro h; cases h), (by intro h; cases h), (by intro h; cases h), (by intro h; cases h)⟩
    case step =>
      refine ⟨?_, ?_, ?_, ?_, ?_, ?_, ?_, ?_, ?_, ?_, ?_, ?_, trivial⟩
      · intro L U w' b hF hLi hmet hb ho K hK
        obtain ⟨U1, k0, k1, k2, k3, k4, k5, k6, k7, k8, d6x7, d6x8, d7x8, m9, m10, m11⟩ := hF
        have s3 : b.tmps.getD 3 undef = .pointer (some ⟨w.heap.size, 0, none⟩) := (ho 3 rfl).trans rfl
        have r3 := getD_r s3
        have t0_ := (Ta.below U1).cells.1
        have t1_ := (Ta.below U1).cells.2
        clear hb ho hmet
        rw [if_pos (by rfl)]
        go_simp
        exact hK.out (.agg #[.bool na, .slice aa la ca]) w' ⟨U1, (fun _ => rfl), k1, k2, k3, k4, k5, k6, k7, k8, d6x7, d6x8, d7x8, m9, m10, m11⟩
      · intro L U w' b hF hLi hmet hb ho K hK
        obtain ⟨U1, k0, k1, k2, k3, k4, k5, k6, k7, k8, d6x7, d6x8, d7x8, m9, m10, m11⟩ := hF
        have s25 := (hb 0 25 rfl).trans (k0 (hmet.get rfl))
        have r25 := getD_r s25
        clear hb ho hmet
        rw [if_pos (by rfl)]
        go_simp
        go_at_call 65
        (with_reducible refine (lawVal_any _ _ _ _ _).mono ?_)
        rintro e_ wq ⟨rfl, bq⟩
        exact hK.out (.agg #[.bool na, .slice aa la ca, .int .i64 0]) wq ⟨(U1.trans (bq.mono U1.size)), k0, (fun _ => rfl), k2, k3, k4, k5, (fun h => (k6 h).below bq), (fun h => (k7 h).below bq), (fun h => (k8 h).below bq), d6x7, d6x8, d7x8, m9, m10, m11⟩
      · intro L U w' b hF hLi hmet hb ho K hK
        obtain ⟨U1, k0, k1, k2, k3, k4, k5, k6, k7, k8, d6x7, d6x8, d7x8, m9, m10, m11⟩ := hF
        have s4 : b.tmps.getD 4 undef = .pointer (some ⟨w.heap.size + 1, 0, none⟩) := (ho 4 rfl).trans rfl
        have r4 := getD_r s4
        have t0_ := (Tb.below U1).cells.1
        have t1_ := (Tb.below U1).cells.2
        clear hb ho hmet
        rw [if_pos (by rfl)]
        go_simp
        exact hK.out (.agg #[.bool nb, .slice ab lb cb]) w' ⟨U1, k0, k1, (fun _ => rfl), k3, k4, k5, k6, k7, k8, d6x7, d6x8, d7x8, m9, m10, m11⟩
      · intro L U w' b hF hLi hmet hb ho K hK
        obtain ⟨U1, k0, k1, k2, k3, k4, k5, k6, k7, k8, d6x7, d6x8, d7x8, m9, m10, m11⟩ := hF
        have s27 := (hb 2 27 rfl).trans (k2 (hmet.get rfl))
        have r27 := getD_r s27
        clear hb ho hmet
        rw [if_pos (by rfl)]
        go_simp
        go_at_call 65
        (with_reducible refine (lawVal_any _ _ _ _ _).mono ?_)
        rintro e_ wq ⟨rfl, bq⟩
        exact hK.out (.agg #[.bool nb, .slice ab lb cb, .int .i64 0]) wq ⟨(U1.trans (bq.mono U1.size)), k0, k1, k2, (fun _ => rfl), k4, k5, (fun h => (k6 h).below bq), (fun h => (k7 h).below bq), (fun h => (k8 h).below bq), d6x7, d6x8, d7x8, m9, m10, m11⟩
      · intro L U w' b hF hLi hmet hb ho K hK
        obtain ⟨U1, k0, k1, k2, k3, k4, k5, k6, k7, k8, d6x7, d6x8, d7x8, m9, m10, m11⟩ := hF
        have s5 : b.tmps.getD 5 undef = .pointer (some ⟨w.heap.size + 1 + 1, 0, none⟩) := (ho 5 rfl).trans rfl
        have r5 := getD_r s5
        have t0_ := (Tc.below U1).cells.1
        have t1_ := (Tc.below U1).cells.2
        clear hb ho hmet
        rw [if_pos (by rfl)]
        go_simp
        exact hK.out (.agg #[.bool nc, .slice ac lc cc]) w' ⟨U1, k0, k1, k2, k3, (fun _ => rfl), k5, k6, k7, k8, d6x7, d6x8, d7x8, m9, m10, m11⟩
      · intro L U w' b hF hLi hmet hb ho K hK
        obtain ⟨U1, k0, k1, k2, k3, k4, k5, k6, k7, k8, d6x7, d6x8, d7x8, m9, m10, m11⟩ := hF
        have s29 := (hb 4 29 rfl).trans (k4 (hmet.get rfl))
        have r29 := getD_r s29
        clear hb ho hmet
        rw [if_pos (by rfl)]
        go_simp
        go_at_call 65
        (with_reducible refine (lawVal_any _ _ _ _ _).mono ?_)
        rintro e_ wq ⟨rfl, bq⟩
        exact hK.out (.agg #[.bool nc, .slice ac lc cc, .int .i64 0]) wq ⟨(U1.trans (bq.mono U1.size)), k0, k1, k2, k3, k4, (fun _ => rfl), (fun h => (k6 h).below bq), (fun h => (k7 h).below bq), (fun h => (k8 h).below bq), d6x7, d6x8, d7x8, m9, m10, m11⟩
      · intro L U w' b hF hLi hmet hb ho K hK
        obtain ⟨U1, k0, k1, k2, k3, k4, k5, k6, k7, k8, d6x7, d6x8, d7x8, m9, m10, m11⟩ := hF
        have hst := not_yet m9 hLi
        clear hb ho hmet
        rw [if_pos (by rfl)]
        go_simp
        have bq := (Below.refl w'.heap.size w').alloc (Nat.le_refl _) (.cells #[.bool false, .slice none 0 0, .int .i64 0] 38)
        exact hK.out (.pointer (some ⟨w'.heap.size, 0, none⟩)) _ ⟨(U1.alloc U1.size _), k0, k1, k2, k3, k4, k5, (fun _ => PBox.new U1.size hst), (fun h => (k7 h).below bq), (fun h => (k8 h).below bq), (fun _ h => (PBox.fresh (k7 h)).symm), (fun _ h => (PBox.fresh (k8 h)).symm), d7x8, (fun _ => rfl), m10, m11⟩
      · intro L U w' b hF hLi hmet hb ho K hK
        obtain ⟨U1, k0, k1, k2, k3, k4, k5, k6, k7, k8, d6x7, d6x8, d7x8, m9, m10, m11⟩ := hF
        have hst := not_yet m10 hLi
        clear hb ho hmet
        rw [if_pos (by rfl)]
        go_simp
        have bq := (Below.refl w'.heap.size w').alloc (Nat.le_refl _) (.cells #[.bool false, .slice none 0 0, .int .i64 0] 38)
        exact hK.out (.pointer (some ⟨w'.heap.size, 0, none⟩)) _ ⟨(U1.alloc U1.size _), k0, k1, k2, k3, k4, k5, (fun h => (k6 h).below bq), (fun _ => PBox.new U1.size hst), (fun h => (k8 h).below bq), (fun h _ => PBox.fresh (k6 h)), d6x8, (fun _ h => (PBox.fresh (k8 h)).symm), m9, (fun _ => rfl), m11⟩
      · intro L U w' b hF hLi hmet hb ho K hK
        obtain ⟨U1, k0, k1, k2, k3, k4, k5, k6, k7, k8, d6x7, d6x8, d7x8, m9, m10, m11⟩ := hF
        have hst := not_yet m11 hLi
        clear hb ho hmet
        rw [if_pos (by rfl)]
        go_simp
        have bq := (Below.refl w'.heap.size w').alloc (Nat.le_refl _) (.cells #[.bool false, .slice none 0 0, .int .i64 0] 38)
        exact hK.out (.pointer (some ⟨w'.heap.size, 0, none⟩)) _ ⟨(U1.alloc U1.size _), k0, k1, k2, k3, k4, k5, (fun h => (k6 h).below bq), (fun h => (k7 h).below bq), (fun _ => PBox.new U1.size hst), d6x7, (fun h _ => PBox.fresh (k6 h)), (fun h _ => PBox.fresh (k7 h)), m9, m10, (fun _ => rfl)⟩
      · intro L U w' b hF hLi hmet hb ho K hK
        obtain ⟨U1, k0, k1, k2, k3, k4, k5, k6, k7, k8, d6x7, d6x8, d7x8, m9, m10, m11⟩ := hF
        have hb_ : L 6 = true := hmet.get rfl
        have hv_ : L 1 = true := hmet.get rfl
        obtain ⟨g, eg, hg, hlt, hz, _⟩ := k6 hb_
        have ne7 : L 7 = true → U 7 ≠ .pointer (some ⟨g, 0, none⟩) := fun h e => (d6x7 hb_ h).symm (e.trans eg.symm)
        have ne8 : L 8 = true → U 8 ≠ .pointer (some ⟨g, 0, none⟩) := fun h e => (d6x8 hb_ h).symm (e.trans eg.symm)
        have Z := hz hLi
        have s7 := (hb 6 7 rfl).trans eg
        have r7 := getD_r s7
        have s26 := (hb 1 26 rfl).trans (k1 hv_)
        have r26 := getD_r s26
        have f0_ := Z.cells.1; have f1_ := Z.cells.2.1; have f2_ := Z.cells.2.2; have g0_ := Z.froz.1; have g1_ := Z.froz.2.1; have g2_ := Z.froz.2.2
        have HK := Lib.hid hK
        have HZ := Lib.hid Z
        clear hb ho hmet
        rw [if_pos (by rfl)]
        go_simp
        exact hK.out (undef) _ ⟨(Below.set3 U1 hg _ _ _), k0, k1, k2, k3, k4, k5, (fun _ => PBox.selfOf eg Z hg (sa.below U1) Lxa.out), (fun h => (k7 h).other Lxb.out Z (ne7 h) _ _ _ _ _), (fun h => (k8 h).other Lxc.out Z (ne8 h) _ _ _ _ _), d6x7, d6x8, d7x8, (fun _ => hb_), m10, m11⟩
      · intro L U w' b hF hLi hmet hb ho K hK
        obtain ⟨U1, k0, k1, k2, k3, k4, k5, k6, k7, k8, d6x7, d6x8, d7x8, m9, m10, m11⟩ := hF
        have hb_ : L 7 = true := hmet.get rfl
        have hv_ : L 3 = true := hmet.get rfl
        obtain ⟨g, eg, hg, hlt, hz, _⟩ := k7 hb_
        have ne6 : L 6 = true → U 6 ≠ .pointer (some ⟨g, 0, none⟩) := fun h e => d6x7 h hb_ (e.trans eg.symm)
        have ne8 : L 8 = true → U 8 ≠ .pointer (some ⟨g, 0, none⟩) := fun h e => (d7x8 hb_ h).symm (e.trans eg.symm)
        have Z := hz hLi
        have s8 := (hb 7 8 rfl).trans eg
        have r8 := getD_r s8
        have s28 := (hb 3 28 rfl).trans (k3 hv_)
        have r28 := getD_r s28
        have f0_ := Z.cells.1; have f1_ := Z.cells.2.1; have f2_ := Z.cells.2.2; have g0_ := Z.froz.1; have g1_ := Z.froz.2.1; have g2_ := Z.froz.2.2
        have HK := Lib.hid hK
        have HZ := Lib.hid Z
        clear hb ho hmet
        rw [if_pos (by rfl)]
        go_simp
        exact hK.out (undef) _ ⟨(Below.set3 U1 hg _ _ _), k0, k1, k2, k3, k4, k5, (fun h => (k6 h).other Lxa.out Z (ne6 h) _ _ _ _ _), (fun _ => PBox.selfOf eg Z hg (sb.below U1) Lxb.out), (fun h => (k8 h).other Lxc.out Z (ne8 h) _ _ _ _ _), d6x7, d6x8, d7x8, m9, (fun _ => hb_), m11⟩
      · intro L U w' b hF hLi hmet hb ho K hK
        obtain ⟨U1, k0, k1, k2, k3, k4, k5, k6, k7, k8, d6x7, d6x8, d7x8, m9, m10, m11⟩ := hF
        have hb_ : L 8 = true := hmet.get rfl
        have hv_ : L 5 = true := hmet.get rfl
        obtain ⟨g, eg, hg, hlt, hz, _⟩ := k8 hb_
        have ne6 : L 6 = true → U 6 ≠ .pointer (some ⟨g, 0, none⟩) := fun h e => d6x8 h hb_ (e.trans eg.symm)
        have ne7 : L 7 = true → U 7 ≠ .pointer (some ⟨g, 0, none⟩) := fun h e => d7x8 h hb_ (e.trans eg.symm)
        have Z := hz hLi
        have s9 := (hb 8 9 rfl).trans eg
        have r9 := getD_r s9
        have s30 := (hb 5 30 rfl).trans (k5 hv_)
        have r30 := getD_r s30
        have f0_ := Z.cells.1; have f1_ := Z.cells.2.1; have f2_ := Z.cells.2.2; have g0_ := Z.froz.1; have g1_ := Z.froz.2.1; have g2_ := Z.froz.2.2
        have HK := Lib.hid hK
        have HZ := Lib.hid Z
        clear hb ho hmet
        rw [if_pos (by rfl)]
        go_simp
        exact hK.out (undef) _ ⟨(Below.set3 U1 hg _ _ _), k0, k1, k2, k3, k4, k5, (fun h => (k6 h).other Lxa.out Z (ne6 h) _ _ _ _ _), (fun h => (k7 h).other Lxb.out Z (ne7 h) _ _ _ _ _), (fun _ => PBox.selfOf eg Z hg (sc.below U1) Lxc.out), d6x7, d6x8, d7x8, m9, m10, (fun _ => hb_)⟩
    case fin =>
      intro L U wx hF hall
      obtain ⟨U1, k0, k1, k2, k3, k4, k5, k6, k7, k8, d6x7, d6x8, d7x8, m9, m10, m11⟩ := hF
      obtain ⟨g6, eg6, hg6, hlt6, _, hs6⟩ := k6 (hall 6 (by decide))
      obtain ⟨qa6, ql6, qc6, Q6, qs6⟩ := hs6 (hall 9 (by decide))
      obtain ⟨g7, eg7, hg7, hlt7, _, hs7⟩ := k7 (hall 7 (by decide))
      obtain ⟨qa7, ql7, qc7, Q7, qs7⟩ := hs7 (hall 10 (by decide))
      obtain ⟨g8, eg8, hg8, hlt8, _, hs8⟩ := k8 (hall 8 (by decide))
      obtain ⟨qa8, ql8, qc8, Q8, qs8⟩ := hs8 (hall 11 (by decide))
      have kl := k8 (hall 8 (by decide))
      clear k0 k1 k2 k3 k4 k5 k6 k7 k8 d6x7 d6x8 d7x8 m9 m10 m11 hs6 hs7 hs8 hall
      simp only [fillA, Act.put, List.setIfInBounds_toArray, List.set_cons_zero, List.set_cons_succ]
      go_wp2_with fail; go_meet
      exact ⟨g6, g7, g8, qa6, ql6, qc6, qa7, ql7, qc7, qa8, ql8, qc8, eg6, eg7, eg8, Ta.below U1, sa.below U1, Tb.below U1, sb.below U1, Tc.below U1, sc.below U1, Q6, qs6, Q7, qs7, Q8, qs8, U0.trans (U1.mono U0.size)⟩
  case rest =>
    obtain ⟨hx, hy, hz, px, qx, rx, py, qy, ry, pz, qz, rz, rfl, rfl, rfl, Ta, sa, Tb, sb, Tc, sc, Tx, sx, Ty, sy, Tz, sz, U0⟩ := hcut
    have cTa0 := Ta.cells.1
    have cTa1 := Ta.cells.2
    have zTa := Ta.lt
    have cTb0 := Tb.cells.1
    have cTb1 := Tb.cells.2
    have zTb := Tb.lt
    have cTc0 := Tc.cells.1
    have cTc1 := Tc.cells.2
    have zTc := Tc.lt
    have cTx0 := Tx.cells.1
    have cTx1 := Tx.cells.2.1
    have cTx2 := Tx.cells.2.2
    have zTx := Tx.lt
    have cTy0 := Ty.cells.1
    have cTy1 := Ty.cells.2.1
    have cTy2 := Ty.cells.2.2
    have zTy := Ty.lt
    have cTz0 := Tz.cells.1
    have cTz1 := Tz.cells.2.1
    have cTz2 := Tz.cells.2.2
    have zTz := Tz.lt
    clear Hr Lxa Lxb Lxc
    go_upto_region 6 with (fail)
    go_cut [76] (fun sl wx => sl = .bool false ∧ RingCut w (w.heap.size) (w.heap.size + 1) (w.heap.size + 1 + 1) na aa la ca xa nb ab lb cb xb nc ac lc cc xc hx hy hz px qx rx py qy ry pz qz rz wx)
    case first => as_aux_lemma =>
      clear cTa0 cTa1 zTa cTb0 cTb1 zTb cTc0 cTc1 zTc cTx0 cTx1 cTx2 zTx cTy0 cTy1 cTy2 zTy cTz0 cTz1 cTz2 zTz
      clear C9 C10 C11 C12 C13 C14 C15 A5 O0 O1 Sa S0 Sb_ Ng HNa HNb
      refine region_kept 46 [some 31, some 32, some 33, some 34, some 35, some 36, some 37, some 38, some 39, some 40, some 41, some 42, some 43, some 44, some 45, some 46, some 47, some 48, some 49, some 50, some 51, some 52, some 53, some 54, some 55, some 56, some 57, some 58, some 59, some 60, some 61, some 62, some 63, some 64, some 65, some 66, some 67, some 68, some 69, some 70, some 71, some 72, some 73, some 74, some 75, some 76] (fun U => [U 0, U 1, U 2, U 3, U 4, U 5, U 6, U 7, U 8, U 9, U 10, U 11, U 12, U 13, U 14, U 15, U 16, U 17, U 18, U 19, U 20, U 21, U 22, U 23, U 24, U 25, U 26, U 27, U 28, U 29, U 30, U 31, U 32, U 33, U 34, U 35, U 36, U 37, U 38, U 39, U 40, U 41, U 42, U 43, U 44, U 45]) (fun L U w' => Below (wc).heap.size (wc) w' ∧ (L 0 = true → U 0 = .agg #[.bool na, .slice px qx rx, .int .i64 0]) ∧ (L 1 = true → U 1 = .agg #[.bool nb, .slice py qy ry, .int .i64 0]) ∧ (L 2 = true → HasP w' (U 2) (nv1) (xv1) (ev1)) ∧ (L 3 = true → U 3 = .agg #[.bool nb, .slice py qy ry, .int .i64 0]) ∧ (L 4 = true → U 4 = .agg #[.bool na, .slice px qx rx, .int .i64 0]) ∧ (L 5 = true → HasP w' (U 5) (nv1) (xv1) (ev1)) ∧ (L 6 = true → U 6 = .bool true) ∧ (L 7 = true → U 7 = .bool false) ∧ (L 8 = true → U 8 = .bool false) ∧ (L 9 = true → U 9 = .agg #[.bool na, .slice px qx rx, .int .i64 0]) ∧ (L 10 = true → U 10 = .agg #[.bool nb, .slice py qy ry, .int .i64 0]) ∧ (L 11 = true → HasP w' (U 11) (nv2) (xv2) (ev2)) ∧ (L 12 = true → U 12 = .agg #[.bool nb, .slice py qy ry, .int .i64 0]) ∧ (L 13 = true → U 13 = .agg #[.bool na, .slice px qx rx, .int .i64 0]) ∧ (L 14 = true → HasP w' (U 14) (nv2) (xv2) (ev2)) ∧ (L 15 = true → U 15 = .bool true) ∧ (L 16 = true → U 16 = .bool false) ∧ (L 17 = true → U 17 = .bool false) ∧ (L 18 = true → U 18 = .bool false) ∧ (L 19 = true → U 19 = .agg #[.bool na, .slice px qx rx, .int .i64 0]) ∧ (L 20 = true → U 20 = .agg #[.bool nb, .slice py qy ry, .int .i64 0]) ∧ (L 21 = true → HasP w' (U 21) (nv1) (xv1) (ev1)) ∧ (L 22 = true → U 22 = .agg #[.bool nc, .slice pz qz rz, .int .i64 0]) ∧ (L 23 = true → HasP w' (U 23) (nv3) (xv3) (ev3)) ∧ (L 24 = true → U 24 = .agg #[.bool na, .slice px qx rx, .int .i64 0]) ∧ (L 25 = true → U 25 = .agg #[.bool nb, .slice py qy ry, .int .i64 0]) ∧ (L 26 = true → U 26 = .agg #[.bool nc, .slice pz qz rz, .int .i64 0]) ∧ (L 27 = true → HasP w' (U 27) (nv4) (xv4) (ev4)) ∧ (L 28 = true → HasP w' (U 28) (nv5) (xv5) (ev5)) ∧ (L 29 = true → U 29 = .bool true) ∧ (L 30 = true → U 30 = .bool false) ∧ (L 31 = true → U 31 = .bool false) ∧ (L 32 = true → U 32 = .bool false) ∧ (L 33 = true → U 33 = .agg #[.bool na, .slice px qx rx, .int .i64 0]) ∧ (L 34 = true → U 34 = .agg #[.bool nb, .slice py qy ry, .int .i64 0]) ∧ (L 35 = true → HasP w' (U 35) (nv2) (xv2) (ev2)) ∧ (L 36 = true → U 36 = .agg #[.bool nc, .slice pz qz rz, .int .i64 0]) ∧ (L 37 = true → HasP w' (U 37) (nv6) (xv6) (ev6)) ∧ (L 38 = true → U 38 = .agg #[.bool na, .slice px qx rx, .int .i64 0]) ∧ (L 39 = true → U 39 = .agg #[.bool nb, .slice py qy ry, .int .i64 0]) ∧ (L 40 = true → U 40 = .agg #[.bool nc, .slice pz qz rz, .int .i64 0]) ∧ (L 41 = true → HasP w' (U 41) (nv7) (xv7) (ev7)) ∧ (L 42 = true → HasP w' (U 42) (nv8) (xv8) (ev8)) ∧ (L 43 = true → U 43 = .bool true) ∧ (L 44 = true → U 44 = .bool false) ∧ (L 45 = true → U 45 = .bool false)) rfl rfl (fun _ => rfl) rfl (by kernel_rfl) (by kernel_rfl) (by kernel_rfl) ?start ?step ?fin
      case start =>
        intro U
        exact ⟨(Below.refl _ _).drew, (by intro h; cases h), (by intro h; cases h), (by intro h; cases h), (by intro h; cases h), (by intro h; cases h), (by intro h; cases h), (by intro h; cases h), (by intro h; cases h), (by intro h; cases h), (by intro h; cases h), (by intro h; cases h), (by intro h; cases h), (by intro h; cases h), (by intro h; cases h), (by intro h; cases h), (by intro h; cases h), (by intro h; cases h), (by intro h; cases h), (by intro h; cases h), (by intro h; cases h), (by intro h; cases h), (by intro h; cases h), (by intro h; cases h), (by intro h; cases h), (by intro h; cases h), (by intro h; cases h), (by intro h; cases h), (by intro h; cases h), (by intro h; cases h), (by intro h; cases h), (by intro h; cases h), (by intro h; cases h), (by intro h; cases h), (by intro h; cases h), (by intro h; cases h), (by intro h; cases h), (by intro h; cases h), (by intro h; cases h), (by intro h; cases h), (by intro h; cases h), (by intro h; cases h), (by intro h; cases h), (by intro h; cases h), (by intro h; cases h), (by intro h; cases h), (by intro h; cases h)⟩
      case step =>
        refine ⟨?_, ?_, ?_, ?_, ?_, ?_, ?_, ?_, ?_, ?_, ?_, ?_, ?_, ?_, ?_, ?_, ?_, ?_, ?_, ?_, ?_, ?_, ?_, ?_, ?_, ?_, ?_, ?_, ?_, ?_, ?_, ?_, ?_, ?_, ?_, ?_, ?_, ?_, ?_, ?_, ?_, ?_, ?_, ?_, ?_, ?_, trivial⟩
        · intro L U w' b hF hLi hmet hb ho K hK
          obtain ⟨U1, k0, k1, k2, k3, k4, k5, k6, k7, k8, k9, k10, k11, k12, k13, k14, k15, k16, k17, k18, k19, k20, k21, k22, k23, k24, k25, k26, k27, k28, k29, k30, k31, k32, k33, k34, k35, k36, k37, k38, k39, k40, k41, k42, k43, k44, k45⟩ := hF
          have s7 : b.tmps.getD 7 undef = .pointer (some ⟨hx, 0, none⟩) := (ho 7 rfl).trans rfl
          have r7 := getD_r s7
          have t0_ := (Tx.below U1).cells.1
          have t1_ := (Tx.below U1).cells.2.1
          have t2_ := (Tx.below U1).cells.2.2
          clear hb ho hmet
          rw [if_pos (by rfl)]
          go_simp
          exact hK.out (.agg #[.bool na, .slice px qx rx, .int .i64 0]) w' ⟨U1, (fun _ => rfl), k1, k2, k3, k4, k5, k6, k7, k8, k9, k10, k11, k12, k13, k14, k15, k16, k17, k18, k19, k20, k21, k22, k23, k24, k25, k26, k27, k28, k29, k30, k31, k32, k33, k34, k35, k36, k37, k38, k39, k40, k41, k42, k43, k44, k45⟩
        · intro L U w' b hF hLi hmet hb ho K hK
          obtain ⟨U1, k0, k1, k2, k3, k4, k5, k6, k7, k8, k9, k10, k11, k12, k13, k14, k15, k16, k17, k18, k19, k20, k21, k22, k23, k24, k25, k26, k27, k28, k29, k30, k31, k32, k33, k34, k35, k36, k37, k38, k39, k40, k41, k42, k43, k44, k45⟩ := hF
          have s8 : b.tmps.getD 8 undef = .pointer (some ⟨hy, 0, none⟩) := (ho 8 rfl).trans rfl
          have r8 := getD_r s8
          have t0_ := (Ty.below U1).cells.1
          have t1_ := (Ty.below U1).cells.2.1
          have t2_ := (Ty.below U1).cells.2.2
          clear hb ho hmet
          rw [if_pos (by rfl)]
          go_simp
          exact hK.out (.agg #[.bool nb, .slice py qy ry, .int .i64 0]) w' ⟨U1, k0, (fun _ => rfl), k2, k3, k4, k5, k6, k7, k8, k9, k10, k11, k12, k13, k14, k15, k16, k17, k18, k19, k20, k21, k22, k23, k24, k25, k26, k27, k28, k29, k30, k31, k32, k33, k34, k35, k36, k37, k38, k39, k40, k41, k42, k43, k44, k45⟩
        · intro L U w' b hF hLi hmet hb ho K hK
          obtain ⟨U1, k0, k1, k2, k3, k4, k5, k6, k7, k8, k9, k10, k11, k12, k13, k14, k15, k16, k17, k18, k19, k20, k21, k22, k23, k24, k25, k26, k27, k28, k29, k30, k31, k32, k33, k34, k35, k36, k37, k38, k39, k40, k41, k42, k43, k44, k45⟩ := hF
          have s31 := (hb 0 31 rfl).trans (k0 (hmet.get rfl))
          have r31 := getD_r s31
          have s32 := (hb 1 32 rfl).trans (k1 (hmet.get rfl))
          have r32 := getD_r s32
          clear hb ho hmet
          rw [if_pos (by rfl)]
          go_simp
          go_at_call 67
          (with_reducible refine (C1.out _ _ _ _ _ _ _ (by exact (sx.below U1)) (by exact (sy.below U1))).mono ?_)
          rintro e_ wq ⟨ra, rl, rc, rfl, rs, bq⟩
          exact hK.out (.agg #[.bool nv1, .slice ra rl rc, .int .i64 ev1]) wq ⟨(U1.trans (bq.mono U1.size)), k0, k1, (fun _ => ⟨ra, rl, rc, rfl, rs⟩), k3, k4, (fun h => (k5 h).below bq), k6, k7, k8, k9, k10, (fun h => (k11 h).below bq), k12, k13, (fun h => (k14 h).below bq), k15, k16, k17, k18, k19, k20, (fun h => (k21 h).below bq), k22, (fun h => (k23 h).below bq), k24, k25, k26, (fun h => (k27 h).below bq), (fun h => (k28 h).below bq), k29, k30, k31, k32, k33, k34, (fun h => (k35 h).below bq), k36, (fun h => (k37 h).below bq), k38, k39, k40, (fun h => (k41 h).below bq), (fun h => (k42 h).below bq), k43, k44, k45⟩
        · intro L U w' b hF hLi hmet hb ho K hK
          obtain ⟨U1, k0, k1, k2, k3, k4, k5, k6, k7, k8, k9, k10, k11, k12, k13, k14, k15, k16, k17, k18, k19, k20, k21, k22, k23, k24, k25, k26, k27, k28, k29, k30, k31, k32, k33, k34, k35, k36, k37, k38, k39, k40, k41, k42, k43, k44, k45⟩ := hF
          have s8 : b.tmps.getD 8 undef = .pointer (some ⟨hy, 0, none⟩) := (ho 8 rfl).trans rfl
          have r8 := getD_r s8
          have t0_ := (Ty.below U1).cells.1
          have t1_ := (Ty.below U1).cells.2.1
          have t2_ := (Ty.below U1).cells.2.2
          clear hb ho hmet
          rw [if_pos (by rfl)]
          go_simp
          exact hK.out (.agg #[.bool nb, .slice py qy ry, .int .i64 0]) w' ⟨U1, k0, k1, k2, (fun _ => rfl), k4, k5, k6, k7, k8, k9, k10, k11, k12, k13, k14, k15, k16, k17, k18, k19, k20, k21, k22, k23, k24, k25, k26, k27, k28, k29, k30, k31, k32, k33, k34, k35, k36, k37, k38, k39, k40, k41, k42, k43, k44, k45⟩
        · intro L U w' b hF hLi hmet hb ho K hK
          obtain ⟨U1, k0, k1, k2, k3, k4, k5, k6, k7, k8, k9, k10, k11, k12, k13, k14, k15, k16, k17, k18, k19, k20, k21, k22, k23, k24, k25, k26, k27, k28, k29, k30, k31, k32, k33, k34, k35, k36, k37, k38, k39, k40, k41, k42, k43, k44, k45⟩ := hF
          have s7 : b.tmps.getD 7 undef = .pointer (some ⟨hx, 0, none⟩) := (ho 7 rfl).trans rfl
          have r7 := getD_r s7
          have t0_ := (Tx.below U1).cells.1
          have t1_ := (Tx.below U1).cells.2.1
          have t2_ := (Tx.below U1).cells.2.2
          clear hb ho hmet
          rw [if_pos (by rfl)]
          go_simp
          exact hK.out (.agg #[.bool na, .slice px qx rx, .int .i64 0]) w' ⟨U1, k0, k1, k2, k3, (fun _ => rfl), k5, k6, k7, k8, k9, k10, k11, k12, k13, k14, k15, k16, k17, k18, k19, k20, k21, k22, k23, k24, k25, k26, k27, k28, k29, k30, k31, k32, k33, k34, k35, k36, k37, k38, k39, k40, k41, k42, k43, k44, k45⟩
        · intro L U w' b hF hLi hmet hb ho K hK
          obtain ⟨U1, k0, k1, k2, k3, k4, k5, k6, k7, k8, k9, k10, k11, k12, k13, k14, k15, k16, k17, k18, k19, k20, k21, k22, k23, k24, k25, k26, k27, k28, k29, k30, k31, k32, k33, k34, k35, k36, k37, k38, k39, k40, k41, k42, k43, k44, k45⟩ := hF
          have s34 := (hb 3 34 rfl).trans (k3 (hmet.get rfl))
          have r34 := getD_r s34
          have s35 := (hb 4 35 rfl).trans (k4 (hmet.get rfl))
          have r35 := getD_r s35
          clear hb ho hmet
          rw [if_pos (by rfl)]
          go_simp
          go_at_call 67
          (with_reducible refine (C1b.out _ _ _ _ _ _ _ (by exact (sy.below U1)) (by exact (sx.below U1))).mono ?_)
          rintro e_ wq ⟨ra, rl, rc, rfl, rs, bq⟩
          exact hK.out (.agg #[.bool nv1, .slice ra rl rc, .int .i64 ev1]) wq ⟨(U1.trans (bq.mono U1.size)), k0, k1, (fun h => (k2 h).below bq), k3, k4, (fun _ => ⟨ra, rl, rc, rfl, rs⟩), k6, k7, k8, k9, k10, (fun h => (k11 h).below bq), k12, k13, (fun h => (k14 h).below bq), k15, k16, k17, k18, k19, k20, (fun h => (k21 h).below bq), k22, (fun h => (k23 h).below bq), k24, k25, k26, (fun h => (k27 h).below bq), (fun h => (k28 h).below bq), k29, k30, k31, k32, k33, k34, (fun h => (k35 h).below bq), k36, (fun h => (k37 h).below bq), k38, k39, k40, (fun h => (k41 h).below bq), (fun h => (k42 h).below bq), k43, k44, k45⟩
        · intro L U w' b hF hLi hmet hb ho K hK
          obtain ⟨U1, k0, k1, k2, k3, k4, k5, k6, k7, k8, k9, k10, k11, k12, k13, k14, k15, k16, k17, k18, k19, k20, k21, k22, k23, k24, k25, k26, k27, k28, k29, k30, k31, k32, k33, k34, k35, k36, k37, k38, k39, k40, k41, k42, k43, k44, k45⟩ := hF
          obtain ⟨pa2, pl2, pc2, pe2, ps2⟩ := k2 (hmet.get rfl)
          have s33 := (hb 2 33 rfl).trans pe2
          have r33 := getD_r s33
          obtain ⟨pa5, pl5, pc5, pe5, ps5⟩ := k5 (hmet.get rfl)
          have s36 := (hb 5 36 rfl).trans pe5
          have r36 := getD_r s36
          clear hb ho hmet
          rw [if_pos (by rfl)]
          go_simp
          go_at_call 66
          (with_reducible refine (A1.out _ _ _ _ _ _ _ (by exact ps2) (by exact ps5)).mono ?_)
          rintro e_ wq ⟨rfl, bq⟩
          exact hK.out (.bool true) wq ⟨(U1.trans (bq.mono U1.size)), k0, k1, (fun h => (k2 h).below bq), k3, k4, (fun h => (k5 h).below bq), (fun _ => rfl), k7, k8, k9, k10, (fun h => (k11 h).below bq), k12, k13, (fun h => (k14 h).below bq), k15, k16, k17, k18, k19, k20, (fun h => (k21 h).below bq), k22, (fun h => (k23 h).below bq), k24, k25, k26, (fun h => (k27 h).below bq), (fun h => (k28 h).below bq), k29, k30, k31, k32, k33, k34, (fun h => (k35 h).below bq), k36, (fun h => (k37 h).below bq), k38, k39, k40, (fun h => (k41 h).below bq), (fun h => (k42 h).below bq), k43, k44, k45⟩
        · intro L U w' b hF hLi hmet hb ho K hK
          obtain ⟨U1, k0, k1, k2, k3, k4, k5, k6, k7, k8, k9, k10, k11, k12, k13, k14, k15, k16, k17, k18, k19, k20, k21, k22, k23, k24, k25, k26, k27, k28, k29, k30, k31, k32, k33, k34, k35, k36, k37, k38, k39, k40, k41, k42, k43, k44, k45⟩ := hF
          have s37 := (hb 6 37 rfl).trans (k6 (hmet.get rfl))
          have r37 := getD_r s37
          clear hb ho hmet
          rw [if_pos (by rfl)]
          go_simp
          exact hK.out (.bool false) w' ⟨U1, k0, k1, k2, k3, k4, k5, k6, (fun _ => rfl), k8, k9, k10, k11, k12, k13, k14, k15, k16, k17, k18, k19, k20, k21, k22, k23, k24, k25, k26, k27, k28, k29, k30, k31, k32, k33, k34, k35, k36, k37, k38, k39, k40, k41, k42, k43, k44, k45⟩
        · intro L U w' b hF hLi hmet hb ho K hK
          obtain ⟨U1, k0, k1, k2, k3, k4, k5, k6, k7, k8, k9, k10, k11, k12, k13, k14, k15, k16, k17, k18, k19, k20, k21, k22, k23, k24, k25, k26, k27, k28, k29, k30, k31, k32, k33, k34, k35, k36, k37, k38, k39, k40, k41, k42, k43, k44, k45⟩ := hF
          have s38 := (hb 7 38 rfl).trans (k7 (hmet.get rfl))
          have r38 := getD_r s38
          clear hb ho hmet
          rw [if_pos (by rfl)]
          go_simp
          exact hK.out (.bool false) w' ⟨U1, k0, k1, k2, k3, k4, k5, k6, k7, (fun _ => rfl), k9, k10, k11, k12, k13, k14, k15, k16, k17, k18, k19, k20, k21, k22, k23, k24, k25, k26, k27, k28, k29, k30, k31, k32, k33, k34, k35, k36, k37, k38, k39, k40, k41, k42, k43, k44, k45⟩
        · intro L U w' b hF hLi hmet hb ho K hK
          obtain ⟨U1, k0, k1, k2, k3, k4, k5, k6, k7, k8, k9, k10, k11, k12, k13, k14, k15, k16, k17, k18, k19, k20, k21, k22, k23, k24, k25, k26, k27, k28, k29, k30, k31, k32, k33, k34, k35, k36, k37, k38, k39, k40, k41, k42, k43, k44, k45⟩ := hF
          have s39 := (hb 8 39 rfl).trans (k8 (hmet.get rfl))
          have r39 := getD_r s39
          have s7 : b.tmps.getD 7 undef = .pointer (some ⟨hx, 0, none⟩) := (ho 7 rfl).trans rfl
          have r7 := getD_r s7
          have t0_ := (Tx.below U1).cells.1
          have t1_ := (Tx.below U1).cells.2.1
          have t2_ := (Tx.below U1).cells.2.2
          clear hb ho hmet
          rw [if_pos (wants rfl rfl s39)]
          go_simp
          exact hK.out (.agg #[.bool na, .slice px qx rx, .int .i64 0]) w' ⟨U1, k0, k1, k2, k3, k4, k5, k6, k7, k8, (fun _ => rfl), k10, k11, k12, k13, k14, k15, k16, k17, k18, k19, k20, k21, k22, k23, k24, k25, k26, k27, k28, k29, k30, k31, k32, k33, k34, k35, k36, k37, k38, k39, k40, k41, k42, k43, k44, k45⟩
        · intro L U w' b hF hLi hmet hb ho K hK
          obtain ⟨U1, k0, k1, k2, k3, k4, k5, k6, k7, k8, k9, k10, k11, k12, k13, k14, k15, k16, k17, k18, k19, k20, k21, k22, k23, k24, k25, k26, k27, k28, k29, k30, k31, k32, k33, k34, k35, k36, k37, k38, k39, k40, k41, k42, k43, k44, k45⟩ := hF
          have s39 := (hb 8 39 rfl).trans (k8 (hmet.get rfl))
          have r39 := getD_r s39
          have s8 : b.tmps.getD 8 undef = .pointer (some ⟨hy, 0, none⟩) := (ho 8 rfl).trans rfl
          have r8 := getD_r s8
          have t0_ := (Ty.below U1).cells.1
          have t1_ := (Ty.below U1).cells.2.1
          have t2_ := (Ty.below U1).cells.2.2
          clear hb ho hmet
          rw [if_pos (wants rfl rfl s39)]
          go_simp
          exact hK.out (.agg #[.bool nb, .slice py qy ry, .int .i64 0]) w' ⟨U1, k0, k1, k2, k3, k4, k5, k6, k7, k8, k9, (fun _ => rfl), k11, k12, k13, k14, k15, k16, k17, k18, k19, k20, k21, k22, k23, k24, k25, k26, k27, k28, k29, k30, k31, k32, k33, k34, k35, k36, k37, k38, k39, k40, k41, k42, k43, k44, k45⟩
        · intro L U w' b hF hLi hmet hb ho K hK
          obtain ⟨U1, k0, k1, k2, k3, k4, k5, k6, k7, k8, k9, k10, k11, k12, k13, k14, k15, k16, k17, k18, k19, k20, k21, k22, k23, k24, k25, k26, k27, k28, k29, k30, k31, k32, k33, k34, k35, k36, k37, k38, k39, k40, k41, k42, k43, k44, k45⟩ := hF
          have s39 := (hb 8 39 rfl).trans (k8 (hmet.get rfl))
          have r39 := getD_r s39
          have s40 := (hb 9 40 rfl).trans (k9 (hmet.get rfl))
          have r40 := getD_r s40
          have s41 := (hb 10 41 rfl).trans (k10 (hmet.get rfl))
          have r41 := getD_r s41
          clear hb ho hmet
          rw [if_pos (wants rfl rfl s39)]
          go_simp
          go_at_call 68
          (with_reducible refine (C2.out _ _ _ _ _ _ _ (by exact (sx.below U1)) (by exact (sy.below U1))).mono ?_)
          rintro e_ wq ⟨ra, rl, rc, rfl, rs, bq⟩
          exact hK.out (.agg #[.bool nv2, .slice ra rl rc, .int .i64 ev2]) wq ⟨(U1.trans (bq.mono U1.size)), k0, k1, (fun h => (k2 h).below bq), k3, k4, (fun h => (k5 h).below bq), k6, k7, k8, k9, k10, (fun _ => ⟨ra, rl, rc, rfl, rs⟩), k12, k13, (fun h => (k14 h).below bq), k15, k16, k17, k18, k19, k20, (fun h => (k21 h).below bq), k22, (fun h => (k23 h).below bq), k24, k25, k26, (fun h => (k27 h).below bq), (fun h => (k28 h).below bq), k29, k30, k31, k32, k33, k34, (fun h => (k35 h).below bq), k36, (fun h => (k37 h).below bq), k38, k39, k40, (fun h => (k41 h).below bq), (fun h => (k42 h).below bq), k43, k44, k45⟩
        · intro L U w' b hF hLi hmet hb ho K hK
          obtain ⟨U1, k0, k1, k2, k3, k4, k5, k6, k7, k8, k9, k10, k11, k12, k13, k14, k15, k16, k17, k18, k19, k20, k21, k22, k23, k24, k25, k26, k27, k28, k29, k30, k31, k32, k33, k34, k35, k36, k37, k38, k39, k40, k41, k42, k43, k44, k45⟩ := hF
          have s39 := (hb 8 39 rfl).trans (k8 (hmet.get rfl))
          have r39 := getD_r s39
          have s8 : b.tmps.getD 8 undef = .pointer (some ⟨hy, 0, none⟩) := (ho 8 rfl).trans rfl
          have r8 := getD_r s8
          have t0_ := (Ty.below U1).cells.1
          have t1_ := (Ty.below U1).cells.2.1
          have t2_ := (Ty.below U1).cells.2.2
          clear hb ho hmet
          rw [if_pos (wants rfl rfl s39)]
          go_simp
          exact hK.out (.agg #[.bool nb, .slice py qy ry, .int .i64 0]) w' ⟨U1, k0, k1, k2, k3, k4, k5, k6, k7, k8, k9, k10, k11, (fun _ => rfl), k13, k14, k15, k16, k17, k18, k19, k20, k21, k22, k23, k24, k25, k26, k27, k28, k29, k30, k31, k32, k33, k34, k35, k36, k37, k38, k39, k40, k41, k42, k43, k44, k45⟩
        · intro L U w' b hF hLi hmet hb ho K hK
          obtain ⟨U1, k0, k1, k2, k3, k4, k5, k6, k7, k8, k9, k10, k11, k12, k13, k14, k15, k16, k17, k18, k19, k20, k21, k22, k23, k24, k25, k26, k27, k28, k29, k30, k31, k32, k33, k34, k35, k36, k37, k38, k39, k40, k41, k42, k43, k44, k45⟩ := hF
          have s39 := (hb 8 39 rfl).trans (k8 (hmet.get rfl))
          have r39 := getD_r s39
          have s7 : b.tmps.getD 7 undef = .pointer (some ⟨hx, 0, none⟩) := (ho 7 rfl).trans rfl
          have r7 := getD_r s7
          have t0_ := (Tx.below U1).cells.1
          have t1_ := (Tx.below U1).cells.2.1
          have t2_ := (Tx.below U1).cells.2.2
          clear hb ho hmet
          rw [if_pos (wants rfl rfl s39)]
          go_simp
          exact hK.out (.agg #[.bool na, .slice px qx rx, .int .i64 0]) w' ⟨U1, k0, k1, k2, k3, k4, k5, k6, k7, k8, k9, k10, k11, k12, (fun _ => rfl), k14, k15, k16, k17, k18, k19, k20, k21, k22, k23, k24, k25, k26, k27, k28, k29, k30, k31, k32, k33, k34, k35, k36, k37, k38, k39, k40, k41, k42, k43, k44, k45⟩
        · intro L U w' b hF hLi hmet hb ho K hK
          obtain ⟨U1, k0, k1, k2, k3, k4, k5, k6, k7, k8, k9, k10, k11, k12, k13, k14, k15, k16, k17, k18, k19, k20, k21, k22, k23, k24, k25, k26, k27, k28, k29, k30, k31, k32, k33, k34, k35, k36, k37, k38, k39, k40, k41, k42, k43, k44, k45⟩ := hF
          have s39 := (hb 8 39 rfl).trans (k8 (hmet.get rfl))
          have r39 := getD_r s39
          have s43 := (hb 12 43 rfl).trans (k12 (hmet.get rfl))
          have r43 := getD_r s43
          have s44 := (hb 13 44 rfl).trans (k13 (hmet.get rfl))
          have r44 := getD_r s44
          clear hb ho hmet
          rw [if_pos (wants rfl rfl s39)]
          go_simp
          go_at_call 68
          (with_reducible refine (C2b.out _ _ _ _ _ _ _ (by exact (sy.below U1)) (by exact (sx.below U1))).mono ?_)
          rintro e_ wq ⟨ra, rl, rc, rfl, rs, bq⟩
          exact hK.out (.agg #[.bool nv2, .slice ra rl rc, .int .i64 ev2]) wq ⟨(U1.trans (bq.mono U1.size)), k0, k1, (fun h => (k2 h).below bq), k3, k4, (fun h => (k5 h).below bq), k6, k7, k8, k9, k10, (fun h => (k11 h).below bq), k12, k13, (fun _ => ⟨ra, rl, rc, rfl, rs⟩), k15, k16, k17, k18, k19, k20, (fun h => (k21 h).below bq), k22, (fun h => (k23 h).below bq), k24, k25, k26, (fun h => (k27 h).below bq), (fun h => (k28 h).below bq), k29, k30, k31, k32, k33, k34, (fun h => (k35 h).below bq), k36, (fun h => (k37 h).below bq), k38, k39, k40, (fun h => (k41 h).below bq), (fun h => (k42 h).below bq), k43, k44, k45⟩
        · intro L U w' b hF hLi hmet hb ho K hK
          obtain ⟨U1, k0, k1, k2, k3, k4, k5, k6, k7, k8, k9, k10, k11, k12, k13, k14, k15, k16, k17, k18, k19, k20, k21, k22, k23, k24, k25, k26, k27, k28, k29, k30, k31, k32, k33, k34, k35, k36, k37, k38, k39, k40, k41, k42, k43, k44, k45⟩ := hF
          have s39 := (hb 8 39 rfl).trans (k8 (hmet.get rfl))
          have r39 := getD_r s39
          obtain ⟨pa11, pl11, pc11, pe11, ps11⟩ := k11 (hmet.get rfl)
          have s42 := (hb 11 42 rfl).trans pe11
          have r42 := getD_r s42
          obtain ⟨pa14, pl14, pc14, pe14, ps14⟩ := k14 (hmet.get rfl)
          have s45 := (hb 14 45 rfl).trans pe14
          have r45 := getD_r s45
          clear hb ho hmet
          rw [if_pos (wants rfl rfl s39)]
          go_simp
          go_at_call 66
          (with_reducible refine (A2.out _ _ _ _ _ _ _ (by exact ps11) (by exact ps14)).mono ?_)
          rintro e_ wq ⟨rfl, bq⟩
          exact hK.out (.bool true) wq ⟨(U1.trans (bq.mono U1.size)), k0, k1, (fun h => (k2 h).below bq), k3, k4, (fun h => (k5 h).below bq), k6, k7, k8, k9, k10, (fun h => (k11 h).below bq), k12, k13, (fun h => (k14 h).below bq), (fun _ => rfl), k16, k17, k18, k19, k20, (fun h => (k21 h).below bq), k22, (fun h => (k23 h).below bq), k24, k25, k26, (fun h => (k27 h).below bq), (fun h => (k28 h).below bq), k29, k30, k31, k32, k33, k34, (fun h => (k35 h).below bq), k36, (fun h => (k37 h).below bq), k38, k39, k40, (fun h => (k41 h).below bq), (fun h => (k42 h).below bq), k43, k44, k45⟩
        · intro L U w' b hF hLi hmet hb ho K hK
          obtain ⟨U1, k0, k1, k2, k3, k4, k5, k6, k7, k8, k9, k10, k11, k12, k13, k14, k15, k16, k17, k18, k19, k20, k21, k22, k23, k24, k25, k26, k27, k28, k29, k30, k31, k32, k33, k34, k35, k36, k37, k38, k39, k40, k41, k42, k43, k44, k45⟩ := hF
          have s39 := (hb 8 39 rfl).trans (k8 (hmet.get rfl))
          have r39 := getD_r s39
          have s46 := (hb 15 46 rfl).trans (k15 (hmet.get rfl))
          have r46 := getD_r s46
          clear hb ho hmet
          rw [if_pos (wants rfl rfl s39)]
          go_simp
          exact hK.out (.bool false) w' ⟨U1, k0, k1, k2, k3, k4, k5, k6, k7, k8, k9, k10, k11, k12, k13, k14, k15, (fun _ => rfl), k17, k18, k19, k20, k21, k22, k23, k24, k25, k26, k27, k28, k29, k30, k31, k32, k33, k34, k35, k36, k37, k38, k39, k40, k41, k42, k43, k44, k45⟩
        · intro L U w' b hF hLi hmet hb ho K hK
          obtain ⟨U1, k0, k1, k2, k3, k4, k5, k6, k7, k8, k9, k10, k11, k12, k13, k14, k15, k16, k17, k18, k19, k20, k21, k22, k23, k24, k25, k26, k27, k28, k29, k30, k31, k32, k33, k34, k35, k36, k37, k38, k39, k40, k41, k42, k43, k44, k45⟩ := hF
          have s39 := (hb 8 39 rfl).trans (k8 (hmet.get rfl))
          have r39 := getD_r s39
          have s47 := (hb 16 47 rfl).trans (k16 (hmet.get rfl))
          have r47 := getD_r s47
          clear hb ho hmet
          rw [if_pos (by rfl)]
          go_simp
          exact hK.out (.bool false) w' ⟨U1, k0, k1, k2, k3, k4, k5, k6, k7, k8, k9, k10, k11, k12, k13, k14, k15, k16, (fun _ => rfl), k18, k19, k20, k21, k22, k23, k24, k25, k26, k27, k28, k29, k30, k31, k32, k33, k34, k35, k36, k37, k38, k39, k40, k41, k42, k43, k44, k45⟩
        · intro L U w' b hF hLi hmet hb ho K hK
          obtain ⟨U1, k0, k1, k2, k3, k4, k5, k6, k7, k8, k9, k10, k11, k12, k13, k14, k15, k16, k17, k18, k19, k20, k21, k22, k23, k24, k25, k26, k27, k28, k29, k30, k31, k32, k33, k34, k35, k36, k37, k38, k39, k40, k41, k42, k43, k44, k45⟩ := hF
          have s48 := (hb 17 48 rfl).trans (k17 (hmet.get rfl))
          have r48 := getD_r s48
          clear hb ho hmet
          rw [if_pos (by rfl)]
          go_simp
          exact hK.out (.bool false) w' ⟨U1, k0, k1, k2, k3, k4, k5, k6, k7, k8, k9, k10, k11, k12, k13, k14, k15, k16, k17, (fun _ => rfl), k19, k20, k21, k22, k23, k24, k25, k26, k27, k28, k29, k30, k31, k32, k33, k34, k35, k36, k37, k38, k39, k40, k41, k42, k43, k44, k45⟩
        · intro L U w' b hF hLi hmet hb ho K hK
          obtain ⟨U1, k0, k1, k2, k3, k4, k5, k6, k7, k8, k9, k10, k11, k12, k13, k14, k15, k16, k17, k18, k19, k20, k21, k22, k23, k24, k25, k26, k27, k28, k29, k30, k31, k32, k33, k34, k35, k36, k37, k38, k39, k40, k41, k42, k43, k44, k45⟩ := hF
          have s49 := (hb 18 49 rfl).trans (k18 (hmet.get rfl))
          have r49 := getD_r s49
          have s7 : b.tmps.getD 7 undef = .pointer (some ⟨hx, 0, none⟩) := (ho 7 rfl).trans rfl
          have r7 := getD_r s7
          have t0_ := (Tx.below U1).cells.1
          have t1_ := (Tx.below U1).cells.2.1
          have t2_ := (Tx.below U1).cells.2.2
          clear hb ho hmet
          rw [if_pos (wants rfl rfl s49)]
          go_simp
          exact hK.out (.agg #[.bool na, .slice px qx rx, .int .i64 0]) w' ⟨U1, k0, k1, k2, k3, k4, k5, k6, k7, k8, k9, k10, k11, k12, k13, k14, k15, k16, k17, k18, (fun _ => rfl), k20, k21, k22, k23, k24, k25, k26, k27, k28, k29, k30, k31, k32, k33, k34, k35, k36, k37, k38, k39, k40, k41, k42, k43, k44, k45⟩
        · intro L U w' b hF hLi hmet hb ho K hK
          obtain ⟨U1, k0, k1, k2, k3, k4, k5, k6, k7, k8, k9, k10, k11, k12, k13, k14, k15, k16, k17, k18, k19, k20, k21, k22, k23, k24, k25, k26, k27, k28, k29, k30, k31, k32, k33, k34, k35, k36, k37, k38, k39, k40, k41, k42, k43, k44, k45⟩ := hF
          have s49 := (hb 18 49 rfl).trans (k18 (hmet.get rfl))
          have r49 := getD_r s49
          have s8 : b.tmps.getD 8 undef = .pointer (some ⟨hy, 0, none⟩) := (ho 8 rfl).trans rfl
          have r8 := getD_r s8
          have t0_ := (Ty.below U1).cells.1
          have t1_ := (Ty.below U1).cells.2.1
          have t2_ := (Ty.below U1).cells.2.2
          clear hb ho hmet
          rw [if_pos (wants rfl rfl s49)]
          go_simp
          exact hK.out (.agg #[.bool nb, .slice py qy ry, .int .i64 0]) w' ⟨U1, k0, k1, k2, k3, k4, k5, k6, k7, k8, k9, k10, k11, k12, k13, k14, k15, k16, k17, k18, k19, (fun _ => rfl), k21, k22, k23, k24, k25, k26, k27, k28, k29, k30, k31, k32, k33, k34, k35, k36, k37, k38, k39, k40, k41, k42, k43, k44, k45⟩
        · intro L U w' b hF hLi hmet hb ho K hK
          obtain ⟨U1, k0, k1, k2, k3, k4, k5, k6, k7, k8, k9, k10, k11, k12, k13, k14, k15, k16, k17, k18, k19, k20, k21, k22, k23, k24, k25, k26, k27, k28, k29, k30, k31, k32, k33, k34, k35, k36, k37, k38, k39, k40, k41, k42, k43, k44, k45⟩ := hF
          have s49 := (hb 18 49 rfl).trans (k18 (hmet.get rfl))
          have r49 := getD_r s49
          have s50 := (hb 19 50 rfl).trans (k19 (hmet.get rfl))
          have r50 := getD_r s50
          have s51 := (hb 20 51 rfl).trans (k20 (hmet.get rfl))
          have r51 := getD_r s51
          clear hb ho hmet
          rw [if_pos (wants rfl rfl s49)]
          go_simp
          go_at_call 67
          (with_reducible refine (C1.out _ _ _ _ _ _ _ (by exact (sx.below U1)) (by exact (sy.below U1))).mono ?_)
          rintro e_ wq ⟨ra, rl, rc, rfl, rs, bq⟩
          exact hK.out (.agg #[.bool nv1, .slice ra rl rc, .int .i64 ev1]) wq ⟨(U1.trans (bq.mono U1.size)), k0, k1, (fun h => (k2 h).below bq), k3, k4, (fun h => (k5 h).below bq), k6, k7, k8, k9, k10, (fun h => (k11 h).below bq), k12, k13, (fun h => (k14 h).below bq), k15, k16, k17, k18, k19, k20, (fun _ => ⟨ra, rl, rc, rfl, rs⟩), k22, (fun h => (k23 h).below bq), k24, k25, k26, (fun h => (k27 h).below bq), (fun h => (k28 h).below bq), k29, k30, k31, k32, k33, k34, (fun h => (k35 h).below bq), k36, (fun h => (k37 h).below bq), k38, k39, k40, (fun h => (k41 h).below bq), (fun h => (k42 h).below bq), k43, k44, k45⟩
        · intro L U w' b hF hLi hmet hb ho K hK
          obtain ⟨U1, k0, k1, k2, k3, k4, k5, k6, k7, k8, k9, k10, k11, k12, k13, k14, k15, k16, k17, k18, k19, k20, k21, k22, k23, k24, k25, k26, k27, k28, k29, k30, k31, k32, k33, k34, k35, k36, k37, k38, k39, k40, k41, k42, k43, k44, k45⟩ := hF
          have s49 := (hb 18 49 rfl).trans (k18 (hmet.get rfl))
          have r49 := getD_r s49
          have s9 : b.tmps.getD 9 undef = .pointer (some ⟨hz, 0, none⟩) := (ho 9 rfl).trans rfl
          have r9 := getD_r s9
          have t0_ := (Tz.below U1).cells.1
          have t1_ := (Tz.below U1).cells.2.1
          have t2_ := (Tz.below U1).cells.2.2
          clear hb ho hmet
          rw [if_pos (wants rfl rfl s49)]
          go_simp
          exact hK.out (.agg #[.bool nc, .slice pz qz rz, .int .i64 0]) w' ⟨U1, k0, k1, k2, k3, k4, k5, k6, k7, k8, k9, k10, k11, k12, k13, k14, k15, k16, k17, k18, k19, k20, k21, (fun _ => rfl), k23, k24, k25, k26, k27, k28, k29, k30, k31, k32, k33, k34, k35, k36, k37, k38, k39, k40, k41, k42, k43, k44, k45⟩
        · intro L U w' b hF hLi hmet hb ho K hK
          obtain ⟨U1, k0, k1, k2, k3, k4, k5, k6, k7, k8, k9, k10, k11, k12, k13, k14, k15, k16, k17, k18, k19, k20, k21, k22, k23, k24, k25, k26, k27, k28, k29, k30, k31, k32, k33, k34, k35, k36, k37, k38, k39, k40, k41, k42, k43, k44, k45⟩ := hF
          have s49 := (hb 18 49 rfl).trans (k18 (hmet.get rfl))
          have r49 := getD_r s49
          obtain ⟨pa21, pl21, pc21, pe21, ps21⟩ := k21 (hmet.get rfl)
          have s52 := (hb 21 52 rfl).trans pe21
          have r52 := getD_r s52
          have s53 := (hb 22 53 rfl).trans (k22 (hmet.get rfl))
          have r53 := getD_r s53
          clear hb ho hmet
          rw [if_pos (wants rfl rfl s49)]
          go_simp
          go_at_call 67
          (with_reducible refine (C3.out _ _ _ _ _ _ _ (by exact ps21) (by exact (sz.below U1))).mono ?_)
          rintro e_ wq ⟨ra, rl, rc, rfl, rs, bq⟩
          exact hK.out (.agg #[.bool nv3, .slice ra rl rc, .int .i64 ev3]) wq ⟨(U1.trans (bq.mono U1.size)), k0, k1, (fun h => (k2 h).below bq), k3, k4, (fun h => (k5 h).below bq), k6, k7, k8, k9, k10, (fun h => (k11 h).below bq), k12, k13, (fun h => (k14 h).below bq), k15, k16, k17, k18, k19, k20, (fun h => (k21 h).below bq), k22, (fun _ => ⟨ra, rl, rc, rfl, rs⟩), k24, k25, k26, (fun h => (k27 h).below bq), (fun h => (k28 h).below bq), k29, k30, k31, k32, k33, k34, (fun h => (k35 h).below bq), k36, (fun h => (k37 h).below bq), k38, k39, k40, (fun h => (k41 h).below bq), (fun h => (k42 h).below bq), k43, k44, k45⟩
        · intro L U w' b hF hLi hmet hb ho K hK
          obtain ⟨U1, k0, k1, k2, k3, k4, k5, k6, k7, k8, k9, k10, k11, k12, k13, k14, k15, k16, k17, k18, k19, k20, k21, k22, k23, k24, k25, k26, k27, k28, k29, k30, k31, k32, k33, k34, k35, k36, k37, k38, k39, k40, k41, k42, k43, k44, k45⟩ := hF
          have s49 := (hb 18 49 rfl).trans (k18 (hmet.get rfl))
          have r49 := getD_r s49
          have s7 : b.tmps.getD 7 undef = .pointer (some ⟨hx, 0, none⟩) := (ho 7 rfl).trans rfl
          have r7 := getD_r s7
          have t0_ := (Tx.below U1).cells.1
          have t1_ := (Tx.below U1).cells.2.1
          have t2_ := (Tx.below U1).cells.2.2
          clear hb ho hmet
          rw [if_pos (wants rfl rfl s49)]
          go_simp
          exact hK.out (.agg #[.bool na, .slice px qx rx, .int .i64 0]) w' ⟨U1, k0, k1, k2, k3, k4, k5, k6, k7, k8, k9, k10, k11, k12, k13, k14, k15, k16, k17, k18, k19, k20, k21, k22, k23, (fun _ => rfl), k25, k26, k27, k28, k29, k30, k31, k32, k33, k34, k35, k36, k37, k38, k39, k40, k41, k42, k43, k44, k45⟩
        · intro L U w' b hF hLi hmet hb ho K hK
          obtain ⟨U1, k0, k1, k2, k3, k4, k5, k6, k7, k8, k9, k10, k11, k12, k13, k14, k15, k16, k17, k18, k19, k20, k21, k22, k23, k24, k25, k26, k27, k28, k29, k30, k31, k32, k33, k34, k35, k36, k37, k38, k39, k40, k41, k42, k43, k44, k45⟩ := hF
          have s49 := (hb 18 49 rfl).trans (k18 (hmet.get rfl))
          have r49 := getD_r s49
          have s8 : b.tmps.getD 8 undef = .pointer (some ⟨hy, 0, none⟩) := (ho 8 rfl).trans rfl
          have r8 := getD_r s8
          have t0_ := (Ty.below U1).cells.1
          have t1_ := (Ty.below U1).cells.2.1
          have t2_ := (Ty.below U1).cells.2.2
          clear hb ho hmet
          rw [if_pos (wants rfl rfl s49)]
          go_simp
          exact hK.out (.agg #[.bool nb, .slice py qy ry, .int .i64 0]) w' ⟨U1, k0, k1, k2, k3, k4, k5, k6, k7, k8, k9, k10, k11, k12, k13, k14, k15, k16, k17, k18, k19, k20, k21, k22, k23, k24, (fun _ => rfl), k26, k27, k28, k29, k30, k31, k32, k33, k34, k35, k36, k37, k38, k39, k40, k41, k42, k43, k44, k45⟩
        · intro L U w' b hF hLi hmet hb ho K hK
          obtain ⟨U1, k0, k1, k2, k3, k4, k5, k6, k7, k8, k9, k10, k11, k12, k13, k14, k15, k16, k17, k18, k19, k20, k21, k22, k23, k24, k25, k26, k27, k28, k29, k30, k31, k32, k33, k34, k35, k36, k37, k38, k39, k40, k41, k42, k43, k44, k45⟩ := hF
          have s49 := (hb 18 49 rfl).trans (k18 (hmet.get rfl))
          have r49 := getD_r s49
          have s9 : b.tmps.getD 9 undef = .pointer (some ⟨hz, 0, none⟩) := (ho 9 rfl).trans rfl
          have r9 := getD_r s9
          have t0_ := (Tz.below U1).cells.1
          have t1_ := (Tz.below U1).cells.2.1
          have t2_ := (Tz.below U1).cells.2.2
          clear hb ho hmet
          rw [if_pos (wants rfl rfl s49)]
          go_simp
          exact hK.out (.agg #[.bool nc, .slice pz qz rz, .int .i64 0]) w' ⟨U1, k0, k1, k2, k3, k4, k5, k6, k7, k8, k9, k10, k11, k12, k13, k14, k15, k16, k17, k18, k19, k20, k21, k22, k23, k24, k25, (fun _ => rfl), k27, k28, k29, k30, k31, k32, k33, k34, k35, k36, k37, k38, k39, k40, k41, k42, k43, k44, k45⟩
        · intro L U w' b hF hLi hmet hb ho K hK
          obtain ⟨U1, k0, k1, k2, k3, k4, k5, k6, k7, k8, k9, k10, k11, k12, k13, k14, k15, k16, k17, k18, k19, k20, k21, k22, k23, k24, k25, k26, k27, k28, k29, k30, k31, k32, k33, k34, k35, k36, k37, k38, k39, k40, k41, k42, k43, k44, k45⟩ := hF
          have s49 := (hb 18 49 rfl).trans (k18 (hmet.get rfl))
          have r49 := getD_r s49
          have s56 := (hb 25 56 rfl).trans (k25 (hmet.get rfl))
          have r56 := getD_r s56
          have s57 := (hb 26 57 rfl).trans (k26 (hmet.get rfl))
          have r57 := getD_r s57
          clear hb ho hmet
          rw [if_pos (wants rfl rfl s49)]
          go_simp
          go_at_call 67
          (with_reducible refine (C4.out _ _ _ _ _ _ _ (by exact (sy.below U1)) (by exact (sz.below U1))).mono ?_)
          rintro e_ wq ⟨ra, rl, rc, rfl, rs, bq⟩
          exact hK.out (.agg #[.bool nv4, .slice ra rl rc, .int .i64 ev4]) wq ⟨(U1.trans (bq.mono U1.size)), k0, k1, (fun h => (k2 h).below bq), k3, k4, (fun h => (k5 h).below bq), k6, k7, k8, k9, k10, (fun h => (k11 h).below bq), k12, k13, (fun h => (k14 h).below bq), k15, k16, k17, k18, k19, k20, (fun h => (k21 h).below bq), k22, (fun h => (k23 h).below bq), k24, k25, k26, (fun _ => ⟨ra, rl, rc, rfl, rs⟩), (fun h => (k28 h).below bq), k29, k30, k31, k32, k33, k34, (fun h => (k35 h).below bq), k36, (fun h => (k37 h).below bq), k38, k39, k40, (fun h => (k41 h).below bq), (fun h => (k42 h).below bq), k43, k44, k45⟩
        · intro L U w' b hF hLi hmet hb ho K hK
          obtain ⟨U1, k0, k1, k2, k3, k4, k5, k6, k7, k8, k9, k10, k11, k12, k13, k14, k15, k16, k17, k18, k19, k20, k21, k22, k23, k24, k25, k26, k27, k28, k29, k30, k31, k32, k33, k34, k35, k36, k37, k38, k39, k40, k41, k42, k43, k44, k45⟩ := hF
          have s49 := (hb 18 49 rfl).trans (k18 (hmet.get rfl))
          have r49 := getD_r s49
          have s55 := (hb 24 55 rfl).trans (k24 (hmet.get rfl))
          have r55 := getD_r s55
          obtain ⟨pa27, pl27, pc27, pe27, ps27⟩ := k27 (hmet.get rfl)
          have s58 := (hb 27 58 rfl).trans pe27
          have r58 := getD_r s58
          clear hb ho hmet
          rw [if_pos (wants rfl rfl s49)]
          go_simp
          go_at_call 67
          (with_reducible refine (C5.out _ _ _ _ _ _ _ (by exact (sx.below U1)) (by exact ps27)).mono ?_)
          rintro e_ wq ⟨ra, rl, rc, rfl, rs, bq⟩
          exact hK.out (.agg #[.bool nv5, .slice ra rl rc, .int .i64 ev5]) wq ⟨(U1.trans (bq.mono U1.size)), k0, k1, (fun h => (k2 h).below bq), k3, k4, (fun h => (k5 h).below bq), k6, k7, k8, k9, k10, (fun h => (k11 h).below bq), k12, k13, (fun h => (k14 h).below bq), k15, k16, k17, k18, k19, k20, (fun h => (k21 h).below bq), k22, (fun h => (k23 h).below bq), k24, k25, k26, (fun h => (k27 h).below bq), (fun _ => ⟨ra, rl, rc, rfl, rs⟩), k29, k30, k31, k32, k33, k34, (fun h => (k35 h).below bq), k36, (fun h => (k37 h).below bq), k38, k39, k40, (fun h => (k41 h).below bq), (fun h => (k42 h).below bq), k43, k44, k45⟩
        · intro L U w' b hF hLi hmet hb ho K hK
          obtain ⟨U1, k0, k1, k2, k3, k4, k5, k6, k7, k8, k9, k10, k11, k12, k13, k14, k15, k16, k17, k18, k19, k20, k21, k22, k23, k24, k25, k26, k27, k28, k29, k30, k31, k32, k33, k34, k35, k36, k37, k38, k39, k40, k41, k42, k43, k44, k45⟩ := hF
          have s49 := (hb 18 49 rfl).trans (k18 (hmet.get rfl))
          have r49 := getD_r s49
          obtain ⟨pa23, pl23, pc23, pe23, ps23⟩ := k23 (hmet.get rfl)
          have s54 := (hb 23 54 rfl).trans pe23
          have r54 := getD_r s54
          obtain ⟨pa28, pl28, pc28, pe28, ps28⟩ := k28 (hmet.get rfl)
          have s59 := (hb 28 59 rfl).trans pe28
          have r59 := getD_r s59
          clear hb ho hmet
          rw [if_pos (wants rfl rfl s49)]
          go_simp
          go_at_call 66
          (with_reducible refine (A3.out _ _ _ _ _ _ _ (by exact ps23) (by exact ps28)).mono ?_)
          rintro e_ wq ⟨rfl, bq⟩
          exact hK.out (.bool true) wq ⟨(U1.trans (bq.mono U1.size)), k0, k1, (fun h => (k2 h).below bq), k3, k4, (fun h => (k5 h).below bq), k6, k7, k8, k9, k10, (fun h => (k11 h).below bq), k12, k13, (fun h => (k14 h).below bq), k15, k16, k17, k18, k19, k20, (fun h => (k21 h).below bq), k22, (fun h => (k23 h).below bq), k24, k25, k26, (fun h => (k27 h).below bq), (fun h => (k28 h).below bq), (fun _ => rfl), k30, k31, k32, k33, k34, (fun h => (k35 h).below bq), k36, (fun h => (k37 h).below bq), k38, k39, k40, (fun h => (k41 h).below bq), (fun h => (k42 h).below bq), k43, k44, k45⟩
        · intro L U w' b hF hLi hmet hb ho K hK
          obtain ⟨U1, k0, k1, k2, k3, k4, k5, k6, k7, k8, k9, k10, k11, k12, k13, k14, k15, k16, k17, k18, k19, k20, k21, k22, k23, k24, k25, k26, k27, k28, k29, k30, k31, k32, k33, k34, k35, k36, k37, k38, k39, k40, k41, k42, k43, k44, k45⟩ := hF
          have s49 := (hb 18 49 rfl).trans (k18 (hmet.get rfl))
          have r49 := getD_r s49
          have s60 := (hb 29 60 rfl).trans (k29 (hmet.get rfl))
          have r60 := getD_r s60
          clear hb ho hmet
          rw [if_pos (wants rfl rfl s49)]
          go_simp
          exact hK.out (.bool false) w' ⟨U1, k0, k1, k2, k3, k4, k5, k6, k7, k8, k9, k10, k11, k12, k13, k14, k15, k16, k17, k18, k19, k20, k21, k22, k23, k24, k25, k26, k27, k28, k29, (fun _ => rfl), k31, k32, k33, k34, k35, k36, k37, k38, k39, k40, k41, k42, k43, k44, k45⟩
        · intro L U w' b hF hLi hmet hb ho K hK
          obtain ⟨U1, k0, k1, k2, k3, k4, k5, k6, k7, k8, k9, k10, k11, k12, k13, k14, k15, k16, k17, k18, k19, k20, k21, k22, k23, k24, k25, k26, k27, k28, k29, k30, k31, k32, k33, k34, k35, k36, k37, k38, k39, k40, k41, k42, k43, k44, k45⟩ := hF
          have s49 := (hb 18 49 rfl).trans (k18 (hmet.get rfl))
          have r49 := getD_r s49
          have s61 := (hb 30 61 rfl).trans (k30 (hmet.get rfl))
          have r61 := getD_r s61
          clear hb ho hmet
          rw [if_pos (by rfl)]
          go_simp
          exact hK.out (.bool false) w' ⟨U1, k0, k1, k2, k3, k4, k5, k6, k7, k8, k9, k10, k11, k12, k13, k14, k15, k16, k17, k18, k19, k20, k21, k22, k23, k24, k25, k26, k27, k28, k29, k30, (fun _ => rfl), k32, k33, k34, k35, k36, k37, k38, k39, k40, k41, k42, k43, k44, k45⟩
        · intro L U w' b hF hLi hmet hb ho K hK
          obtain ⟨U1, k0, k1, k2, k3, k4, k5, k6, k7, k8, k9, k10, k11, k12, k13, k14, k15, k16, k17, k18, k19, k20, k21, k22, k23, k24, k25, k26, k27, k28, k29, k30, k31, k32, k33, k34, k35, k36, k37, k38, k39, k40, k41, k42, k43, k44, k45⟩ := hF
          have s62 := (hb 31 62 rfl).trans (k31 (hmet.get rfl))
          have r62 := getD_r s62
          clear hb ho hmet
          rw [if_pos (by rfl)]
          go_simp
          exact hK.out (.bool false) w' ⟨U1, k0, k1, k2, k3, k4, k5, k6, k7, k8, k9, k10, k11, k12, k13, k14, k15, k16, k17, k18, k19, k20, k21, k22, k23, k24, k25, k26, k27, k28, k29, k30, k31, (fun _ => rfl), k33, k34, k35, k36, k37, k38, k39, k40, k41, k42, k43, k44, k45⟩
        · intro L U w' b hF hLi hmet hb ho K hK
          obtain ⟨U1, k0, k1, k2, k3, k4, k5, k6, k7, k8, k9, k10, k11, k12, k13, k14, k15, k16, k17, k18, k19, k20, k21, k22, k23, k24, k25, k26, k27, k28, k29, k30, k31, k32, k33, k34, k35, k36, k37, k38, k39, k40, k41, k42, k43, k44, k45⟩ := hF
          have s63 := (hb 32 63 rfl).trans (k32 (hmet.get rfl))
          have r63 := getD_r s63
          have s7 : b.tmps.getD 7 undef = .pointer (some ⟨hx, 0, none⟩) := (ho 7 rfl).trans rfl
          have r7 := getD_r s7
          have t0_ := (Tx.below U1).cells.1
          have t1_ := (Tx.below U1).cells.2.1
          have t2_ := (Tx.below U1).cells.2.2
          clear hb ho hmet
          rw [if_pos (wants rfl rfl s63)]
          go_simp
          exact hK.out (.agg #[.bool na, .slice px qx rx, .int .i64 0]) w' ⟨U1, k0, k1, k2, k3, k4, k5, k6, k7, k8, k9, k10, k11, k12, k13, k14, k15, k16, k17, k18, k19, k20, k21, k22, k23, k24, k25, k26, k27, k28, k29, k30, k31, k32, (fun _ => rfl), k34, k35, k36, k37, k38, k39, k40, k41, k42, k43, k44, k45⟩
        · intro L U w' b hF hLi hmet hb ho K hK
          obtain ⟨U1, k0, k1, k2, k3, k4, k5, k6, k7, k8, k9, k10, k11, k12, k13, k14, k15, k16, k17, k18, k19, k20, k21, k22, k23, k24, k25, k26, k27, k28, k29, k30, k31, k32, k33, k34, k35, k36, k37, k38, k39, k40, k41, k42, k43, k44, k45⟩ := hF
          have s63 := (hb 32 63 rfl).trans (k32 (hmet.get rfl))
          have r63 := getD_r s63
          have s8 : b.tmps.getD 8 undef = .pointer (some ⟨hy, 0, none⟩) := (ho 8 rfl).trans rfl
          have r8 := getD_r s8
          have t0_ := (Ty.below U1).cells.1
          have t1_ := (Ty.below U1).cells.2.1
          have t2_ := (Ty.below U1).cells.2.2
          clear hb ho hmet
          rw [if_pos (wants rfl rfl s63)]
          go_simp
          exact hK.out (.agg #[.bool nb, .slice py qy ry, .int .i64 0]) w' ⟨U1, k0, k1, k2, k3, k4, k5, k6, k7, k8, k9, k10, k11, k12, k13, k14, k15, k16, k17, k18, k19, k20, k21, k22, k23, k24, k25, k26, k27, k28, k29, k30, k31, k32, k33, (fun _ => rfl), k35, k36, k37, k38, k39, k40, k41, k42, k43, k44, k45⟩
        · intro L U w' b hF hLi hmet hb ho K hK
          obtain ⟨U1, k0, k1, k2, k3, k4, k5, k6, k7, k8, k9, k10, k11, k12, k13, k14, k15, k16, k17, k18, k19, k20, k21, k22, k23, k24, k25, k26, k27, k28, k29, k30, k31, k32, k33, k34, k35, k36, k37, k38, k39, k40, k41, k42, k43, k44, k45⟩ := hF
          have s63 := (hb 32 63 rfl).trans (k32 (hmet.get rfl))
          have r63 := getD_r s63
          have s64 := (hb 33 64 rfl).trans (k33 (hmet.get rfl))
          have r64 := getD_r s64
          have s65 := (hb 34 65 rfl).trans (k34 (hmet.get rfl))
          have r65 := getD_r s65
          clear hb ho hmet
          rw [if_pos (wants rfl rfl s63)]
          go_simp
          go_at_call 68
          (with_reducible refine (C2.out _ _ _ _ _ _ _ (by exact (sx.below U1)) (by exact (sy.below U1))).mono ?_)
          rintro e_ wq ⟨ra, rl, rc, rfl, rs, bq⟩
          exact hK.out (.agg #[.bool nv2, .slice ra rl rc, .int .i64 ev2]) wq ⟨(U1.trans (bq.mono U1.size)), k0, k1, (fun h => (k2 h).below bq), k3, k4, (fun h => (k5 h).below bq), k6, k7, k8, k9, k10, (fun h => (k11 h).below bq), k12, k13, (fun h => (k14 h).below bq), k15, k16, k17, k18, k19, k20, (fun h => (k21 h).below bq), k22, (fun h => (k23 h).below bq), k24, k25, k26, (fun h => (k27 h).below bq), (fun h => (k28 h).below bq), k29, k30, k31, k32, k33, k34, (fun _ => ⟨ra, rl, rc, rfl, rs⟩), k36, (fun h => (k37 h).below bq), k38, k39, k40, (fun h => (k41 h).below bq), (fun h => (k42 h).below bq), k43, k44, k45⟩
        · intro L U w' b hF hLi hmet hb ho K hK
          obtain ⟨U1, k0, k1, k2, k3, k4, k5, k6, k7, k8, k9, k10, k11, k12, k13, k14, k15, k16, k17, k18, k19, k20, k21, k22, k23, k24, k25, k26, k27, k28, k29, k30, k31, k32, k33, k34, k35, k36, k37, k38, k39, k40, k41, k42, k43, k44, k45⟩ := hF
          have s63 := (hb 32 63 rfl).trans (k32 (hmet.get rfl))
          have r63 := getD_r s63
          have s9 : b.tmps.getD 9 undef = .pointer (some ⟨hz, 0, none⟩) := (ho 9 rfl).trans rfl
          have r9 := getD_r s9
          have t0_ := (Tz.below U1).cells.1
          have t1_ := (Tz.below U1).cells.2.1
          have t2_ := (Tz.below U1).cells.2.2
          clear hb ho hmet
          rw [if_pos (wants rfl rfl s63)]
          go_simp
          exact hK.out (.agg #[.bool nc, .slice pz qz rz, .int .i64 0]) w' ⟨U1, k0, k1, k2, k3, k4, k5, k6, k7, k8, k9, k10, k11, k12, k13, k14, k15, k16, k17, k18, k19, k20, k21, k22, k23, k24, k25, k26, k27, k28, k29, k30, k31, k32, k33, k34, k35, (fun _ => rfl), k37, k38, k39, k40, k41, k42, k43, k44, k45⟩
        · intro L U w' b hF hLi hmet hb ho K hK
          obtain ⟨U1, k0, k1, k2, k3, k4, k5, k6, k7, k8, k9, k10, k11, k12, k13, k14, k15, k16, k17, k18, k19, k20, k21, k22, k23, k24, k25, k26, k27, k28, k29, k30, k31, k32, k33, k34, k35, k36, k37, k38, k39, k40, k41, k42, k43, k44, k45⟩ := hF
          have s63 := (hb 32 63 rfl).trans (k32 (hmet.get rfl))
          have r63 := getD_r s63
          obtain ⟨pa35, pl35, pc35, pe35, ps35⟩ := k35 (hmet.get rfl)
          have s66 := (hb 35 66 rfl).trans pe35
          have r66 := getD_r s66
          have s67 := (hb 36 67 rfl).trans (k36 (hmet.get rfl))
          have r67 := getD_r s67
          clear hb ho hmet
          rw [if_pos (wants rfl rfl s63)]
          go_simp
          go_at_call 68
          (with_reducible refine (C6.out _ _ _ _ _ _ _ (by exact ps35) (by exact (sz.below U1))).mono ?_)
          rintro e_ wq ⟨ra, rl, rc, rfl, rs, bq⟩
          exact hK.out (.agg #[.bool nv6, .slice ra rl rc, .int .i64 ev6]) wq ⟨(U1.trans (bq.mono U1.size)), k0, k1, (fun h => (k2 h).below bq), k3, k4, (fun h => (k5 h).below bq), k6, k7, k8, k9, k10, (fun h => (k11 h).below bq), k12, k13, (fun h => (k14 h).below bq), k15, k16, k17, k18, k19, k20, (fun h => (k21 h).below bq), k22, (fun h => (k23 h).below bq), k24, k25, k26, (fun h => (k27 h).below bq), (fun h => (k28 h).below bq), k29, k30, k31, k32, k33, k34, (fun h => (k35 h).below bq), k36, (fun _ => ⟨ra, rl, rc, rfl, rs⟩), k38, k39, k40, (fun h => (k41 h).below bq), (fun h => (k42 h).below bq), k43, k44, k45⟩
        · intro L U w' b hF hLi hmet hb ho K hK
          obtain ⟨U1, k0, k1, k2, k3, k4, k5, k6, k7, k8, k9, k10, k11, k12, k13, k14, k15, k16, k17, k18, k19, k20, k21, k22, k23, k24, k25, k26, k27, k28, k29, k30, k31, k32, k33, k34, k35, k36, k37, k38, k39, k40, k41, k42, k43, k44, k45⟩ := hF
          have s63 := (hb 32 63 rfl).trans (k32 (hmet.get rfl))
          have r63 := getD_r s63
          have s7 : b.tmps.getD 7 undef = .pointer (some ⟨hx, 0, none⟩) := (ho 7 rfl).trans rfl
          have r7 := getD_r s7
          have t0_ := (Tx.below U1).cells.1
          have t1_ := (Tx.below U1).cells.2.1
          have t2_ := (Tx.below U1).cells.2.2
          clear hb ho hmet
          rw [if_pos (wants rfl rfl s63)]
          go_simp
          exact hK.out (.agg #[.bool na, .slice px qx rx, .int .i64 0]) w' ⟨U1, k0, k1, k2, k3, k4, k5, k6, k7, k8, k9, k10, k11, k12, k13, k14, k15, k16, k17, k18, k19, k20, k21, k22, k23, k24, k25, k26, k27, k28, k29, k30, k31, k32, k33, k34, k35, k36, k37, (fun _ => rfl), k39, k40, k41, k42, k43, k44, k45⟩
        · intro L U w' b hF hLi hmet hb ho K hK
          obtain ⟨U1, k0, k1, k2, k3, k4, k5, k6, k7, k8, k9, k10, k11, k12, k13, k14, k15, k16, k17, k18, k19, k20, k21, k22, k23, k24, k25, k26, k27, k28, k29, k30, k31, k32, k33, k34, k35, k36, k37, k38, k39, k40, k41, k42, k43, k44, k45⟩ := hF
          have s63 := (hb 32 63 rfl).trans (k32 (hmet.get rfl))
          have r63 := getD_r s63
          have s8 : b.tmps.getD 8 undef = .pointer (some ⟨hy, 0, none⟩) := (ho 8 rfl).trans rfl
          have r8 := getD_r s8
          have t0_ := (Ty.below U1).cells.1
          have t1_ := (Ty.below U1).cells.2.1
          have t2_ := (Ty.below U1).cells.2.2
          clear hb ho hmet
          rw [if_pos (wants rfl rfl s63)]
          go_simp
          exact hK.out (.agg #[.bool nb, .slice py qy ry, .int .i64 0]) w' ⟨U1, k0, k1, k2, k3, k4, k5, k6, k7, k8, k9, k10, k11, k12, k13, k14, k15, k16, k17, k18, k19, k20, k21, k22, k23, k24, k25, k26, k27, k28, k29, k30, k31, k32, k33, k34, k35, k36, k37, k38, (fun _ => rfl), k40, k41, k42, k43, k44, k45⟩
        · intro L U w' b hF hLi hmet hb ho K hK
          obtain ⟨U1, k0, k1, k2, k3, k4, k5, k6, k7, k8, k9, k10, k11, k12, k13, k14, k15, k16, k17, k18, k19, k20, k21, k22, k23, k24, k25, k26, k27, k28, k29, k30, k31, k32, k33, k34, k35, k36, k37, k38, k39, k40, k41, k42, k43, k44, k45⟩ := hF
          have s63 := (hb 32 63 rfl).trans (k32 (hmet.get rfl))
          have r63 := getD_r s63
          have s9 : b.tmps.getD 9 undef = .pointer (some ⟨hz, 0, none⟩) := (ho 9 rfl).trans rfl
          have r9 := getD_r s9
          have t0_ := (Tz.below U1).cells.1
          have t1_ := (Tz.below U1).cells.2.1
          have t2_ := (Tz.below U1).cells.2.2
          clear hb ho hmet
          rw [if_pos (wants rfl rfl s63)]
          go_simp
          exact hK.out (.agg #[.bool nc, .slice pz qz rz, .int .i64 0]) w' ⟨U1, k0, k1, k2, k3, k4, k5, k6, k7, k8, k9, k10, k11, k12, k13, k14, k15, k16, k17, k18, k19, k20, k21, k22, k23, k24, k25, k26, k27, k28, k29, k30, k31, k32, k33, k34, k35, k36, k37, k38, k39, (fun _ => rfl), k41, k42, k43, k44, k45⟩
        · intro L U w' b hF hLi hmet hb ho K hK
          obtain ⟨U1, k0, k1, k2, k3, k4, k5, k6, k7, k8, k9, k10, k11, k12, k13, k14, k15, k16, k17, k18, k19, k20, k21, k22, k23, k24, k25, k26, k27, k28, k29, k30, k31, k32, k33, k34, k35, k36, k37, k38, k39, k40, k41, k42, k43, k44, k45⟩ := hF
          have s63 := (hb 32 63 rfl).trans (k32 (hmet.get rfl))
          have r63 := getD_r s63
          have s70 := (hb 39 70 rfl).trans (k39 (hmet.get rfl))
          have r70 := getD_r s70
          have s71 := (hb 40 71 rfl).trans (k40 (hmet.get rfl))
          have r71 := getD_r s71
          clear hb ho hmet
          rw [if_pos (wants rfl rfl s63)]
          go_simp
          go_at_call 68
          (with_reducible refine (C7.out _ _ _ _ _ _ _ (by exact (sy.below U1)) (by exact (sz.below U1))).mono ?_)
          rintro e_ wq ⟨ra, rl, rc, rfl, rs, bq⟩
          exact hK.out (.agg #[.bool nv7, .slice ra rl rc, .int .i64 ev7]) wq ⟨(U1.trans (bq.mono U1.size)), k0, k1, (fun h => (k2 h).below bq), k3, k4, (fun h => (k5 h).below bq), k6, k7, k8, k9, k10, (fun h => (k11 h).below bq), k12, k13, (fun h => (k14 h).below bq), k15, k16, k17, k18, k19, k20, (fun h => (k21 h).below bq), k22, (fun h => (k23 h).below bq), k24, k25, k26, (fun h => (k27 h).below bq), (fun h => (k28 h).below bq), k29, k30, k31, k32, k33, k34, (fun h => (k35 h).below bq), k36, (fun h => (k37 h).below bq), k38, k39, k40, (fun _ => ⟨ra, rl, rc, rfl, rs⟩), (fun h => (k42 h).below bq), k43, k44, k45⟩
        · intro L U w' b hF hLi hmet hb ho K hK
          obtain ⟨U1, k0, k1, k2, k3, k4, k5, k6, k7, k8, k9, k10, k11, k12, k13, k14, k15, k16, k17, k18, k19, k20, k21, k22, k23, k24, k25, k26, k27, k28, k29, k30, k31, k32, k33, k34, k35, k36, k37, k38, k39, k40, k41, k42, k43, k44, k45⟩ := hF
          have s63 := (hb 32 63 rfl).trans (k32 (hmet.get rfl))
          have r63 := getD_r s63
          have s69 := (hb 38 69 rfl).trans (k38 (hmet.get rfl))
          have r69 := getD_r s69
          obtain ⟨pa41, pl41, pc41, pe41, ps41⟩ := k41 (hmet.get rfl)
          have s72 := (hb 41 72 rfl).trans pe41
          have r72 := getD_r s72
          clear hb ho hmet
          rw [if_pos (wants rfl rfl s63)]
          go_simp
          go_at_call 68
          (with_reducible refine (C8.out _ _ _ _ _ _ _ (by exact (sx.below U1)) (by exact ps41)).mono ?_)
          rintro e_ wq ⟨ra, rl, rc, rfl, rs, bq⟩
          exact hK.out (.agg #[.bool nv8, .slice ra rl rc, .int .i64 ev8]) wq ⟨(U1.trans (bq.mono U1.size)), k0, k1, (fun h => (k2 h).below bq), k3, k4, (fun h => (k5 h).below bq), k6, k7, k8, k9, k10, (fun h => (k11 h).below bq), k12, k13, (fun h => (k14 h).below bq), k15, k16, k17, k18, k19, k20, (fun h => (k21 h).below bq), k22, (fun h => (k23 h).below bq), k24, k25, k26, (fun h => (k27 h).below bq), (fun h => (k28 h).below bq), k29, k30, k31, k32, k33, k34, (fun h => (k35 h).below bq), k36, (fun h => (k37 h).below bq), k38, k39, k40, (fun h => (k41 h).below bq), (fun _ => ⟨ra, rl, rc, rfl, rs⟩), k43, k44, k45⟩
        · intro L U w' b hF hLi hmet hb ho K hK
          obtain ⟨U1, k0, k1, k2, k3, k4, k5, k6, k7, k8, k9, k10, k11, k12, k13, k14, k15, k16, k17, k18, k19, k20, k21, k22, k23, k24, k25, k26, k27, k28, k29, k30, k31, k32, k33, k34, k35, k36, k37, k38, k39, k40, k41, k42, k43, k44, k45⟩ := hF
          have s63 := (hb 32 63 rfl).trans (k32 (hmet.get rfl))
          have r63 := getD_r s63
          obtain ⟨pa37, pl37, pc37, pe37, ps37⟩ := k37 (hmet.get rfl)
          have s68 := (hb 37 68 rfl).trans pe37
          have r68 := getD_r s68
          obtain ⟨pa42, pl42, pc42, pe42, ps42⟩ := k42 (hmet.get rfl)
          have s73 := (hb 42 73 rfl).trans pe42
          have r73 := getD_r s73
          clear hb ho hmet
          rw [if_pos (wants rfl rfl s63)]
          go_simp
          go_at_call 66
          (with_reducible refine (A4.out _ _ _ _ _ _ _ (by exact ps37) (by exact ps42)).mono ?_)
          rintro e_ wq ⟨rfl, bq⟩
          exact hK.out (.bool true) wq ⟨(U1.trans (bq.mono U1.size)), k0, k1, (fun h => (k2 h).below bq), k3, k4, (fun h => (k5 h).below bq), k6, k7, k8, k9, k10, (fun h => (k11 h).below bq), k12, k13, (fun h => (k14 h).below bq), k15, k16, k17, k18, k19, k20, (fun h => (k21 h).below bq), k22, (fun h => (k23 h).below bq), k24, k25, k26, (fun h => (k27 h).below bq), (fun h => (k28 h).below bq), k29, k30, k31, k32, k33, k34, (fun h => (k35 h).below bq), k36, (fun h => (k37 h).below bq), k38, k39, k40, (fun h => (k41 h).below bq), (fun h => (k42 h).below bq), (fun _ => rfl), k44, k45⟩
        · intro L U w' b hF hLi hmet hb ho K hK
          obtain ⟨U1, k0, k1, k2, k3, k4, k5, k6, k7, k8, k9, k10, k11, k12, k13, k14, k15, k16, k17, k18, k19, k20, k21, k22, k23, k24, k25, k26, k27, k28, k29, k30, k31, k32, k33, k34, k35, k36, k37, k38, k39, k40, k41, k42, k43, k44, k45⟩ := hF
          have s63 := (hb 32 63 rfl).trans (k32 (hmet.get rfl))
          have r63 := getD_r s63
          have s74 := (hb 43 74 rfl).trans (k43 (hmet.get rfl))
          have r74 := getD_r s74
          clear hb ho hmet
          rw [if_pos (wants rfl rfl s63)]
          go_simp
          exact hK.out (.bool false) w' ⟨U1, k0, k1, k2, k3, k4, k5, k6, k7, k8, k9, k10, k11, k12, k13, k14, k15, k16, k17, k18, k19, k20, k21, k22, k23, k24, k25, k26, k27, k28, k29, k30, k31, k32, k33, k34, k35, k36, k37, k38, k39, k40, k41, k42, k43, (fun _ => rfl), k45⟩
        · intro L U w' b hF hLi hmet hb ho K hK
          obtain ⟨U1, k0, k1, k2, k3, k4, k5, k6, k7, k8, k9, k10, k11, k12, k13, k14, k15, k16, k17, k18, k19, k20, k21, k22, k23, k24, k25, k26, k27, k28, k29, k30, k31, k32, k33, k34, k35, k36, k37, k38, k39, k40, k41, k42, k43, k44, k45⟩ := hF
          have s63 := (hb 32 63 rfl).trans (k32 (hmet.get rfl))
          have r63 := getD_r s63
          have s75 := (hb 44 75 rfl).trans (k44 (hmet.get rfl))
          have r75 := getD_r s75
          clear hb ho hmet
          rw [if_pos (by rfl)]
          go_simp
          exact hK.out (.bool false) w' ⟨U1, k0, k1, k2, k3, k4, k5, k6, k7, k8, k9, k10, k11, k12, k13, k14, k15, k16, k17, k18, k19, k20, k21, k22, k23, k24, k25, k26, k27, k28, k29, k30, k31, k32, k33, k34, k35, k36, k37, k38, k39, k40, k41, k42, k43, k44, (fun _ => rfl)⟩
      case fin =>
        intro L U wx hF hall
        obtain ⟨U1, k0, k1, k2, k3, k4, k5, k6, k7, k8, k9, k10, k11, k12, k13, k14, k15, k16, k17, k18, k19, k20, k21, k22, k23, k24, k25, k26, k27, k28, k29, k30, k31, k32, k33, k34, k35, k36, k37, k38, k39, k40, k41, k42, k43, k44, k45⟩ := hF
        have kl := k45 (hall 45 (by decide))
        clear k0 k1 k2 k3 k4 k5 k6 k7 k8 k9 k10 k11 k12 k13 k14 k15 k16 k17 k18 k19 k20 k21 k22 k23 k24 k25 k26 k27 k28 k29 k30 k31 k32 k33 k34 k35 k36 k37 k38 k39 k40 k41 k42 k43 k44 k45 hall
        simp only [fillA, Act.put, List.setIfInBounds_toArray, List.set_cons_zero, List.set_cons_succ]
        go_wp2_with fail; go_meet
        exact ⟨kl, Ta.below U1, sa.below U1, Tb.below U1, sb.below U1, Tc.below U1, sc.below U1, Tx.below U1, sx.below U1, Ty.below U1, sy.below U1, Tz.below U1, sz.below U1, U0.trans (U1.mono U0.size)⟩
    case rest =>
      obtain ⟨rfl, Ta, sa, Tb, sb, Tc, sc, Tx, sx, Ty, sy, Tz, sz, U0⟩ := hcut
      have cTa0 := Ta.cells.1
      have cTa1 := Ta.cells.2
      have zTa := Ta.lt
      have cTb0 := Tb.cells.1
      have cTb1 := Tb.cells.2
      have zTb := Tb.lt
      have cTc0 := Tc.cells.1
      have cTc1 := Tc.cells.2
      have zTc := Tc.lt
      have cTx0 := Tx.cells.1
      have cTx1 := Tx.cells.2.1
      have cTx2 := Tx.cells.2.2
      have zTx := Tx.lt
      have cTy0 := Ty.cells.1
      have cTy1 := Ty.cells.2.1
      have cTy2 := Ty.cells.2.2
      have zTy := Ty.lt
      have cTz0 := Tz.cells.1
      have cTz1 := Tz.cells.2.1
      have cTz2 := Tz.cells.2.2
      have zTz := Tz.lt
      go_upto_region 8 with (fail)
      go_cut [118] (fun sl wx => sl = .bool false ∧ RingCut w (w.heap.size) (w.heap.size + 1) (w.heap.size + 1 + 1) na aa la ca xa nb ab lb cb xb nc ac lc cc xc hx hy hz px qx rx py qy ry pz qz rz wx)
      case first => as_aux_lemma =>
        clear cTa0 cTa1 zTa cTb0 cTb1 zTb cTc0 cTc1 zTc cTx0 cTx1 cTx2 zTx cTy0 cTy1 cTy2 zTy cTz0 cTz1 cTz2 zTz
        clear C1 C1b C2b C3 C5 C6 C7 C8 C15 A1 A2 A3 A4 Sb_ Ng HNa HNb
        refine region_kept 42 [some 77, some 78, some 79, some 80, some 81, some 82, some 83, some 84, some 85, some 86, some 87, some 88, some 89, some 90, some 91, some 92, some 93, some 94, some 95, some 96, some 97, some 98, some 99, some 100, some 101, some 102, some 103, some 104, some 105, some 106, some 107, some 108, some 109, some 110, some 111, some 112, some 113, some 114, some 115, some 116, some 117, some 118] (fun U => [U 0, U 1, U 2, U 3, U 4, U 5, U 6, U 7, U 8, U 9, U 10, U 11, U 12, U 13, U 14, U 15, U 16, U 17, U 18, U 19, U 20, U 21, U 22, U 23, U 24, U 25, U 26, U 27, U 28, U 29, U 30, U 31, U 32, U 33, U 34, U 35, U 36, U 37, U 38, U 39, U 40, U 41]) (fun L U w' => Below (wc).heap.size (wc) w' ∧ (L 0 = true → U 0 = .agg #[.bool na, .slice px qx rx, .int .i64 0]) ∧ (L 1 = true → U 1 = .agg #[.bool nb, .slice py qy ry, .int .i64 0]) ∧ (L 2 = true → U 2 = .agg #[.bool nc, .slice pz qz rz, .int .i64 0]) ∧ (L 3 = true → HasP w' (U 3) (nv4) (xv4) (ev4)) ∧ (L 4 = true → HasP w' (U 4) (nv9) (xv9) (ev9)) ∧ (L 5 = true → U 5 = .agg #[.bool na, .slice px qx rx, .int .i64 0]) ∧ (L 6 = true → U 6 = .agg #[.bool nb, .slice py qy ry, .int .i64 0]) ∧ (L 7 = true → HasP w' (U 7) (nv2) (xv2) (ev2)) ∧ (L 8 = true → U 8 = .agg #[.bool na, .slice px qx rx, .int .i64 0]) ∧ (L 9 = true → U 9 = .agg #[.bool nc, .slice pz qz rz, .int .i64 0]) ∧ (L 10 = true → HasP w' (U 10) (nv10) (xv10) (ev10)) ∧ (L 11 = true → HasP w' (U 11) (nv11) (xv11) (ev11)) ∧ (L 12 = true → U 12 = .bool true) ∧ (L 13 = true → U 13 = .bool false) ∧ (L 14 = true → U 14 = .bool false) ∧ (L 15 = true → U 15 = .agg #[.bool na, .slice px qx rx, .int .i64 0]) ∧ (L 16 = true → HasI w' (U 16) (n0) (x0)) ∧ (L 17 = true → HasP w' (U 17) (n0) (x0) (0)) ∧ (L 18 = true → HasP w' (U 18) (na) (xa) (0)) ∧ (L 19 = true → U 19 = .agg #[.bool na, .slice px qx rx, .int .i64 0]) ∧ (L 20 = true → U 20 = .bool true) ∧ (L 21 = true → U 21 = .bool false) ∧ (L 22 = true → U 22 = .bool false) ∧ (L 23 = true → U 23 = .bool false) ∧ (L 24 = true → U 24 = .agg #[.bool na, .slice px qx rx, .int .i64 0]) ∧ (L 25 = true → HasI w' (U 25) (n1) (x1)) ∧ (L 26 = true → HasP w' (U 26) (n1) (x1) (0)) ∧ (L 27 = true → HasP w' (U 27) (na) (xa) (0)) ∧ (L 28 = true → U 28 = .agg #[.bool na, .slice px qx rx, .int .i64 0]) ∧ (L 29 = true → U 29 = .bool true) ∧ (L 30 = true → U 30 = .bool false) ∧ (L 31 = true → U 31 = .bool false) ∧ (L 32 = true → U 32 = .bool false) ∧ (L 33 = true → U 33 = .agg #[.bool na, .slice px qx rx, .int .i64 0]) ∧ (L 34 = true → HasI w' (U 34) (n0) (x0)) ∧ (L 35 = true → HasP w' (U 35) (n0) (x0) (0)) ∧ (L 36 = true → HasP w' (U 36) (n0) (x0) (0)) ∧ (L 37 = true → HasI w' (U 37) (n0) (x0)) ∧ (L 38 = true → HasP w' (U 38) (n0) (x0) (0)) ∧ (L 39 = true → U 39 = .bool true) ∧ (L 40 = true → U 40 = .bool false) ∧ (L 41 = true → U 41 = .bool false)) rfl rfl (fun _ => rfl) rfl (by kernel_rfl) (by kernel_rfl) (by kernel_rfl) ?start ?step ?fin
        case start =>
          intro U
          exact ⟨(Below.refl _ _).drew, (by intro h; cases h), (by intro h; cases h), (by intro h; cases h), (by intro h; cases h), (by intro h; cases h), (by intro h; cases h), (by intro h; cases h), (by intro h; cases h), (by intro h; cases h), (by intro h; cases h), (by intro h; cases h), (by intro h; cases h), (by intro h; cases h), (by intro h; cases h), (by intro h; cases h), (by intro h; cases h), (by intro h; cases h), (by intro h; cases h), (by intro h; cases h), (by intro h; cases h), (by intro h; cases h), (by intro h; cases h), (by intro h; cases h), (by intro h; cases h), (by intro h; cases h), (by intro h; cases h), (by intro h; cases h), (by intro h; cases h), (by intro h; cases h), (by intro h; cases h), (by intro h; cases h), (by intro h; cases h), (by intro h; cases h), (by intro h; cases h), (by intro h; cases h), (by intro h; cases h), (by intro h; cases h), (by intro h; cases h), (by intro h; cases h), (by intro h; cases h), (by intro h; cases h), (by intro h; cases h)⟩
        case step =>
          refine ⟨?_, ?_, ?_, ?_, ?_, ?_, ?_, ?_, ?_, ?_, ?_, ?_, ?_, ?_, ?_, ?_, ?_, ?_, ?_, ?_, ?_, ?_, ?_, ?_, ?_, ?_, ?_, ?_, ?_, ?_, ?_, ?_, ?_, ?_, ?_, ?_, ?_, ?_, ?_, ?_, ?_, ?_, trivial⟩
          · intro L U w' b hF hLi hmet hb ho K hK
            obtain ⟨U1, k0, k1, k2, k3, k4, k5, k6, k7, k8, k9, k10, k11, k12, k13, k14, k15, k16, k17, k18, k19, k20, k21, k22, k23, k24, k25, k26, k27, k28, k29, k30, k31, k32, k33, k34, k35, k36, k37, k38, k39, k40, k41⟩ := hF
            have s7 : b.tmps.getD 7 undef = .pointer (some ⟨hx, 0, none⟩) := (ho 7 rfl).trans rfl
            have r7 := getD_r s7
            have t0_ := (Tx.below U1).cells.1
            have t1_ := (Tx.below U1).cells.2.1
            have t2_ := (Tx.below U1).cells.2.2
            clear hb ho hmet
            rw [if_pos (by rfl)]
            go_simp
            exact hK.out (.agg #[.bool na, .slice px qx rx, .int .i64 0]) w' ⟨U1, (fun _ => rfl), k1, k2, k3, k4, k5, k6, k7, k8, k9, k10, k11, k12, k13, k14, k15, k16, k17, k18, k19, k20, k21, k22, k23, k24, k25, k26, k27, k28, k29, k30, k31, k32, k33, k34, k35, k36, k37, k38, k39, k40, k41⟩
          · intro L U w' b hF hLi hmet hb ho K hK
            obtain ⟨U1, k0, k1, k2, k3, k4, k5, k6, k7, k8, k9, k10, k11, k12, k13, k14, k15, k16, k17, k18, k19, k20, k21, k22, k23, k24, k25, k26, k27, k28, k29, k30, k31, k32, k33, k34, k35, k36, k37, k38, k39, k40, k41⟩ := hF
            have s8 : b.tmps.getD 8 undef = .pointer (some ⟨hy, 0, none⟩) := (ho 8 rfl).trans rfl
            have r8 := getD_r s8
            have t0_ := (Ty.below U1).cells.1
            have t1_ := (Ty.below U1).cells.2.1
            have t2_ := (Ty.below U1).cells.2.2
            clear hb ho hmet
            rw [if_pos (by rfl)]
            go_simp
            exact hK.out (.agg #[.bool nb, .slice py qy ry, .int .i64 0]) w' ⟨U1, k0, (fun _ => rfl), k2, k3, k4, k5, k6, k7, k8, k9, k10, k11, k12, k13, k14, k15, k16, k17, k18, k19, k20, k21, k22, k23, k24, k25, k26, k27, k28, k29, k30, k31, k32, k33, k34, k35, k36, k37, k38, k39, k40, k41⟩
          · intro L U w' b hF hLi hmet hb ho K hK
            obtain ⟨U1, k0, k1, k2, k3, k4, k5, k6, k7, k8, k9, k10, k11, k12, k13, k14, k15, k16, k17, k18, k19, k20, k21, k22, k23, k24, k25, k26, k27, k28, k29, k30, k31, k32, k33, k34, k35, k36, k37, k38, k39, k40, k41⟩ := hF
            have s9 : b.tmps.getD 9 undef = .pointer (some ⟨hz, 0, none⟩) := (ho 9 rfl).trans rfl
            have r9 := getD_r s9
            have t0_ := (Tz.below U1).cells.1
            have t1_ := (Tz.below U1).cells.2.1
            have t2_ := (Tz.below U1).cells.2.2
            clear hb ho hmet
            rw [if_pos (by rfl)]
            go_simp
            exact hK.out (.agg #[.bool nc, .slice pz qz rz, .int .i64 0]) w' ⟨U1, k0, k1, (fun _ => rfl), k3, k4, k5, k6, k7, k8, k9, k10, k11, k12, k13, k14, k15, k16, k17, k18, k19, k20, k21, k22, k23, k24, k25, k26, k27, k28, k29, k30, k31, k32, k33, k34, k35, k36, k37, k38, k39, k40, k41⟩
          · intro L U w' b hF hLi hmet hb ho K hK
            obtain ⟨U1, k0, k1, k2, k3, k4, k5, k6, k7, k8, k9, k10, k11, k12, k13, k14, k15, k16, k17, k18, k19, k20, k21, k22, k23, k24, k25, k26, k27, k28, k29, k30, k31, k32, k33, k34, k35, k36, k37, k38, k39, k40, k41⟩ := hF
            have s78 := (hb 1 78 rfl).trans (k1 (hmet.get rfl))
            have r78 := getD_r s78
            have s79 := (hb 2 79 rfl).trans (k2 (hmet.get rfl))
            have r79 := getD_r s79
            clear hb ho hmet
            rw [if_pos (by rfl)]
            go_simp
            go_at_call 67
            (with_reducible refine (C4.out _ _ _ _ _ _ _ (by exact (sy.below U1)) (by exact (sz.below U1))).mono ?_)
            rintro e_ wq ⟨ra, rl, rc, rfl, rs, bq⟩
            exact hK.out (.agg #[.bool nv4, .slice ra rl rc, .int .i64 ev4]) wq ⟨(U1.trans (bq.mono U1.size)), k0, k1, k2, (fun _ => ⟨ra, rl, rc, rfl, rs⟩), (fun h => (k4 h).below bq), k5, k6, (fun h => (k7 h).below bq), k8, k9, (fun h => (k10 h).below bq), (fun h => (k11 h).below bq), k12, k13, k14, k15, (fun h => (k16 h).below bq), (fun h => (k17 h).below bq), (fun h => (k18 h).below bq), k19, k20, k21, k22, k23, k24, (fun h => (k25 h).below bq), (fun h => (k26 h).below bq), (fun h => (k27 h).below bq), k28, k29, k30, k31, k32, k33, (fun h => (k34 h).below bq), (fun h => (k35 h).below bq), (fun h => (k36 h).below bq), (fun h => (k37 h).below bq), (fun h => (k38 h).below bq), k39, k40, k41⟩
          · intro L U w' b hF hLi hmet hb ho K hK
            obtain ⟨U1, k0, k1, k2, k3, k4, k5, k6, k7, k8, k9, k10, k11, k12, k13, k14, k15, k16, k17, k18, k19, k20, k21, k22, k23, k24, k25, k26, k27, k28, k29, k30, k31, k32, k33, k34, k35, k36, k37, k38, k39, k40, k41⟩ := hF
            have s77 := (hb 0 77 rfl).trans (k0 (hmet.get rfl))
            have r77 := getD_r s77
            obtain ⟨pa3, pl3, pc3, pe3, ps3⟩ := k3 (hmet.get rfl)
            have s80 := (hb 3 80 rfl).trans pe3
            have r80 := getD_r s80
            clear hb ho hmet
            rw [if_pos (by rfl)]
            go_simp
            go_at_call 68
            (with_reducible refine (C9.out _ _ _ _ _ _ _ (by exact (sx.below U1)) (by exact ps3)).mono ?_)
            rintro e_ wq ⟨ra, rl, rc, rfl, rs, bq⟩
            exact hK.out (.agg #[.bool nv9, .slice ra rl rc, .int .i64 ev9]) wq ⟨(U1.trans (bq.mono U1.size)), k0, k1, k2, (fun h => (k3 h).below bq), (fun _ => ⟨ra, rl, rc, rfl, rs⟩), k5, k6, (fun h => (k7 h).below bq), k8, k9, (fun h => (k10 h).below bq), (fun h => (k11 h).below bq), k12, k13, k14, k15, (fun h => (k16 h).below bq), (fun h => (k17 h).below bq), (fun h => (k18 h).below bq), k19, k20, k21, k22, k23, k24, (fun h => (k25 h).below bq), (fun h => (k26 h).below bq), (fun h => (k27 h).below bq), k28, k29, k30, k31, k32, k33, (fun h => (k34 h).below bq), (fun h => (k35 h).below bq), (fun h => (k36 h).below bq), (fun h => (k37 h).below bq), (fun h => (k38 h).below bq), k39, k40, k41⟩
          · intro L U w' b hF hLi hmet hb ho K hK
            obtain ⟨U1, k0, k1, k2, k3, k4, k5, k6, k7, k8, k9, k10, k11, k12, k13, k14, k15, k16, k17, k18, k19, k20, k21, k22, k23, k24, k25, k26, k27, k28, k29, k30, k31, k32, k33, k34, k35, k36, k37, k38, k39, k40, k41⟩ := hF
            have s7 : b.tmps.getD 7 undef = .pointer (some ⟨hx, 0, none⟩) := (ho 7 rfl).trans rfl
            have r7 := getD_r s7
            have t0_ := (Tx.below U1).cells.1
            have t1_ := (Tx.below U1).cells.2.1
            have t2_ := (Tx.below U1).cells.2.2
            clear hb ho hmet
            rw [if_pos (by rfl)]
            go_simp
            exact hK.out (.agg #[.bool na, .slice px qx rx, .int .i64 0]) w' ⟨U1, k0, k1, k2, k3, k4, (fun _ => rfl), k6, k7, k8, k9, k10, k11, k12, k13, k14, k15, k16, k17, k18, k19, k20, k21, k22, k23, k24, k25, k26, k27, k28, k29, k30, k31, k32, k33, k34, k35, k36, k37, k38, k39, k40, k41⟩
          · intro L U w' b hF hLi hmet hb ho K hK
            obtain ⟨U1, k0, k1, k2, k3, k4, k5, k6, k7, k8, k9, k10, k11, k12, k13, k14, k15, k16, k17, k18, k19, k20, k21, k22, k23, k24, k25, k26, k27, k28, k29, k30, k31, k32, k33, k34, k35, k36, k37, k38, k39, k40, k41⟩ := hF
            have s8 : b.tmps.getD 8 undef = .pointer (some ⟨hy, 0, none⟩) := (ho 8 rfl).trans rfl
            have r8 := getD_r s8
            have t0_ := (Ty.below U1).cells.1
            have t1_ := (Ty.below U1).cells.2.1
            have t2_ := (Ty.below U1).cells.2.2
            clear hb ho hmet
            rw [if_pos (by rfl)]
            go_simp
            exact hK.out (.agg #[.bool nb, .slice py qy ry, .int .i64 0]) w' ⟨U1, k0, k1, k2, k3, k4, k5, (fun _ => rfl), k7, k8, k9, k10, k11, k12, k13, k14, k15, k16, k17, k18, k19, k20, k21, k22, k23, k24, k25, k26, k27, k28, k29, k30, k31, k32, k33, k34, k35, k36, k37, k38, k39, k40, k41⟩
          · intro L U w' b hF hLi hmet hb ho K hK
            obtain ⟨U1, k0, k1, k2, k3, k4, k5, k6, k7, k8, k9, k10, k11, k12, k13, k14, k15, k16, k17, k18, k19, k20, k21, k22, k23, k24, k25, k26, k27, k28, k29, k30, k31, k32, k33, k34, k35, k36, k37, k38, k39, k40, k41⟩ := hF
            have s82 := (hb 5 82 rfl).trans (k5 (hmet.get rfl))
            have r82 := getD_r s82
            have s83 := (hb 6 83 rfl).trans (k6 (hmet.get rfl))
            have r83 := getD_r s83
            clear hb ho hmet
            rw [if_pos (by rfl)]
            go_simp
            go_at_call 68
            (with_reducible refine (C2.out _ _ _ _ _ _ _ (by exact (sx.below U1)) (by exact (sy.below U1))).mono ?_)
            rintro e_ wq ⟨ra, rl, rc, rfl, rs, bq⟩
            exact hK.out (.agg #[.bool nv2, .slice ra rl rc, .int .i64 ev2]) wq ⟨(U1.trans (bq.mono U1.size)), k0, k1, k2, (fun h => (k3 h).below bq), (fun h => (k4 h).below bq), k5, k6, (fun _ => ⟨ra, rl, rc, rfl, rs⟩), k8, k9, (fun h => (k10 h).below bq), (fun h => (k11 h).below bq), k12, k13, k14, k15, (fun h => (k16 h).below bq), (fun h => (k17 h).below bq), (fun h => (k18 h).below bq), k19, k20, k21, k22, k23, k24, (fun h => (k25 h).below bq), (fun h => (k26 h).below bq), (fun h => (k27 h).below bq), k28, k29, k30, k31, k32, k33, (fun h => (k34 h).below bq), (fun h => (k35 h).below bq), (fun h => (k36 h).below bq), (fun h => (k37 h).below bq), (fun h => (k38 h).below bq), k39, k40, k41⟩
          · intro L U w' b hF hLi hmet hb ho K hK
            obtain ⟨U1, k0, k1, k2, k3, k4, k5, k6, k7, k8, k9, k10, k11, k12, k13, k14, k15, k16, k17, k18, k19, k20, k21, k22, k23, k24, k25, k26, k27, k28, k29, k30, k31, k32, k33, k34, k35, k36, k37, k38, k39, k40, k41⟩ := hF
            have s7 : b.tmps.getD 7 undef = .pointer (some ⟨hx, 0, none⟩) := (ho 7 rfl).trans rfl
            have r7 := getD_r s7
            have t0_ := (Tx.below U1).cells.1
            have t1_ := (Tx.below U1).cells.2.1
            have t2_ := (Tx.below U1).cells.2.2
            clear hb ho hmet
            rw [if_pos (by rfl)]
            go_simp
            exact hK.out (.agg #[.bool na, .slice px qx rx, .int .i64 0]) w' ⟨U1, k0, k1, k2, k3, k4, k5, k6, k7, (fun _ => rfl), k9, k10, k11, k12, k13, k14, k15, k16, k17, k18, k19, k20, k21, k22, k23, k24, k25, k26, k27, k28, k29, k30, k31, k32, k33, k34, k35, k36, k37, k38, k39, k40, k41⟩
          · intro L U w' b hF hLi hmet hb ho K hK
            obtain ⟨U1, k0, k1, k2, k3, k4, k5, k6, k7, k8, k9, k10, k11, k12, k13, k14, k15, k16, k17, k18, k19, k20, k21, k22, k23, k24, k25, k26, k27, k28, k29, k30, k31, k32, k33, k34, k35, k36, k37, k38, k39, k40, k41⟩ := hF
            have s9 : b.tmps.getD 9 undef = .pointer (some ⟨hz, 0, none⟩) := (ho 9 rfl).trans rfl
            have r9 := getD_r s9
            have t0_ := (Tz.below U1).cells.1
            have t1_ := (Tz.below U1).cells.2.1
            have t2_ := (Tz.below U1).cells.2.2
            clear hb ho hmet
            rw [if_pos (by rfl)]
            go_simp
            exact hK.out (.agg #[.bool nc, .slice pz qz rz, .int .i64 0]) w' ⟨U1, k0, k1, k2, k3, k4, k5, k6, k7, k8, (fun _ => rfl), k10, k11, k12, k13, k14, k15, k16, k17, k18, k19, k20, k21, k22, k23, k24, k25, k26, k27, k28, k29, k30, k31, k32, k33, k34, k35, k36, k37, k38, k39, k40, k41⟩
          · intro L U w' b hF hLi hmet hb ho K hK
            obtain ⟨U1, k0, k1, k2, k3, k4, k5, k6, k7, k8, k9, k10, k11, k12, k13, k14, k15, k16, k17, k18, k19, k20, k21, k22, k23, k24, k25, k26, k27, k28, k29, k30, k31, k32, k33, k34, k35, k36, k37, k38, k39, k40, k41⟩ := hF
            have s85 := (hb 8 85 rfl).trans (k8 (hmet.get rfl))
            have r85 := getD_r s85
            have s86 := (hb 9 86 rfl).trans (k9 (hmet.get rfl))
            have r86 := getD_r s86
            clear hb ho hmet
            rw [if_pos (by rfl)]
            go_simp
            go_at_call 68
            (with_reducible refine (C10.out _ _ _ _ _ _ _ (by exact (sx.below U1)) (by exact (sz.below U1))).mono ?_)
            rintro e_ wq ⟨ra, rl, rc, rfl, rs, bq⟩
            exact hK.out (.agg #[.bool nv10, .slice ra rl rc, .int .i64 ev10]) wq ⟨(U1.trans (bq.mono U1.size)), k0, k1, k2, (fun h => (k3 h).below bq), (fun h => (k4 h).below bq), k5, k6, (fun h => (k7 h).below bq), k8, k9, (fun _ => ⟨ra, rl, rc, rfl, rs⟩), (fun h => (k11 h).below bq), k12, k13, k14, k15, (fun h => (k16 h).below bq), (fun h => (k17 h).below bq), (fun h => (k18 h).below bq), k19, k20, k21, k22, k23, k24, (fun h => (k25 h).below bq), (fun h => (k26 h).below bq), (fun h => (k27 h).below bq), k28, k29, k30, k31, k32, k33, (fun h => (k34 h).below bq), (fun h => (k35 h).below bq), (fun h => (k36 h).below bq), (fun h => (k37 h).below bq), (fun h => (k38 h).below bq), k39, k40, k41⟩
          · intro L U w' b hF hLi hmet hb ho K hK
            obtain ⟨U1, k0, k1, k2, k3, k4, k5, k6, k7, k8, k9, k10, k11, k12, k13, k14, k15, k16, k17, k18, k19, k20, k21, k22, k23, k24, k25, k26, k27, k28, k29, k30, k31, k32, k33, k34, k35, k36, k37, k38, k39, k40, k41⟩ := hF
            obtain ⟨pa7, pl7, pc7, pe7, ps7⟩ := k7 (hmet.get rfl)
            have s84 := (hb 7 84 rfl).trans pe7
            have r84 := getD_r s84
            obtain ⟨pa10, pl10, pc10, pe10, ps10⟩ := k10 (hmet.get rfl)
            have s87 := (hb 10 87 rfl).trans pe10
            have r87 := getD_r s87
            clear hb ho hmet
            rw [if_pos (by rfl)]
            go_simp
            go_at_call 67
            (with_reducible refine (C11.out _ _ _ _ _ _ _ (by exact ps7) (by exact ps10)).mono ?_)
            rintro e_ wq ⟨ra, rl, rc, rfl, rs, bq⟩
            exact hK.out (.agg #[.bool nv11, .slice ra rl rc, .int .i64 ev11]) wq ⟨(U1.trans (bq.mono U1.size)), k0, k1, k2, (fun h => (k3 h).below bq), (fun h => (k4 h).below bq), k5, k6, (fun h => (k7 h).below bq), k8, k9, (fun h => (k10 h).below bq), (fun _ => ⟨ra, rl, rc, rfl, rs⟩), k12, k13, k14, k15, (fun h => (k16 h).below bq), (fun h => (k17 h).below bq), (fun h => (k18 h).below bq), k19, k20, k21, k22, k23, k24, (fun h => (k25 h).below bq), (fun h => (k26 h).below bq), (fun h => (k27 h).below bq), k28, k29, k30, k31, k32, k33, (fun h => (k34 h).below bq), (fun h => (k35 h).below bq), (fun h => (k36 h).below bq), (fun h => (k37 h).below bq), (fun h => (k38 h).below bq), k39, k40, k41⟩
          · intro L U w' b hF hLi hmet hb ho K hK
            obtain ⟨U1, k0, k1, k2, k3, k4, k5, k6, k7, k8, k9, k10, k11, k12, k13, k14, k15, k16, k17, k18, k19, k20, k21, k22, k23, k24, k25, k26, k27, k28, k29, k30, k31, k32, k33, k34, k35, k36, k37, k38, k39, k40, k41⟩ := hF
            obtain ⟨pa4, pl4, pc4, pe4, ps4⟩ := k4 (hmet.get rfl)
            have s81 := (hb 4 81 rfl).trans pe4
            have r81 := getD_r s81
            obtain ⟨pa11, pl11, pc11, pe11, ps11⟩ := k11 (hmet.get rfl)
            have s88 := (hb 11 88 rfl).trans pe11
            have r88 := getD_r s88
            clear hb ho hmet
            rw [if_pos (by rfl)]
            go_simp
            go_at_call 66
            (with_reducible refine (A5.out _ _ _ _ _ _ _ (by exact ps4) (by exact ps11)).mono ?_)
            rintro e_ wq ⟨rfl, bq⟩
            exact hK.out (.bool true) wq ⟨(U1.trans (bq.mono U1.size)), k0, k1, k2, (fun h => (k3 h).below bq), (fun h => (k4 h).below bq), k5, k6, (fun h => (k7 h).below bq), k8, k9, (fun h => (k10 h).below bq), (fun h => (k11 h).below bq), (fun _ => rfl), k13, k14, k15, (fun h => (k16 h).below bq), (fun h => (k17 h).below bq), (fun h => (k18 h).below bq), k19, k20, k21, k22, k23, k24, (fun h => (k25 h).below bq), (fun h => (k26 h).below bq), (fun h => (k27 h).below bq), k28, k29, k30, k31, k32, k33, (fun h => (k34 h).below bq), (fun h => (k35 h).below bq), (fun h => (k36 h).below bq), (fun h => (k37 h).below bq), (fun h => (k38 h).below bq), k39, k40, k41⟩
          · intro L U w' b hF hLi hmet hb ho K hK
            obtain ⟨U1, k0, k1, k2, k3, k4, k5, k6, k7, k8, k9, k10, k11, k12, k13, k14, k15, k16, k17, k18, k19, k20, k21, k22, k23, k24, k25, k26, k27, k28, k29, k30, k31, k32, k33, k34, k35, k36, k37, k38, k39, k40, k41⟩ := hF
            have s89 := (hb 12 89 rfl).trans (k12 (hmet.get rfl))
            have r89 := getD_r s89
            clear hb ho hmet
            rw [if_pos (by rfl)]
            go_simp
            exact hK.out (.bool false) w' ⟨U1, k0, k1, k2, k3, k4, k5, k6, k7, k8, k9, k10, k11, k12, (fun _ => rfl), k14, k15, k16, k17, k18, k19, k20, k21, k22, k23, k24, k25, k26, k27, k28, k29, k30, k31, k32, k33, k34, k35, k36, k37, k38, k39, k40, k41⟩
          · intro L U w' b hF hLi hmet hb ho K hK
            obtain ⟨U1, k0, k1, k2, k3, k4, k5, k6, k7, k8, k9, k10, k11, k12, k13, k14, k15, k16, k17, k18, k19, k20, k21, k22, k23, k24, k25, k26, k27, k28, k29, k30, k31, k32, k33, k34, k35, k36, k37, k38, k39, k40, k41⟩ := hF
            have s90 := (hb 13 90 rfl).trans (k13 (hmet.get rfl))
            have r90 := getD_r s90
            clear hb ho hmet
            rw [if_pos (by rfl)]
            go_simp
            exact hK.out (.bool false) w' ⟨U1, k0, k1, k2, k3, k4, k5, k6, k7, k8, k9, k10, k11, k12, k13, (fun _ => rfl), k15, k16, k17, k18, k19, k20, k21, k22, k23, k24, k25, k26, k27, k28, k29, k30, k31, k32, k33, k34, k35, k36, k37, k38, k39, k40, k41⟩
          · intro L U w' b hF hLi hmet hb ho K hK
            obtain ⟨U1, k0, k1, k2, k3, k4, k5, k6, k7, k8, k9, k10, k11, k12, k13, k14, k15, k16, k17, k18, k19, k20, k21, k22, k23, k24, k25, k26, k27, k28, k29, k30, k31, k32, k33, k34, k35, k36, k37, k38, k39, k40, k41⟩ := hF
            have s91 := (hb 14 91 rfl).trans (k14 (hmet.get rfl))
            have r91 := getD_r s91
            have s7 : b.tmps.getD 7 undef = .pointer (some ⟨hx, 0, none⟩) := (ho 7 rfl).trans rfl
            have r7 := getD_r s7
            have t0_ := (Tx.below U1).cells.1
            have t1_ := (Tx.below U1).cells.2.1
            have t2_ := (Tx.below U1).cells.2.2
            clear hb ho hmet
            rw [if_pos (wants rfl rfl s91)]
            go_simp
            exact hK.out (.agg #[.bool na, .slice px qx rx, .int .i64 0]) w' ⟨U1, k0, k1, k2, k3, k4, k5, k6, k7, k8, k9, k10, k11, k12, k13, k14, (fun _ => rfl), k16, k17, k18, k19, k20, k21, k22, k23, k24, k25, k26, k27, k28, k29, k30, k31, k32, k33, k34, k35, k36, k37, k38, k39, k40, k41⟩
          · intro L U w' b hF hLi hmet hb ho K hK
            obtain ⟨U1, k0, k1, k2, k3, k4, k5, k6, k7, k8, k9, k10, k11, k12, k13, k14, k15, k16, k17, k18, k19, k20, k21, k22, k23, k24, k25, k26, k27, k28, k29, k30, k31, k32, k33, k34, k35, k36, k37, k38, k39, k40, k41⟩ := hF
            have s91 := (hb 14 91 rfl).trans (k14 (hmet.get rfl))
            have r91 := getD_r s91
            clear hb ho hmet
            rw [if_pos (wants rfl rfl s91)]
            go_simp
            go_at_call 69
            (with_reducible refine (O0.out _).mono ?_)
            rintro e_ wq ⟨ra, rl, rc, rfl, rs, bq⟩
            exact hK.out (.agg #[.bool n0, .slice ra rl rc]) wq ⟨(U1.trans (bq.mono U1.size)), k0, k1, k2, (fun h => (k3 h).below bq), (fun h => (k4 h).below bq), k5, k6, (fun h => (k7 h).below bq), k8, k9, (fun h => (k10 h).below bq), (fun h => (k11 h).below bq), k12, k13, k14, k15, (fun _ => ⟨ra, rl, rc, rfl, rs⟩), (fun h => (k17 h).below bq), (fun h => (k18 h).below bq), k19, k20, k21, k22, k23, k24, (fun h => (k25 h).below bq), (fun h => (k26 h).below bq), (fun h => (k27 h).below bq), k28, k29, k30, k31, k32, k33, (fun h => (k34 h).below bq), (fun h => (k35 h).below bq), (fun h => (k36 h).below bq), (fun h => (k37 h).below bq), (fun h => (k38 h).below bq), k39, k40, k41⟩
          · intro L U w' b hF hLi hmet hb ho K hK
            obtain ⟨U1, k0, k1, k2, k3, k4, k5, k6, k7, k8, k9, k10, k11, k12, k13, k14, k15, k16, k17, k18, k19, k20, k21, k22, k23, k24, k25, k26, k27, k28, k29, k30, k31, k32, k33, k34, k35, k36, k37, k38, k39, k40, k41⟩ := hF
            have s91 := (hb 14 91 rfl).trans (k14 (hmet.get rfl))
            have r91 := getD_r s91
            obtain ⟨pa16, pl16, pc16, pe16, ps16⟩ := k16 (hmet.get rfl)
            have s93 := (hb 16 93 rfl).trans pe16
            have r93 := getD_r s93
            clear hb ho hmet
            rw [if_pos (wants rfl rfl s91)]
            go_simp
            go_at_call 65
            (with_reducible refine (lawValP (by exact ps16)).mono ?_)
            rintro e_ wq ⟨ra, rl, rc, rfl, rs, bq⟩
            exact hK.out (.agg #[.bool n0, .slice ra rl rc, .int .i64 0]) wq ⟨(U1.trans (bq.mono U1.size)), k0, k1, k2, (fun h => (k3 h).below bq), (fun h => (k4 h).below bq), k5, k6, (fun h => (k7 h).below bq), k8, k9, (fun h => (k10 h).below bq), (fun h => (k11 h).below bq), k12, k13, k14, k15, (fun h => (k16 h).below bq), (fun _ => ⟨ra, rl, rc, rfl, rs⟩), (fun h => (k18 h).below bq), k19, k20, k21, k22, k23, k24, (fun h => (k25 h).below bq), (fun h => (k26 h).below bq), (fun h => (k27 h).below bq), k28, k29, k30, k31, k32, k33, (fun h => (k34 h).below bq), (fun h => (k35 h).below bq), (fun h => (k36 h).below bq), (fun h => (k37 h).below bq), (fun h => (k38 h).below bq), k39, k40, k41⟩
          · intro L U w' b hF hLi hmet hb ho K hK
            obtain ⟨U1, k0, k1, k2, k3, k4, k5, k6, k7, k8, k9, k10, k11, k12, k13, k14, k15, k16, k17, k18, k19, k20, k21, k22, k23, k24, k25, k26, k27, k28, k29, k30, k31, k32, k33, k34, k35, k36, k37, k38, k39, k40, k41⟩ := hF
            have s91 := (hb 14 91 rfl).trans (k14 (hmet.get rfl))
            have r91 := getD_r s91
            have s92 := (hb 15 92 rfl).trans (k15 (hmet.get rfl))
            have r92 := getD_r s92
            obtain ⟨pa17, pl17, pc17, pe17, ps17⟩ := k17 (hmet.get rfl)
            have s94 := (hb 17 94 rfl).trans pe17
            have r94 := getD_r s94
            clear hb ho hmet
            rw [if_pos (wants rfl rfl s91)]
            go_simp
            go_at_call 67
            (with_reducible refine (C12.out _ _ _ _ _ _ _ (by exact (sx.below U1)) (by exact ps17)).mono ?_)
            rintro e_ wq ⟨ra, rl, rc, rfl, rs, bq⟩
            exact hK.out (.agg #[.bool na, .slice ra rl rc, .int .i64 0]) wq ⟨(U1.trans (bq.mono U1.size)), k0, k1, k2, (fun h => (k3 h).below bq), (fun h => (k4 h).below bq), k5, k6, (fun h => (k7 h).below bq), k8, k9, (fun h => (k10 h).below bq), (fun h => (k11 h).below bq), k12, k13, k14, k15, (fun h => (k16 h).below bq), (fun h => (k17 h).below bq), (fun _ => ⟨ra, rl, rc, rfl, rs⟩), k19, k20, k21, k22, k23, k24, (fun h => (k25 h).below bq), (fun h => (k26 h).below bq), (fun h => (k27 h).below bq), k28, k29, k30, k31, k32, k33, (fun h => (k34 h).below bq), (fun h => (k35 h).below bq), (fun h => (k36 h).below bq), (fun h => (k37 h).below bq), (fun h => (k38 h).below bq), k39, k40, k41⟩
          · intro L U w' b hF hLi hmet hb ho K hK
            obtain ⟨U1, k0, k1, k2, k3, k4, k5, k6, k7, k8, k9, k10, k11, k12, k13, k14, k15, k16, k17, k18, k19, k20, k21, k22, k23, k24, k25, k26, k27, k28, k29, k30, k31, k32, k33, k34, k35, k36, k37, k38, k39, k40, k41⟩ := hF
            have s91 := (hb 14 91 rfl).trans (k14 (hmet.get rfl))
            have r91 := getD_r s91
            have s7 : b.tmps.getD 7 undef = .pointer (some ⟨hx, 0, none⟩) := (ho 7 rfl).trans rfl
            have r7 := getD_r s7
            have t0_ := (Tx.below U1).cells.1
            have t1_ := (Tx.below U1).cells.2.1
            have t2_ := (Tx.below U1).cells.2.2
            clear hb ho hmet
            rw [if_pos (wants rfl rfl s91)]
            go_simp
            exact hK.out (.agg #[.bool na, .slice px qx rx, .int .i64 0]) w' ⟨U1, k0, k1, k2, k3, k4, k5, k6, k7, k8, k9, k10, k11, k12, k13, k14, k15, k16, k17, k18, (fun _ => rfl), k20, k21, k22, k23, k24, k25, k26, k27, k28, k29, k30, k31, k32, k33, k34, k35, k36, k37, k38, k39, k40, k41⟩
          · intro L U w' b hF hLi hmet hb ho K hK
            obtain ⟨U1, k0, k1, k2, k3, k4, k5, k6, k7, k8, k9, k10, k11, k12, k13, k14, k15, k16, k17, k18, k19, k20, k21, k22, k23, k24, k25, k26, k27, k28, k29, k30, k31, k32, k33, k34, k35, k36, k37, k38, k39, k40, k41⟩ := hF
            have s91 := (hb 14 91 rfl).trans (k14 (hmet.get rfl))
            have r91 := getD_r s91
            obtain ⟨pa18, pl18, pc18, pe18, ps18⟩ := k18 (hmet.get rfl)
            have s95 := (hb 18 95 rfl).trans pe18
            have r95 := getD_r s95
            have s96 := (hb 19 96 rfl).trans (k19 (hmet.get rfl))
            have r96 := getD_r s96
            clear hb ho hmet
            rw [if_pos (wants rfl rfl s91)]
            go_simp
            go_at_call 27
            (with_reducible refine (Sa.out _ _ _ _ _ _ _ (by exact ps18) (by exact (sx.below U1))).mono ?_)
            rintro e_ wq ⟨rfl, bq⟩
            exact hK.out (.bool true) wq ⟨(U1.trans (bq.mono U1.size)), k0, k1, k2, (fun h => (k3 h).below bq), (fun h => (k4 h).below bq), k5, k6, (fun h => (k7 h).below bq), k8, k9, (fun h => (k10 h).below bq), (fun h => (k11 h).below bq), k12, k13, k14, k15, (fun h => (k16 h).below bq), (fun h => (k17 h).below bq), (fun h => (k18 h).below bq), k19, (fun _ => rfl), k21, k22, k23, k24, (fun h => (k25 h).below bq), (fun h => (k26 h).below bq), (fun h => (k27 h).below bq), k28, k29, k30, k31, k32, k33, (fun h => (k34 h).below bq), (fun h => (k35 h).below bq), (fun h => (k36 h).below bq), (fun h => (k37 h).below bq), (fun h => (k38 h).below bq), k39, k40, k41⟩
          · intro L U w' b hF hLi hmet hb ho K hK
            obtain ⟨U1, k0, k1, k2, k3, k4, k5, k6, k7, k8, k9, k10, k11, k12, k13, k14, k15, k16, k17, k18, k19, k20, k21, k22, k23, k24, k25, k26, k27, k28, k29, k30, k31, k32, k33, k34, k35, k36, k37, k38, k39, k40, k41⟩ := hF
            have s91 := (hb 14 91 rfl).trans (k14 (hmet.get rfl))
            have r91 := getD_r s91
            have s97 := (hb 20 97 rfl).trans (k20 (hmet.get rfl))
            have r97 := getD_r s97
            clear hb ho hmet
            rw [if_pos (wants rfl rfl s91)]
            go_simp
            exact hK.out (.bool false) w' ⟨U1, k0, k1, k2, k3, k4, k5, k6, k7, k8, k9, k10, k11, k12, k13, k14, k15, k16, k17, k18, k19, k20, (fun _ => rfl), k22, k23, k24, k25, k26, k27, k28, k29, k30, k31, k32, k33, k34, k35, k36, k37, k38, k39, k40, k41⟩
          · intro L U w' b hF hLi hmet hb ho K hK
            obtain ⟨U1, k0, k1, k2, k3, k4, k5, k6, k7, k8, k9, k10, k11, k12, k13, k14, k15, k16, k17, k18, k19, k20, k21, k22, k23, k24, k25, k26, k27, k28, k29, k30, k31, k32, k33, k34, k35, k36, k37, k38, k39, k40, k41⟩ := hF
            have s91 := (hb 14 91 rfl).trans (k14 (hmet.get rfl))
            have r91 := getD_r s91
            have s98 := (hb 21 98 rfl).trans (k21 (hmet.get rfl))
            have r98 := getD_r s98
            clear hb ho hmet
            rw [if_pos (by rfl)]
            go_simp
            exact hK.out (.bool false) w' ⟨U1, k0, k1, k2, k3, k4, k5, k6, k7, k8, k9, k10, k11, k12, k13, k14, k15, k16, k17, k18, k19, k20, k21, (fun _ => rfl), k23, k24, k25, k26, k27, k28, k29, k30, k31, k32, k33, k34, k35, k36, k37, k38, k39, k40, k41⟩
          · intro L U w' b hF hLi hmet hb ho K hK
            obtain ⟨U1, k0, k1, k2, k3, k4, k5, k6, k7, k8, k9, k10, k11, k12, k13, k14, k15, k16, k17, k18, k19, k20, k21, k22, k23, k24, k25, k26, k27, k28, k29, k30, k31, k32, k33, k34, k35, k36, k37, k38, k39, k40, k41⟩ := hF
            have s99 := (hb 22 99 rfl).trans (k22 (hmet.get rfl))
            have r99 := getD_r s99
            clear hb ho hmet
            rw [if_pos (by rfl)]
            go_simp
            exact hK.out (.bool false) w' ⟨U1, k0, k1, k2, k3, k4, k5, k6, k7, k8, k9, k10, k11, k12, k13, k14, k15, k16, k17, k18, k19, k20, k21, k22, (fun _ => rfl), k24, k25, k26, k27, k28, k29, k30, k31, k32, k33, k34, k35, k36, k37, k38, k39, k40, k41⟩
          · intro L U w' b hF hLi hmet hb ho K hK
            obtain ⟨U1, k0, k1, k2, k3, k4, k5, k6, k7, k8, k9, k10, k11, k12, k13, k14, k15, k16, k17, k18, k19, k20, k21, k22, k23, k24, k25, k26, k27, k28, k29, k30, k31, k32, k33, k34, k35, k36, k37, k38, k39, k40, k41⟩ := hF
            have s100 := (hb 23 100 rfl).trans (k23 (hmet.get rfl))
            have r100 := getD_r s100
            have s7 : b.tmps.getD 7 undef = .pointer (some ⟨hx, 0, none⟩) := (ho 7 rfl).trans rfl
            have r7 := getD_r s7
            have t0_ := (Tx.below U1).cells.1
            have t1_ := (Tx.below U1).cells.2.1
            have t2_ := (Tx.below U1).cells.2.2
            clear hb ho hmet
            rw [if_pos (wants rfl rfl s100)]
            go_simp
            exact hK.out (.agg #[.bool na, .slice px qx rx, .int .i64 0]) w' ⟨U1, k0, k1, k2, k3, k4, k5, k6, k7, k8, k9, k10, k11, k12, k13, k14, k15, k16, k17, k18, k19, k20, k21, k22, k23, (fun _ => rfl), k25, k26, k27, k28, k29, k30, k31, k32, k33, k34, k35, k36, k37, k38, k39, k40, k41⟩
          · intro L U w' b hF hLi hmet hb ho K hK
            obtain ⟨U1, k0, k1, k2, k3, k4, k5, k6, k7, k8, k9, k10, k11, k12, k13, k14, k15, k16, k17, k18, k19, k20, k21, k22, k23, k24, k25, k26, k27, k28, k29, k30, k31, k32, k33, k34, k35, k36, k37, k38, k39, k40, k41⟩ := hF
            have s100 := (hb 23 100 rfl).trans (k23 (hmet.get rfl))
            have r100 := getD_r s100
            clear hb ho hmet
            rw [if_pos (wants rfl rfl s100)]
            go_simp
            go_at_call 69
            (with_reducible refine (O1.out _).mono ?_)
            rintro e_ wq ⟨ra, rl, rc, rfl, rs, bq⟩
            exact hK.out (.agg #[.bool n1, .slice ra rl rc]) wq ⟨(U1.trans (bq.mono U1.size)), k0, k1, k2, (fun h => (k3 h).below bq), (fun h => (k4 h).below bq), k5, k6, (fun h => (k7 h).below bq), k8, k9, (fun h => (k10 h).below bq), (fun h => (k11 h).below bq), k12, k13, k14, k15, (fun h => (k16 h).below bq), (fun h => (k17 h).below bq), (fun h => (k18 h).below bq), k19, k20, k21, k22, k23, k24, (fun _ => ⟨ra, rl, rc, rfl, rs⟩), (fun h => (k26 h).below bq), (fun h => (k27 h).below bq), k28, k29, k30, k31, k32, k33, (fun h => (k34 h).below bq), (fun h => (k35 h).below bq), (fun h => (k36 h).below bq), (fun h => (k37 h).below bq), (fun h => (k38 h).below bq), k39, k40, k41⟩
          · intro L U w' b hF hLi hmet hb ho K hK
            obtain ⟨U1, k0, k1, k2, k3, k4, k5, k6, k7, k8, k9, k10, k11, k12, k13, k14, k15, k16, k17, k18, k19, k20, k21, k22, k23, k24, k25, k26, k27, k28, k29, k30, k31, k32, k33, k34, k35, k36, k37, k38, k39, k40, k41⟩ := hF
            have s100 := (hb 23 100 rfl).trans (k23 (hmet.get rfl))
            have r100 := getD_r s100
            obtain ⟨pa25, pl25, pc25, pe25, ps25⟩ := k25 (hmet.get rfl)
            have s102 := (hb 25 102 rfl).trans pe25
            have r102 := getD_r s102
            clear hb ho hmet
            rw [if_pos (wants rfl rfl s100)]
            go_simp
            go_at_call 65
            (with_reducible refine (lawValP (by exact ps25)).mono ?_)
            rintro e_ wq ⟨ra, rl, rc, rfl, rs, bq⟩
            exact hK.out (.agg #[.bool n1, .slice ra rl rc, .int .i64 0]) wq ⟨(U1.trans (bq.mono U1.size)), k0, k1, k2, (fun h => (k3 h).below bq), (fun h => (k4 h).below bq), k5, k6, (fun h => (k7 h).below bq), k8, k9, (fun h => (k10 h).below bq), (fun h => (k11 h).below bq), k12, k13, k14, k15, (fun h => (k16 h).below bq), (fun h => (k17 h).below bq), (fun h => (k18 h).below bq), k19, k20, k21, k22, k23, k24, (fun h => (k25 h).below bq), (fun _ => ⟨ra, rl, rc, rfl, rs⟩), (fun h => (k27 h).below bq), k28, k29, k30, k31, k32, k33, (fun h => (k34 h).below bq), (fun h => (k35 h).below bq), (fun h => (k36 h).below bq), (fun h => (k37 h).below bq), (fun h => (k38 h).below bq), k39, k40, k41⟩
          · intro L U w' b hF hLi hmet hb ho K hK
            obtain ⟨U1, k0, k1, k2, k3, k4, k5, k6, k7, k8, k9, k10, k11, k12, k13, k14, k15, k16, k17, k18, k19, k20, k21, k22, k23, k24, k25, k26, k27, k28, k29, k30, k31, k32, k33, k34, k35, k36, k37, k38, k39, k40, k41⟩ := hF
            have s100 := (hb 23 100 rfl).trans (k23 (hmet.get rfl))
            have r100 := getD_r s100
            have s101 := (hb 24 101 rfl).trans (k24 (hmet.get rfl))
            have r101 := getD_r s101
            obtain ⟨pa26, pl26, pc26, pe26, ps26⟩ := k26 (hmet.get rfl)
            have s103 := (hb 26 103 rfl).trans pe26
            have r103 := getD_r s103
            clear hb ho hmet
            rw [if_pos (wants rfl rfl s100)]
            go_simp
            go_at_call 68
            (with_reducible refine (C13.out _ _ _ _ _ _ _ (by exact (sx.below U1)) (by exact ps26)).mono ?_)
            rintro e_ wq ⟨ra, rl, rc, rfl, rs, bq⟩
            exact hK.out (.agg #[.bool na, .slice ra rl rc, .int .i64 0]) wq ⟨(U1.trans (bq.mono U1.size)), k0, k1, k2, (fun h => (k3 h).below bq), (fun h => (k4 h).below bq), k5, k6, (fun h => (k7 h).below bq), k8, k9, (fun h => (k10 h).below bq), (fun h => (k11 h).below bq), k12, k13, k14, k15, (fun h => (k16 h).below bq), (fun h => (k17 h).below bq), (fun h => (k18 h).below bq), k19, k20, k21, k22, k23, k24, (fun h => (k25 h).below bq), (fun h => (k26 h).below bq), (fun _ => ⟨ra, rl, rc, rfl, rs⟩), k28, k29, k30, k31, k32, k33, (fun h => (k34 h).below bq), (fun h => (k35 h).below bq), (fun h => (k36 h).below bq), (fun h => (k37 h).below bq), (fun h => (k38 h).below bq), k39, k40, k41⟩
          · intro L U w' b hF hLi hmet hb ho K hK
            obtain ⟨U1, k0, k1, k2, k3, k4, k5, k6, k7, k8, k9, k10, k11, k12, k13, k14, k15, k16, k17, k18, k19, k20, k21, k22, k23, k24, k25, k26, k27, k28, k29, k30, k31, k32, k33, k34, k35, k36, k37, k38, k39, k40, k41⟩ := hF
            have s100 := (hb 23 100 rfl).trans (k23 (hmet.get rfl))
            have r100 := getD_r s100
            have s7 : b.tmps.getD 7 undef = .pointer (some ⟨hx, 0, none⟩) := (ho 7 rfl).trans rfl
            have r7 := getD_r s7
            have t0_ := (Tx.below U1).cells.1
            have t1_ := (Tx.below U1).cells.2.1
            have t2_ := (Tx.below U1).cells.2.2
            clear hb ho hmet
            rw [if_pos (wants rfl rfl s100)]
            go_simp
            exact hK.out (.agg #[.bool na, .slice px qx rx, .int .i64 0]) w' ⟨U1, k0, k1, k2, k3, k4, k5, k6, k7, k8, k9, k10, k11, k12, k13, k14, k15, k16, k17, k18, k19, k20, k21, k22, k23, k24, k25, k26, k27, (fun _ => rfl), k29, k30, k31, k32, k33, k34, k35, k36, k37, k38, k39, k40, k41⟩
          · intro L U w' b hF hLi hmet hb ho K hK
            obtain ⟨U1, k0, k1, k2, k3, k4, k5, k6, k7, k8, k9, k10, k11, k12, k13, k14, k15, k16, k17, k18, k19, k20, k21, k22, k23, k24, k25, k26, k27, k28, k29, k30, k31, k32, k33, k34, k35, k36, k37, k38, k39, k40, k41⟩ := hF
            have s100 := (hb 23 100 rfl).trans (k23 (hmet.get rfl))
            have r100 := getD_r s100
            obtain ⟨pa27, pl27, pc27, pe27, ps27⟩ := k27 (hmet.get rfl)
            have s104 := (hb 27 104 rfl).trans pe27
            have r104 := getD_r s104
            have s105 := (hb 28 105 rfl).trans (k28 (hmet.get rfl))
            have r105 := getD_r s105
            clear hb ho hmet
            rw [if_pos (wants rfl rfl s100)]
            go_simp
            go_at_call 27
            (with_reducible refine (Sa.out _ _ _ _ _ _ _ (by exact ps27) (by exact (sx.below U1))).mono ?_)
            rintro e_ wq ⟨rfl, bq⟩
            exact hK.out (.bool true) wq ⟨(U1.trans (bq.mono U1.size)), k0, k1, k2, (fun h => (k3 h).below bq), (fun h => (k4 h).below bq), k5, k6, (fun h => (k7 h).below bq), k8, k9, (fun h => (k10 h).below bq), (fun h => (k11 h).below bq), k12, k13, k14, k15, (fun h => (k16 h).below bq), (fun h => (k17 h).below bq), (fun h => (k18 h).below bq), k19, k20, k21, k22, k23, k24, (fun h => (k25 h).below bq), (fun h => (k26 h).below bq), (fun h => (k27 h).below bq), k28, (fun _ => rfl), k30, k31, k32, k33, (fun h => (k34 h).below bq), (fun h => (k35 h).below bq), (fun h => (k36 h).below bq), (fun h => (k37 h).below bq), (fun h => (k38 h).below bq), k39, k40, k41⟩
          · intro L U w' b hF hLi hmet hb ho K hK
            obtain ⟨U1, k0, k1, k2, k3, k4, k5, k6, k7, k8, k9, k10, k11, k12, k13, k14, k15, k16, k17, k18, k19, k20, k21, k22, k23, k24, k25, k26, k27, k28, k29, k30, k31, k32, k33, k34, k35, k36, k37, k38, k39, k40, k41⟩ := hF
            have s100 := (hb 23 100 rfl).trans (k23 (hmet.get rfl))
            have r100 := getD_r s100
            have s106 := (hb 29 106 rfl).trans (k29 (hmet.get rfl))
            have r106 := getD_r s106
            clear hb ho hmet
            rw [if_pos (wants rfl rfl s100)]
            go_simp
            exact hK.out (.bool false) w' ⟨U1, k0, k1, k2, k3, k4, k5, k6, k7, k8, k9, k10, k11, k12, k13, k14, k15, k16, k17, k18, k19, k20, k21, k22, k23, k24, k25, k26, k27, k28, k29, (fun _ => rfl), k31, k32, k33, k34, k35, k36, k37, k38, k39, k40, k41⟩
          · intro L U w' b hF hLi hmet hb ho K hK
            obtain ⟨U1, k0, k1, k2, k3, k4, k5, k6, k7, k8, k9, k10, k11, k12, k13, k14, k15, k16, k17, k18, k19, k20, k21, k22, k23, k24, k25, k26, k27, k28, k29, k30, k31, k32, k33, k34, k35, k36, k37, k38, k39, k40, k41⟩ := hF
            have s100 := (hb 23 100 rfl).trans (k23 (hmet.get rfl))
            have r100 := getD_r s100
            have s107 := (hb 30 107 rfl).trans (k30 (hmet.get rfl))
            have r107 := getD_r s107
            clear hb ho hmet
            rw [if_pos (by rfl)]
            go_simp
            exact hK.out (.bool false) w' ⟨U1, k0, k1, k2, k3, k4, k5, k6, k7, k8, k9, k10, k11, k12, k13, k14, k15, k16, k17, k18, k19, k20, k21, k22, k23, k24, k25, k26, k27, k28, k29, k30, (fun _ => rfl), k32, k33, k34, k35, k36, k37, k38, k39, k40, k41⟩
          · intro L U w' b hF hLi hmet hb ho K hK
            obtain ⟨U1, k0, k1, k2, k3, k4, k5, k6, k7, k8, k9, k10, k11, k12, k13, k14, k15, k16, k17, k18, k19, k20, k21, k22, k23, k24, k25, k26, k27, k28, k29, k30, k31, k32, k33, k34, k35, k36, k37, k38, k39, k40, k41⟩ := hF
            have s108 := (hb 31 108 rfl).trans (k31 (hmet.get rfl))
            have r108 := getD_r s108
            clear hb ho hmet
            rw [if_pos (by rfl)]
            go_simp
            exact hK.out (.bool false) w' ⟨U1, k0, k1, k2, k3, k4, k5, k6, k7, k8, k9, k10, k11, k12, k13, k14, k15, k16, k17, k18, k19, k20, k21, k22, k23, k24, k25, k26, k27, k28, k29, k30, k31, (fun _ => rfl), k33, k34, k35, k36, k37, k38, k39, k40, k41⟩
          · intro L U w' b hF hLi hmet hb ho K hK
            obtain ⟨U1, k0, k1, k2, k3, k4, k5, k6, k7, k8, k9, k10, k11, k12, k13, k14, k15, k16, k17, k18, k19, k20, k21, k22, k23, k24, k25, k26, k27, k28, k29, k30, k31, k32, k33, k34, k35, k36, k37, k38, k39, k40, k41⟩ := hF
            have s109 := (hb 32 109 rfl).trans (k32 (hmet.get rfl))
            have r109 := getD_r s109
            have s7 : b.tmps.getD 7 undef = .pointer (some ⟨hx, 0, none⟩) := (ho 7 rfl).trans rfl
            have r7 := getD_r s7
            have t0_ := (Tx.below U1).cells.1
            have t1_ := (Tx.below U1).cells.2.1
            have t2_ := (Tx.below U1).cells.2.2
            clear hb ho hmet
            rw [if_pos (wants rfl rfl s109)]
            go_simp
            exact hK.out (.agg #[.bool na, .slice px qx rx, .int .i64 0]) w' ⟨U1, k0, k1, k2, k3, k4, k5, k6, k7, k8, k9, k10, k11, k12, k13, k14, k15, k16, k17, k18, k19, k20, k21, k22, k23, k24, k25, k26, k27, k28, k29, k30, k31, k32, (fun _ => rfl), k34, k35, k36, k37, k38, k39, k40, k41⟩
          · intro L U w' b hF hLi hmet hb ho K hK
            obtain ⟨U1, k0, k1, k2, k3, k4, k5, k6, k7, k8, k9, k10, k11, k12, k13, k14, k15, k16, k17, k18, k19, k20, k21, k22, k23, k24, k25, k26, k27, k28, k29, k30, k31, k32, k33, k34, k35, k36, k37, k38, k39, k40, k41⟩ := hF
            have s109 := (hb 32 109 rfl).trans (k32 (hmet.get rfl))
            have r109 := getD_r s109
            clear hb ho hmet
            rw [if_pos (wants rfl rfl s109)]
            go_simp
            go_at_call 69
            (with_reducible refine (O0.out _).mono ?_)
            rintro e_ wq ⟨ra, rl, rc, rfl, rs, bq⟩
            exact hK.out (.agg #[.bool n0, .slice ra rl rc]) wq ⟨(U1.trans (bq.mono U1.size)), k0, k1, k2, (fun h => (k3 h).below bq), (fun h => (k4 h).below bq), k5, k6, (fun h => (k7 h).below bq), k8, k9, (fun h => (k10 h).below bq), (fun h => (k11 h).below bq), k12, k13, k14, k15, (fun h => (k16 h).below bq), (fun h => (k17 h).below bq), (fun h => (k18 h).below bq), k19, k20, k21, k22, k23, k24, (fun h => (k25 h).below bq), (fun h => (k26 h).below bq), (fun h => (k27 h).below bq), k28, k29, k30, k31, k32, k33, (fun _ => ⟨ra, rl, rc, rfl, rs⟩), (fun h => (k35 h).below bq), (fun h => (k36 h).below bq), (fun h => (k37 h).below bq), (fun h => (k38 h).below bq), k39, k40, k41⟩
          · intro L U w' b hF hLi hmet hb ho K hK
            obtain ⟨U1, k0, k1, k2, k3, k4, k5, k6, k7, k8, k9, k10, k11, k12, k13, k14, k15, k16, k17, k18, k19, k20, k21, k22, k23, k24, k25, k26, k27, k28, k29, k30, k31, k32, k33, k34, k35, k36, k37, k38, k39, k40, k41⟩ := hF
            have s109 := (hb 32 109 rfl).trans (k32 (hmet.get rfl))
            have r109 := getD_r s109
            obtain ⟨pa34, pl34, pc34, pe34, ps34⟩ := k34 (hmet.get rfl)
            have s111 := (hb 34 111 rfl).trans pe34
            have r111 := getD_r s111
            clear hb ho hmet
            rw [if_pos (wants rfl rfl s109)]
            go_simp
            go_at_call 65
            (with_reducible refine (lawValP (by exact ps34)).mono ?_)
            rintro e_ wq ⟨ra, rl, rc, rfl, rs, bq⟩
            exact hK.out (.agg #[.bool n0, .slice ra rl rc, .int .i64 0]) wq ⟨(U1.trans (bq.mono U1.size)), k0, k1, k2, (fun h => (k3 h).below bq), (fun h => (k4 h).below bq), k5, k6, (fun h => (k7 h).below bq), k8, k9, (fun h => (k10 h).below bq), (fun h => (k11 h).below bq), k12, k13, k14, k15, (fun h => (k16 h).below bq), (fun h => (k17 h).below bq), (fun h => (k18 h).below bq), k19, k20, k21, k22, k23, k24, (fun h => (k25 h).below bq), (fun h => (k26 h).below bq), (fun h => (k27 h).below bq), k28, k29, k30, k31, k32, k33, (fun h => (k34 h).below bq), (fun _ => ⟨ra, rl, rc, rfl, rs⟩), (fun h => (k36 h).below bq), (fun h => (k37 h).below bq), (fun h => (k38 h).below bq), k39, k40, k41⟩
          · intro L U w' b hF hLi hmet hb ho K hK
            obtain ⟨U1, k0, k1, k2, k3, k4, k5, k6, k7, k8, k9, k10, k11, k12, k13, k14, k15, k16, k17, k18, k19, k20, k21, k22, k23, k24, k25, k26, k27, k28, k29, k30, k31, k32, k33, k34, k35, k36, k37, k38, k39, k40, k41⟩ := hF
            have s109 := (hb 32 109 rfl).trans (k32 (hmet.get rfl))
            have r109 := getD_r s109
            have s110 := (hb 33 110 rfl).trans (k33 (hmet.get rfl))
            have r110 := getD_r s110
            obtain ⟨pa35, pl35, pc35, pe35, ps35⟩ := k35 (hmet.get rfl)
            have s112 := (hb 35 112 rfl).trans pe35
            have r112 := getD_r s112
            clear hb ho hmet
            rw [if_pos (wants rfl rfl s109)]
            go_simp
            go_at_call 68
            (with_reducible refine (C14.out _ _ _ _ _ _ _ (by exact (sx.below U1)) (by exact ps35)).mono ?_)
            rintro e_ wq ⟨ra, rl, rc, rfl, rs, bq⟩
            exact hK.out (.agg #[.bool n0, .slice ra rl rc, .int .i64 0]) wq ⟨(U1.trans (bq.mono U1.size)), k0, k1, k2, (fun h => (k3 h).below bq), (fun h => (k4 h).below bq), k5, k6, (fun h => (k7 h).below bq), k8, k9, (fun h => (k10 h).below bq), (fun h => (k11 h).below bq), k12, k13, k14, k15, (fun h => (k16 h).below bq), (fun h => (k17 h).below bq), (fun h => (k18 h).below bq), k19, k20, k21, k22, k23, k24, (fun h => (k25 h).below bq), (fun h => (k26 h).below bq), (fun h => (k27 h).below bq), k28, k29, k30, k31, k32, k33, (fun h => (k34 h).below bq), (fun h => (k35 h).below bq), (fun _ => ⟨ra, rl, rc, rfl, rs⟩), (fun h => (k37 h).below bq), (fun h => (k38 h).below bq), k39, k40, k41⟩
          · intro L U w' b hF hLi hmet hb ho K hK
            obtain ⟨U1, k0, k1, k2, k3, k4, k5, k6, k7, k8, k9, k10, k11, k12, k13, k14, k15, k16, k17, k18, k19, k20, k21, k22, k23, k24, k25, k26, k27, k28, k29, k30, k31, k32, k33, k34, k35, k36, k37, k38, k39, k40, k41⟩ := hF
            have s109 := (hb 32 109 rfl).trans (k32 (hmet.get rfl))
            have r109 := getD_r s109
            clear hb ho hmet
            rw [if_pos (wants rfl rfl s109)]
            go_simp
            go_at_call 69
            (with_reducible refine (O0.out _).mono ?_)
            rintro e_ wq ⟨ra, rl, rc, rfl, rs, bq⟩
            exact hK.out (.agg #[.bool n0, .slice ra rl rc]) wq ⟨(U1.trans (bq.mono U1.size)), k0, k1, k2, (fun h => (k3 h).below bq), (fun h => (k4 h).below bq), k5, k6, (fun h => (k7 h).below bq), k8, k9, (fun h => (k10 h).below bq), (fun h => (k11 h).below bq), k12, k13, k14, k15, (fun h => (k16 h).below bq), (fun h => (k17 h).below bq), (fun h => (k18 h).below bq), k19, k20, k21, k22, k23, k24, (fun h => (k25 h).below bq), (fun h => (k26 h).below bq), (fun h => (k27 h).below bq), k28, k29, k30, k31, k32, k33, (fun h => (k34 h).below bq), (fun h => (k35 h).below bq), (fun h => (k36 h).below bq), (fun _ => ⟨ra, rl, rc, rfl, rs⟩), (fun h => (k38 h).below bq), k39, k40, k41⟩
          · intro L U w' b hF hLi hmet hb ho K hK
            obtain ⟨U1, k0, k1, k2, k3, k4, k5, k6, k7, k8, k9, k10, k11, k12, k13, k14, k15, k16, k17, k18, k19, k20, k21, k22, k23, k24, k25, k26, k27, k28, k29, k30, k31, k32, k33, k34, k35, k36, k37, k38, k39, k40, k41⟩ := hF
            have s109 := (hb 32 109 rfl).trans (k32 (hmet.get rfl))
            have r109 := getD_r s109
            obtain ⟨pa37, pl37, pc37, pe37, ps37⟩ := k37 (hmet.get rfl)
            have s114 := (hb 37 114 rfl).trans pe37
            have r114 := getD_r s114
            clear hb ho hmet
            rw [if_pos (wants rfl rfl s109)]
            go_simp
            go_at_call 65
            (with_reducible refine (lawValP (by exact ps37)).mono ?_)
            rintro e_ wq ⟨ra, rl, rc, rfl, rs, bq⟩
            exact hK.out (.agg #[.bool n0, .slice ra rl rc, .int .i64 0]) wq ⟨(U1.trans (bq.mono U1.size)), k0, k1, k2, (fun h => (k3 h).below bq), (fun h => (k4 h).below bq), k5, k6, (fun h => (k7 h).below bq), k8, k9, (fun h => (k10 h).below bq), (fun h => (k11 h).below bq), k12, k13, k14, k15, (fun h => (k16 h).below bq), (fun h => (k17 h).below bq), (fun h => (k18 h).below bq), k19, k20, k21, k22, k23, k24, (fun h => (k25 h).below bq), (fun h => (k26 h).below bq), (fun h => (k27 h).below bq), k28, k29, k30, k31, k32, k33, (fun h => (k34 h).below bq), (fun h => (k35 h).below bq), (fun h => (k36 h).below bq), (fun h => (k37 h).below bq), (fun _ => ⟨ra, rl, rc, rfl, rs⟩), k39, k40, k41⟩
          · intro L U w' b hF hLi hmet hb ho K hK
            obtain ⟨U1, k0, k1, k2, k3, k4, k5, k6, k7, k8, k9, k10, k11, k12, k13, k14, k15, k16, k17, k18, k19, k20, k21, k22, k23, k24, k25, k26, k27, k28, k29, k30, k31, k32, k33, k34, k35, k36, k37, k38, k39, k40, k41⟩ := hF
            have s109 := (hb 32 109 rfl).trans (k32 (hmet.get rfl))
            have r109 := getD_r s109
            obtain ⟨pa36, pl36, pc36, pe36, ps36⟩ := k36 (hmet.get rfl)
            have s113 := (hb 36 113 rfl).trans pe36
            have r113 := getD_r s113
            obtain ⟨pa38, pl38, pc38, pe38, ps38⟩ := k38 (hmet.get rfl)
            have s115 := (hb 38 115 rfl).trans pe38
            have r115 := getD_r s115
            clear hb ho hmet
            rw [if_pos (wants rfl rfl s109)]
            go_simp
            go_at_call 27
            (with_reducible refine (S0.out _ _ _ _ _ _ _ (by exact ps36) (by exact ps38)).mono ?_)
            rintro e_ wq ⟨rfl, bq⟩
            exact hK.out (.bool true) wq ⟨(U1.trans (bq.mono U1.size)), k0, k1, k2, (fun h => (k3 h).below bq), (fun h => (k4 h).below bq), k5, k6, (fun h => (k7 h).below bq), k8, k9, (fun h => (k10 h).below bq), (fun h => (k11 h).below bq), k12, k13, k14, k15, (fun h => (k16 h).below bq), (fun h => (k17 h).below bq), (fun h => (k18 h).below bq), k19, k20, k21, k22, k23, k24, (fun h => (k25 h).below bq), (fun h => (k26 h).below bq), (fun h => (k27 h).below bq), k28, k29, k30, k31, k32, k33, (fun h => (k34 h).below bq), (fun h => (k35 h).below bq), (fun h => (k36 h).below bq), (fun h => (k37 h).below bq), (fun h => (k38 h).below bq), (fun _ => rfl), k40, k41⟩
          · intro L U w' b hF hLi hmet hb ho K hK
            obtain ⟨U1, k0, k1, k2, k3, k4, k5, k6, k7, k8, k9, k10, k11, k12, k13, k14, k15, k16, k17, k18, k19, k20, k21, k22, k23, k24, k25, k26, k27, k28, k29, k30, k31, k32, k33, k34, k35, k36, k37, k38, k39, k40, k41⟩ := hF
            have s109 := (hb 32 109 rfl).trans (k32 (hmet.get rfl))
            have r109 := getD_r s109
            have s116 := (hb 39 116 rfl).trans (k39 (hmet.get rfl))
            have r116 := getD_r s116
            clear hb ho hmet
            rw [if_pos (wants rfl rfl s109)]
            go_simp
            exact hK.out (.bool false) w' ⟨U1, k0, k1, k2, k3, k4, k5, k6, k7, k8, k9, k10, k11, k12, k13, k14, k15, k16, k17, k18, k19, k20, k21, k22, k23, k24, k25, k26, k27, k28, k29, k30, k31, k32, k33, k34, k35, k36, k37, k38, k39, (fun _ => rfl), k41⟩
          · intro L U w' b hF hLi hmet hb ho K hK
            obtain ⟨U1, k0, k1, k2, k3, k4, k5, k6, k7, k8, k9, k10, k11, k12, k13, k14, k15, k16, k17, k18, k19, k20, k21, k22, k23, k24, k25, k26, k27, k28, k29, k30, k31, k32, k33, k34, k35, k36, k37, k38, k39, k40, k41⟩ := hF
            have s109 := (hb 32 109 rfl).trans (k32 (hmet.get rfl))
            have r109 := getD_r s109
            have s117 := (hb 40 117 rfl).trans (k40 (hmet.get rfl))
            have r117 := getD_r s117
            clear hb ho hmet
            rw [if_pos (by rfl)]
            go_simp
            exact hK.out (.bool false) w' ⟨U1, k0, k1, k2, k3, k4, k5, k6, k7, k8, k9, k10, k11, k12, k13, k14, k15, k16, k17, k18, k19, k20, k21, k22, k23, k24, k25, k26, k27, k28, k29, k30, k31, k32, k33, k34, k35, k36, k37, k38, k39, k40, (fun _ => rfl)⟩
        case fin =>
          intro L U wx hF hall
          obtain ⟨U1, k0, k1, k2, k3, k4, k5, k6, k7, k8, k9, k10, k11, k12, k13, k14, k15, k16, k17, k18, k19, k20, k21, k22, k23, k24, k25, k26, k27, k28, k29, k30, k31, k32, k33, k34, k35, k36, k37, k38, k39, k40, k41⟩ := hF
          have kl := k41 (hall 41 (by decide))
          clear k0 k1 k2 k3 k4 k5 k6 k7 k8 k9 k10 k11 k12 k13 k14 k15 k16 k17 k18 k19 k20 k21 k22 k23 k24 k25 k26 k27 k28 k29 k30 k31 k32 k33 k34 k35 k36 k37 k38 k39 k40 k41 hall
          simp only [fillA, Act.put, List.setIfInBounds_toArray, List.set_cons_zero, List.set_cons_succ]
          go_wp2_with fail; go_meet
          exact ⟨kl, Ta.below U1, sa.below U1, Tb.below U1, sb.below U1, Tc.below U1, sc.below U1, Tx.below U1, sx.below U1, Ty.below U1, sy.below U1, Tz.below U1, sz.below U1, U0.trans (U1.mono U0.size)⟩
      case rest =>
        obtain ⟨rfl, Ta, sa, Tb, sb, Tc, sc, Tx, sx, Ty, sy, Tz, sz, U0⟩ := hcut
        have cTa0 := Ta.cells.1
        have cTa1 := Ta.cells.2
        have zTa := Ta.lt
        have cTb0 := Tb.cells.1
        have cTb1 := Tb.cells.2
        have zTb := Tb.lt
        have cTc0 := Tc.cells.1
        have cTc1 := Tc.cells.2
        have zTc := Tc.lt
        have cTx0 := Tx.cells.1
        have cTx1 := Tx.cells.2.1
        have cTx2 := Tx.cells.2.2
        have zTx := Tx.lt
        have cTy0 := Ty.cells.1
        have cTy1 := Ty.cells.2.1
        have cTy2 := Ty.cells.2.2
        have zTy := Ty.lt
        have cTz0 := Tz.cells.1
        have cTz1 := Tz.cells.2.1
        have cTz2 := Tz.cells.2.2
        have zTz := Tz.lt
        go_wp2_with fail
        (with_reducible refine (C1.out _ _ _ _ _ _ _ (by exact sx) (by exact sy)).mono ?_)
        rintro e w1 ⟨as_, ls, cs, rfl, ss, b1⟩
        replace U0 := U0.trans (b1.mono U0.size)
        replace Ta := Ta.below b1
        replace sa := sa.below b1
        replace Tb := Tb.below b1
        replace sb := sb.below b1
        replace Tc := Tc.below b1
        replace sc := sc.below b1
        replace Tx := Tx.below b1
        replace sx := sx.below b1
        replace Ty := Ty.below b1
        replace sy := sy.below b1
        replace Tz := Tz.below b1
        replace sz := sz.below b1
        replace cTa0 := Ta.cells.1
        replace cTa1 := Ta.cells.2
        replace zTa := Ta.lt
        replace cTb0 := Tb.cells.1
        replace cTb1 := Tb.cells.2
        replace zTb := Tb.lt
        replace cTc0 := Tc.cells.1
        replace cTc1 := Tc.cells.2
        replace zTc := Tc.lt
        replace cTx0 := Tx.cells.1
        replace cTx1 := Tx.cells.2.1
        replace cTx2 := Tx.cells.2.2
        replace zTx := Tx.lt
        replace cTy0 := Ty.cells.1
        replace cTy1 := Ty.cells.2.1
        replace cTy2 := Ty.cells.2.2
        replace zTy := Ty.lt
        replace cTz0 := Tz.cells.1
        replace cTz1 := Tz.cells.2.1
        replace cTz2 := Tz.cells.2.2
        replace zTz := Tz.lt
        clear b1
        go_upto_region 11 with (fail)
        replace U0 := U0.alloc U0.size (.cells #[.bool nv1, .slice as_ ls cs, .int .i64 ev1] 38)
        replace Ta := Ta.alloc (.cells #[.bool nv1, .slice as_ ls cs, .int .i64 ev1] 38)
        replace sa := sa.alloc (.cells #[.bool nv1, .slice as_ ls cs, .int .i64 ev1] 38)
        replace Tb := Tb.alloc (.cells #[.bool nv1, .slice as_ ls cs, .int .i64 ev1] 38)
        replace sb := sb.alloc (.cells #[.bool nv1, .slice as_ ls cs, .int .i64 ev1] 38)
        replace Tc := Tc.alloc (.cells #[.bool nv1, .slice as_ ls cs, .int .i64 ev1] 38)
        replace sc := sc.alloc (.cells #[.bool nv1, .slice as_ ls cs, .int .i64 ev1] 38)
        replace Tx := Tx.alloc (.cells #[.bool nv1, .slice as_ ls cs, .int .i64 ev1] 38)
        replace sx := sx.alloc (.cells #[.bool nv1, .slice as_ ls cs, .int .i64 ev1] 38)
        replace Ty := Ty.alloc (.cells #[.bool nv1, .slice as_ ls cs, .int .i64 ev1] 38)
        replace sy := sy.alloc (.cells #[.bool nv1, .slice as_ ls cs, .int .i64 ev1] 38)
        replace Tz := Tz.alloc (.cells #[.bool nv1, .slice as_ ls cs, .int .i64 ev1] 38)
        replace sz := sz.alloc (.cells #[.bool nv1, .slice as_ ls cs, .int .i64 ev1] 38)
        replace ss := ss.alloc (.cells #[.bool nv1, .slice as_ ls cs, .int .i64 ev1] 38)
        replace cTa0 := Ta.cells.1
        replace cTa1 := Ta.cells.2
        replace zTa := Ta.lt
        replace cTb0 := Tb.cells.1
        replace cTb1 := Tb.cells.2
        replace zTb := Tb.lt
        replace cTc0 := Tc.cells.1
        replace cTc1 := Tc.cells.2
        replace zTc := Tc.lt
        replace cTx0 := Tx.cells.1
        replace cTx1 := Tx.cells.2.1
        replace cTx2 := Tx.cells.2.2
        replace zTx := Tx.lt
        replace cTy0 := Ty.cells.1
        replace cTy1 := Ty.cells.2.1
        replace cTy2 := Ty.cells.2.2
        replace zTy := Ty.lt
        replace cTz0 := Tz.cells.1
        replace cTz1 := Tz.cells.2.1
        replace cTz2 := Tz.cells.2.2
        replace zTz := Tz.lt
        have Ts := Box3.at w1 (w1.heap.size) (by first | rfl | simp) nv1 as_ ls cs ev1
        have cTs0 := Ts.cells.1
        have cTs1 := Ts.cells.2.1
        have cTs2 := Ts.cells.2.2
        have zTs := Ts.lt
        go_cut [136] (fun sl wx => sl = .bool false ∧ RingCut w (w.heap.size) (w.heap.size + 1) (w.heap.size + 1 + 1) na aa la ca xa nb ab lb cb xb nc ac lc cc xc hx hy hz px qx rx py qy ry pz qz rz wx)
        case first => as_aux_lemma =>
          clear cTa0 cTa1 zTa cTb0 cTb1 zTb cTc0 cTc1 zTc cTx0 cTx1 cTx2 zTx cTy0 cTy1 cTy2 zTy cTz0 cTz1 cTz2 zTz
          clear C1 C1b C2 C2b C3 C4 C5 C6 C7 C8 C9 C10 C11 C12 C13 C14 C15 A1 A2 A3 A4 A5 O0 O1 S0 Ng HNa HNb
          clear cTs0 cTs1 cTs2 zTs
          by_cases e0 : ev1 = 0
          · have Sb2 := Lib.hid (Sb_.out e0)
            have q_ : (ev1 == 0) = true := by rw [e0]; rfl
            clear e0 Sb_
            refine region_kept 15 [some 122, some 123, some 124, some 125, some 126, some 127, some 128, some 129, some 130, some 131, some 132, some 133, some 134, some 135, some 136] (fun U => [U 0, U 1, U 2, U 3, U 4, U 5, U 6, U 7, U 8, U 9, U 10, U 11, U 12, U 13, U 14]) (fun L U w' => Below ((w1.alloc (.cells #[.bool nv1, .slice as_ ls cs, .int .i64 ev1] 38))).heap.size ((w1.alloc (.cells #[.bool nv1, .slice as_ ls cs, .int .i64 ev1] 38))) w' ∧ (L 0 = true → U 0 = .pointer (some ⟨w1.heap.size, 2, none⟩)) ∧ (L 1 = true → U 1 = .int .i64 ev1) ∧ (L 2 = true → U 2 = .bool true) ∧ (L 3 = true → U 3 = .bool true) ∧ (L 4 = true → U 4 = .pointer (some ⟨w1.heap.size, 0, none⟩)) ∧ (L 5 = true → U 5 = .agg #[.bool nv1, .slice as_ ls cs]) ∧ (L 6 = true → U 6 = .agg #[.bool nb, .slice ab lb cb]) ∧ (L 7 = true → HasT w' (U 7) (na) (xa) (0)) ∧ (L 8 = true → HasI w' (U 8) (na) (xa)) ∧ (L 9 = true → U 9 = .int .i64 0) ∧ (L 10 = true → HasP w' (U 10) (na) (xa) (0)) ∧ (L 11 = true → U 11 = .agg #[.bool na, .slice px qx rx, .int .i64 0]) ∧ (L 12 = true → U 12 = .bool true) ∧ (L 13 = true → U 13 = .bool false) ∧ (L 14 = true → U 14 = .bool false)) rfl rfl (fun _ => rfl) rfl (by kernel_rfl) (by kernel_rfl) (by kernel_rfl) ?start ?step ?fin
            case start =>
              intro U
              exact ⟨(Below.refl _ _).drew, (by intro h; cases h), (by intro h; cases h), (by intro h; cases h), (by intro h; cases h), (by intro h; cases h), (by intro h; cases h), (by intro h; cases h), (by intro h; cases h), (by intro h; cases h), (by intro h; cases h), (by intro h; cases h), (by intro h; cases h), (by intro h; cases h), (by intro h; cases h), (by intro h; cases h)⟩
            case step =>
              refine ⟨?_, ?_, ?_, ?_, ?_, ?_, ?_, ?_, ?_, ?_, ?_, ?_, ?_, ?_, ?_, trivial⟩
              · intro L U w' b hF hLi hmet hb ho K hK
                obtain ⟨U1, k0, k1, k2, k3, k4, k5, k6, k7, k8, k9, k10, k11, k12, k13, k14⟩ := hF
                have s10 : b.tmps.getD 10 undef = .pointer (some ⟨w1.heap.size, 0, none⟩) := (ho 10 rfl).trans rfl
                have r10 := getD_r s10
                clear hb ho hmet
                rw [if_pos (by rfl)]
                go_simp
                exact hK.out (.pointer (some ⟨w1.heap.size, 2, none⟩)) w' ⟨U1, (fun _ => rfl), k1, k2, k3, k4, k5, k6, k7, k8, k9, k10, k11, k12, k13, k14⟩
              · intro L U w' b hF hLi hmet hb ho K hK
                obtain ⟨U1, k0, k1, k2, k3, k4, k5, k6, k7, k8, k9, k10, k11, k12, k13, k14⟩ := hF
                have s122 := (hb 0 122 rfl).trans (k0 (hmet.get rfl))
                have r122 := getD_r s122
                have t0_ := (Ts.below U1).cells.1
                have t1_ := (Ts.below U1).cells.2.1
                have t2_ := (Ts.below U1).cells.2.2
                clear hb ho hmet
                rw [if_pos (by rfl)]
                go_simp
                exact hK.out (.int .i64 ev1) w' ⟨U1, k0, (fun _ => rfl), k2, k3, k4, k5, k6, k7, k8, k9, k10, k11, k12, k13, k14⟩
              · intro L U w' b hF hLi hmet hb ho K hK
                obtain ⟨U1, k0, k1, k2, k3, k4, k5, k6, k7, k8, k9, k10, k11, k12, k13, k14⟩ := hF
                have s123 := (hb 1 123 rfl).trans (k1 (hmet.get rfl))
                have r123 := getD_r s123
                clear hb ho hmet
                rw [if_pos (by rfl)]
                go_simp
                exact hK.out (.bool true) w' ⟨U1, k0, k1, (fun _ => rfl), k3, k4, k5, k6, k7, k8, k9, k10, k11, k12, k13, k14⟩
              · intro L U w' b hF hLi hmet hb ho K hK
                obtain ⟨U1, k0, k1, k2, k3, k4, k5, k6, k7, k8, k9, k10, k11, k12, k13, k14⟩ := hF
                have s124 := (hb 2 124 rfl).trans (k2 (hmet.get rfl))
                have r124 := getD_r s124
                clear hb ho hmet
                rw [if_pos (by rfl)]
                go_simp
                exact hK.out (.bool true) w' ⟨U1, k0, k1, k2, (fun _ => rfl), k4, k5, k6, k7, k8, k9, k10, k11, k12, k13, k14⟩
              · intro L U w' b hF hLi hmet hb ho K hK
                obtain ⟨U1, k0, k1, k2, k3, k4, k5, k6, k7, k8, k9, k10, k11, k12, k13, k14⟩ := hF
                have s125 := (hb 3 125 rfl).trans (k3 (hmet.get rfl))
                have r125 := getD_r s125
                have s10 : b.tmps.getD 10 undef = .pointer (some ⟨w1.heap.size, 0, none⟩) := (ho 10 rfl).trans rfl
                have r10 := getD_r s10
                clear hb ho hmet
                rw [if_pos (wants rfl rfl s125)]
                go_simp
                exact hK.out (.pointer (some ⟨w1.heap.size, 0, none⟩)) w' ⟨U1, k0, k1, k2, k3, (fun _ => rfl), k5, k6, k7, k8, k9, k10, k11, k12, k13, k14⟩
              · intro L U w' b hF hLi hmet hb ho K hK
                obtain ⟨U1, k0, k1, k2, k3, k4, k5, k6, k7, k8, k9, k10, k11, k12, k13, k14⟩ := hF
                have s125 := (hb 3 125 rfl).trans (k3 (hmet.get rfl))
                have r125 := getD_r s125
                have s126 := (hb 4 126 rfl).trans (k4 (hmet.get rfl))
                have r126 := getD_r s126
                have t0_ := (Ts.below U1).cells.1
                have t1_ := (Ts.below U1).cells.2.1
                have t2_ := (Ts.below U1).cells.2.2
                clear hb ho hmet
                rw [if_pos (wants rfl rfl s125)]
                go_simp
                exact hK.out (.agg #[.bool nv1, .slice as_ ls cs]) w' ⟨U1, k0, k1, k2, k3, k4, (fun _ => rfl), k6, k7, k8, k9, k10, k11, k12, k13, k14⟩
              · intro L U w' b hF hLi hmet hb ho K hK
                obtain ⟨U1, k0, k1, k2, k3, k4, k5, k6, k7, k8, k9, k10, k11, k12, k13, k14⟩ := hF
                have s125 := (hb 3 125 rfl).trans (k3 (hmet.get rfl))
                have r125 := getD_r s125
                have s4 : b.tmps.getD 4 undef = .pointer (some ⟨w.heap.size + 1, 0, none⟩) := (ho 4 rfl).trans rfl
                have r4 := getD_r s4
                have t0_ := (Tb.below U1).cells.1
                have t1_ := (Tb.below U1).cells.2
                clear hb ho hmet
                rw [if_pos (wants rfl rfl s125)]
                go_simp
                exact hK.out (.agg #[.bool nb, .slice ab lb cb]) w' ⟨U1, k0, k1, k2, k3, k4, k5, (fun _ => rfl), k7, k8, k9, k10, k11, k12, k13, k14⟩
              · intro L U w' b hF hLi hmet hb ho K hK
                obtain ⟨U1, k0, k1, k2, k3, k4, k5, k6, k7, k8, k9, k10, k11, k12, k13, k14⟩ := hF
                have s125 := (hb 3 125 rfl).trans (k3 (hmet.get rfl))
                have r125 := getD_r s125
                have s127 := (hb 5 127 rfl).trans (k5 (hmet.get rfl))
                have r127 := getD_r s127
                have s128 := (hb 6 128 rfl).trans (k6 (hmet.get rfl))
                have r128 := getD_r s128
                clear hb ho hmet
                rw [if_pos (wants rfl rfl s125)]
                go_simp
                go_at_call 46
                (with_reducible refine (Sb2.out _ _ _ _ _ _ _ (by exact (ss.below U1)) (by exact (sb.below U1))).mono ?_)
                rintro e_ wq ⟨ra, rl, rc, rfl, rs, bq⟩
                exact hK.out (.tuple #[.agg #[.bool na, .slice ra rl rc], .int .i64 0]) wq ⟨(U1.trans (bq.mono U1.size)), k0, k1, k2, k3, k4, k5, k6, (fun _ => ⟨ra, rl, rc, rfl, rs⟩), (fun h => (k8 h).below bq), k9, (fun h => (k10 h).below bq), k11, k12, k13, k14⟩
              · intro L U w' b hF hLi hmet hb ho K hK
                obtain ⟨U1, k0, k1, k2, k3, k4, k5, k6, k7, k8, k9, k10, k11, k12, k13, k14⟩ := hF
                have s125 := (hb 3 125 rfl).trans (k3 (hmet.get rfl))
                have r125 := getD_r s125
                obtain ⟨pa7, pl7, pc7, pe7, ps7⟩ := k7 (hmet.get rfl)
                have s129 := (hb 7 129 rfl).trans pe7
                have r129 := getD_r s129
                clear hb ho hmet
                rw [if_pos (wants rfl rfl s125)]
                go_simp
                exact hK.out (.agg #[.bool na, .slice pa7 pl7 pc7]) w' ⟨U1, k0, k1, k2, k3, k4, k5, k6, k7, (fun _ => ⟨_, _, _, rfl, ps7⟩), k9, k10, k11, k12, k13, k14⟩
              · intro L U w' b hF hLi hmet hb ho K hK
                obtain ⟨U1, k0, k1, k2, k3, k4, k5, k6, k7, k8, k9, k10, k11, k12, k13, k14⟩ := hF
                have s125 := (hb 3 125 rfl).trans (k3 (hmet.get rfl))
                have r125 := getD_r s125
                obtain ⟨pa7, pl7, pc7, pe7, ps7⟩ := k7 (hmet.get rfl)
                have s129 := (hb 7 129 rfl).trans pe7
                have r129 := getD_r s129
                clear hb ho hmet
                rw [if_pos (wants rfl rfl s125)]
                go_simp
                exact hK.out (.int .i64 0) w' ⟨U1, k0, k1, k2, k3, k4, k5, k6, k7, k8, (fun _ => rfl), k10, k11, k12, k13, k14⟩
              · intro L U w' b hF hLi hmet hb ho K hK
                obtain ⟨U1, k0, k1, k2, k3, k4, k5, k6, k7, k8, k9, k10, k11, k12, k13, k14⟩ := hF
                have s125 := (hb 3 125 rfl).trans (k3 (hmet.get rfl))
                have r125 := getD_r s125
                obtain ⟨pa8, pl8, pc8, pe8, ps8⟩ := k8 (hmet.get rfl)
                have s130 := (hb 8 130 rfl).trans pe8
                have r130 := getD_r s130
                have s131 := (hb 9 131 rfl).trans (k9 (hmet.get rfl))
                have r131 := getD_r s131
                clear hb ho hmet
                rw [if_pos (wants rfl rfl s125)]
                go_simp
                go_at_call 28
                (with_reducible refine (lawGotP (by exact ps8)).mono ?_)
                rintro e_ wq ⟨ra, rl, rc, rfl, rs, bq⟩
                exact hK.out (.agg #[.bool na, .slice ra rl rc, .int .i64 0]) wq ⟨(U1.trans (bq.mono U1.size)), k0, k1, k2, k3, k4, k5, k6, (fun h => (k7 h).below bq), (fun h => (k8 h).below bq), k9, (fun _ => ⟨ra, rl, rc, rfl, rs⟩), k11, k12, k13, k14⟩
              · intro L U w' b hF hLi hmet hb ho K hK
                obtain ⟨U1, k0, k1, k2, k3, k4, k5, k6, k7, k8, k9, k10, k11, k12, k13, k14⟩ := hF
                have s125 := (hb 3 125 rfl).trans (k3 (hmet.get rfl))
                have r125 := getD_r s125
                have s7 : b.tmps.getD 7 undef = .pointer (some ⟨hx, 0, none⟩) := (ho 7 rfl).trans rfl
                have r7 := getD_r s7
                have t0_ := (Tx.below U1).cells.1
                have t1_ := (Tx.below U1).cells.2.1
                have t2_ := (Tx.below U1).cells.2.2
                clear hb ho hmet
                rw [if_pos (wants rfl rfl s125)]
                go_simp
                exact hK.out (.agg #[.bool na, .slice px qx rx, .int .i64 0]) w' ⟨U1, k0, k1, k2, k3, k4, k5, k6, k7, k8, k9, k10, (fun _ => rfl), k12, k13, k14⟩
              · intro L U w' b hF hLi hmet hb ho K hK
                obtain ⟨U1, k0, k1, k2, k3, k4, k5, k6, k7, k8, k9, k10, k11, k12, k13, k14⟩ := hF
                have s125 := (hb 3 125 rfl).trans (k3 (hmet.get rfl))
                have r125 := getD_r s125
                obtain ⟨pa10, pl10, pc10, pe10, ps10⟩ := k10 (hmet.get rfl)
                have s132 := (hb 10 132 rfl).trans pe10
                have r132 := getD_r s132
                have s133 := (hb 11 133 rfl).trans (k11 (hmet.get rfl))
                have r133 := getD_r s133
                clear hb ho hmet
                rw [if_pos (wants rfl rfl s125)]
                go_simp
                go_at_call 27
                (with_reducible refine (Sa.out _ _ _ _ _ _ _ (by exact ps10) (by exact (sx.below U1))).mono ?_)
                rintro e_ wq ⟨rfl, bq⟩
                exact hK.out (.bool true) wq ⟨(U1.trans (bq.mono U1.size)), k0, k1, k2, k3, k4, k5, k6, (fun h => (k7 h).below bq), (fun h => (k8 h).below bq), k9, (fun h => (k10 h).below bq), k11, (fun _ => rfl), k13, k14⟩
              · intro L U w' b hF hLi hmet hb ho K hK
                obtain ⟨U1, k0, k1, k2, k3, k4, k5, k6, k7, k8, k9, k10, k11, k12, k13, k14⟩ := hF
                have s125 := (hb 3 125 rfl).trans (k3 (hmet.get rfl))
                have r125 := getD_r s125
                have s134 := (hb 12 134 rfl).trans (k12 (hmet.get rfl))
                have r134 := getD_r s134
                clear hb ho hmet
                rw [if_pos (wants rfl rfl s125)]
                go_simp
                exact hK.out (.bool false) w' ⟨U1, k0, k1, k2, k3, k4, k5, k6, k7, k8, k9, k10, k11, k12, (fun _ => rfl), k14⟩
              · intro L U w' b hF hLi hmet hb ho K hK
                obtain ⟨U1, k0, k1, k2, k3, k4, k5, k6, k7, k8, k9, k10, k11, k12, k13, k14⟩ := hF
                have s125 := (hb 3 125 rfl).trans (k3 (hmet.get rfl))
                have r125 := getD_r s125
                have s135 := (hb 13 135 rfl).trans (k13 (hmet.get rfl))
                have r135 := getD_r s135
                clear hb ho hmet
                rw [if_pos (by rfl)]
                go_simp
                exact hK.out (.bool false) w' ⟨U1, k0, k1, k2, k3, k4, k5, k6, k7, k8, k9, k10, k11, k12, k13, (fun _ => rfl)⟩
            case fin =>
              intro L U wx hF hall
              obtain ⟨U1, k0, k1, k2, k3, k4, k5, k6, k7, k8, k9, k10, k11, k12, k13, k14⟩ := hF
              have kl := k14 (hall 14 (by decide))
              clear k0 k1 k2 k3 k4 k5 k6 k7 k8 k9 k10 k11 k12 k13 k14 hall
              simp only [fillA, Act.put, List.setIfInBounds_toArray, List.set_cons_zero, List.set_cons_succ]
              go_wp2_with fail; go_meet
              exact ⟨kl, Ta.below U1, sa.below U1, Tb.below U1, sb.below U1, Tc.below U1, sc.below U1, Tx.below U1, sx.below U1, Ty.below U1, sy.below U1, Tz.below U1, sz.below U1, U0.trans (U1.mono U0.size)⟩
          · have q_ : (ev1 == 0) = false := by simpa using e0
            clear e0 Sb_
            refine region_kept 15 [some 122, some 123, some 124, some 125, some 126, some 127, some 128, some 129, some 130, some 131, some 132, some 133, some 134, some 135, some 136] (fun U => [U 0, U 1, U 2, U 3, U 4, U 5, U 6, U 7, U 8, U 9, U 10, U 11, U 12, U 13, U 14]) (fun L U w' => Below ((w1.alloc (.cells #[.bool nv1, .slice as_ ls cs, .int .i64 ev1] 38))).heap.size ((w1.alloc (.cells #[.bool nv1, .slice as_ ls cs, .int .i64 ev1] 38))) w' ∧ (L 0 = true → U 0 = .pointer (some ⟨w1.heap.size, 2, none⟩)) ∧ (L 1 = true → U 1 = .int .i64 ev1) ∧ (L 2 = true → U 2 = .bool false) ∧ (L 3 = true → U 3 = .bool false) ∧ (L 4 = true → U 4 = undef) ∧ (L 5 = true → U 5 = undef) ∧ (L 6 = true → U 6 = undef) ∧ (L 7 = true → U 7 = undef) ∧ (L 8 = true → U 8 = undef) ∧ (L 9 = true → U 9 = undef) ∧ (L 10 = true → U 10 = undef) ∧ (L 11 = true → U 11 = undef) ∧ (L 12 = true → U 12 = undef) ∧ (L 13 = true → U 13 = undef) ∧ (L 14 = true → U 14 = .bool false)) rfl rfl (fun _ => rfl) rfl (by kernel_rfl) (by kernel_rfl) (by kernel_rfl) ?start ?step ?fin
            case start =>
              intro U
              exact ⟨(Below.refl _ _).drew, (by intro h; cases h), (by intro h; cases h), (by intro h; cases h), (by intro h; cases h), (by intro h; cases h), (by intro h; cases h), (by intro h; cases h), (by intro h; cases h), (by intro h; cases h), (by intro h; cases h), (by intro h; cases h), (by intro h; cases h), (by intro h; cases h), (by intro h; cases h), (by intro h; cases h)⟩
            case step =>
              refine ⟨?_, ?_, ?_, ?_, ?_, ?_, ?_, ?_, ?_, ?_, ?_, ?_, ?_, ?_, ?_, trivial⟩
              · intro L U w' b hF hLi hmet hb ho K hK
                obtain ⟨U1, k0, k1, k2, k3, k4, k5, k6, k7, k8, k9, k10, k11, k12, k13, k14⟩ := hF
                have s10 : b.tmps.getD 10 undef = .pointer (some ⟨w1.heap.size, 0, none⟩) := (ho 10 rfl).trans rfl
                have r10 := getD_r s10
                clear hb ho hmet
                rw [if_pos (by rfl)]
                go_simp
                exact hK.out (.pointer (some ⟨w1.heap.size, 2, none⟩)) w' ⟨U1, (fun _ => rfl), k1, k2, k3, k4, k5, k6, k7, k8, k9, k10, k11, k12, k13, k14⟩
              · intro L U w' b hF hLi hmet hb ho K hK
                obtain ⟨U1, k0, k1, k2, k3, k4, k5, k6, k7, k8, k9, k10, k11, k12, k13, k14⟩ := hF
                have s122 := (hb 0 122 rfl).trans (k0 (hmet.get rfl))
                have r122 := getD_r s122
                have t0_ := (Ts.below U1).cells.1
                have t1_ := (Ts.below U1).cells.2.1
                have t2_ := (Ts.below U1).cells.2.2
                clear hb ho hmet
                rw [if_pos (by rfl)]
                go_simp
                exact hK.out (.int .i64 ev1) w' ⟨U1, k0, (fun _ => rfl), k2, k3, k4, k5, k6, k7, k8, k9, k10, k11, k12, k13, k14⟩
              · intro L U w' b hF hLi hmet hb ho K hK
                obtain ⟨U1, k0, k1, k2, k3, k4, k5, k6, k7, k8, k9, k10, k11, k12, k13, k14⟩ := hF
                have s123 := (hb 1 123 rfl).trans (k1 (hmet.get rfl))
                have r123 := getD_r s123
                clear hb ho hmet
                rw [if_pos (by rfl)]
                go_simp
                exact hK.out (.bool false) w' ⟨U1, k0, k1, (fun _ => rfl), k3, k4, k5, k6, k7, k8, k9, k10, k11, k12, k13, k14⟩
              · intro L U w' b hF hLi hmet hb ho K hK
                obtain ⟨U1, k0, k1, k2, k3, k4, k5, k6, k7, k8, k9, k10, k11, k12, k13, k14⟩ := hF
                have s124 := (hb 2 124 rfl).trans (k2 (hmet.get rfl))
                have r124 := getD_r s124
                clear hb ho hmet
                rw [if_pos (by rfl)]
                go_simp
                exact hK.out (.bool false) w' ⟨U1, k0, k1, k2, (fun _ => rfl), k4, k5, k6, k7, k8, k9, k10, k11, k12, k13, k14⟩
              · intro L U w' b hF hLi hmet hb ho K hK
                obtain ⟨U1, k0, k1, k2, k3, k4, k5, k6, k7, k8, k9, k10, k11, k12, k13, k14⟩ := hF
                have s125 := (hb 3 125 rfl).trans (k3 (hmet.get rfl))
                have r125 := getD_r s125
                rw [if_neg (wants_not rfl rfl s125 (by decide))]
                exact hK.out (undef) w' ⟨U1, k0, k1, k2, k3, (fun _ => rfl), k5, k6, k7, k8, k9, k10, k11, k12, k13, k14⟩
              · intro L U w' b hF hLi hmet hb ho K hK
                obtain ⟨U1, k0, k1, k2, k3, k4, k5, k6, k7, k8, k9, k10, k11, k12, k13, k14⟩ := hF
                have s125 := (hb 3 125 rfl).trans (k3 (hmet.get rfl))
                have r125 := getD_r s125
                rw [if_neg (wants_not rfl rfl s125 (by decide))]
                exact hK.out (undef) w' ⟨U1, k0, k1, k2, k3, k4, (fun _ => rfl), k6, k7, k8, k9, k10, k11, k12, k13, k14⟩
              · intro L U w' b hF hLi hmet hb ho K hK
                obtain ⟨U1, k0, k1, k2, k3, k4, k5, k6, k7, k8, k9, k10, k11, k12, k13, k14⟩ := hF
                have s125 := (hb 3 125 rfl).trans (k3 (hmet.get rfl))
                have r125 := getD_r s125
                rw [if_neg (wants_not rfl rfl s125 (by decide))]
                exact hK.out (undef) w' ⟨U1, k0, k1, k2, k3, k4, k5, (fun _ => rfl), k7, k8, k9, k10, k11, k12, k13, k14⟩
              · intro L U w' b hF hLi hmet hb ho K hK
                obtain ⟨U1, k0, k1, k2, k3, k4, k5, k6, k7, k8, k9, k10, k11, k12, k13, k14⟩ := hF
                have s125 := (hb 3 125 rfl).trans (k3 (hmet.get rfl))
                have r125 := getD_r s125
                rw [if_neg (wants_not rfl rfl s125 (by decide))]
                exact hK.out (undef) w' ⟨U1, k0, k1, k2, k3, k4, k5, k6, (fun _ => rfl), k8, k9, k10, k11, k12, k13, k14⟩
              · intro L U w' b hF hLi hmet hb ho K hK
                obtain ⟨U1, k0, k1, k2, k3, k4, k5, k6, k7, k8, k9, k10, k11, k12, k13, k14⟩ := hF
                have s125 := (hb 3 125 rfl).trans (k3 (hmet.get rfl))
                have r125 := getD_r s125
                rw [if_neg (wants_not rfl rfl s125 (by decide))]
                exact hK.out (undef) w' ⟨U1, k0, k1, k2, k3, k4, k5, k6, k7, (fun _ => rfl), k9, k10, k11, k12, k13, k14⟩
              · intro L U w' b hF hLi hmet hb ho K hK
                obtain ⟨U1, k0, k1, k2, k3, k4, k5, k6, k7, k8, k9, k10, k11, k12, k13, k14⟩ := hF
                have s125 := (hb 3 125 rfl).trans (k3 (hmet.get rfl))
                have r125 := getD_r s125
                rw [if_neg (wants_not rfl rfl s125 (by decide))]
                exact hK.out (undef) w' ⟨U1, k0, k1, k2, k3, k4, k5, k6, k7, k8, (fun _ => rfl), k10, k11, k12, k13, k14⟩
              · intro L U w' b hF hLi hmet hb ho K hK
                obtain ⟨U1, k0, k1, k2, k3, k4, k5, k6, k7, k8, k9, k10, k11, k12, k13, k14⟩ := hF
                have s125 := (hb 3 125 rfl).trans (k3 (hmet.get rfl))
                have r125 := getD_r s125
                rw [if_neg (wants_not rfl rfl s125 (by decide))]
                exact hK.out (undef) w' ⟨U1, k0, k1, k2, k3, k4, k5, k6, k7, k8, k9, (fun _ => rfl), k11, k12, k13, k14⟩
              · intro L U w' b hF hLi hmet hb ho K hK
                obtain ⟨U1, k0, k1, k2, k3, k4, k5, k6, k7, k8, k9, k10, k11, k12, k13, k14⟩ := hF
                have s125 := (hb 3 125 rfl).trans (k3 (hmet.get rfl))
                have r125 := getD_r s125
                rw [if_neg (wants_not rfl rfl s125 (by decide))]
                exact hK.out (undef) w' ⟨U1, k0, k1, k2, k3, k4, k5, k6, k7, k8, k9, k10, (fun _ => rfl), k12, k13, k14⟩
              · intro L U w' b hF hLi hmet hb ho K hK
                obtain ⟨U1, k0, k1, k2, k3, k4, k5, k6, k7, k8, k9, k10, k11, k12, k13, k14⟩ := hF
                have s125 := (hb 3 125 rfl).trans (k3 (hmet.get rfl))
                have r125 := getD_r s125
                rw [if_neg (wants_not rfl rfl s125 (by decide))]
                exact hK.out (undef) w' ⟨U1, k0, k1, k2, k3, k4, k5, k6, k7, k8, k9, k10, k11, (fun _ => rfl), k13, k14⟩
              · intro L U w' b hF hLi hmet hb ho K hK
                obtain ⟨U1, k0, k1, k2, k3, k4, k5, k6, k7, k8, k9, k10, k11, k12, k13, k14⟩ := hF
                have s125 := (hb 3 125 rfl).trans (k3 (hmet.get rfl))
                have r125 := getD_r s125
                rw [if_neg (wants_not rfl rfl s125 (by decide))]
                exact hK.out (undef) w' ⟨U1, k0, k1, k2, k3, k4, k5, k6, k7, k8, k9, k10, k11, k12, (fun _ => rfl), k14⟩
              · intro L U w' b hF hLi hmet hb ho K hK
                obtain ⟨U1, k0, k1, k2, k3, k4, k5, k6, k7, k8, k9, k10, k11, k12, k13, k14⟩ := hF
                have s125 := (hb 3 125 rfl).trans (k3 (hmet.get rfl))
                have r125 := getD_r s125
                clear hb ho hmet
                rw [if_pos (by rfl)]
                go_simp
                exact hK.out (.bool false) w' ⟨U1, k0, k1, k2, k3, k4, k5, k6, k7, k8, k9, k10, k11, k12, k13, (fun _ => rfl)⟩
            case fin =>
              intro L U wx hF hall
              obtain ⟨U1, k0, k1, k2, k3, k4, k5, k6, k7, k8, k9, k10, k11, k12, k13, k14⟩ := hF
              have kl := k14 (hall 14 (by decide))
              clear k0 k1 k2 k3 k4 k5 k6 k7 k8 k9 k10 k11 k12 k13 k14 hall
              simp only [fillA, Act.put, List.setIfInBounds_toArray, List.set_cons_zero, List.set_cons_succ]
              go_wp2_with fail; go_meet
              exact ⟨kl, Ta.below U1, sa.below U1, Tb.below U1, sb.below U1, Tc.below U1, sc.below U1, Tx.below U1, sx.below U1, Ty.below U1, sy.below U1, Tz.below U1, sz.below U1, U0.trans (U1.mono U0.size)⟩
        case rest =>
          obtain ⟨rfl, Ta, sa, Tb, sb, Tc, sc, Tx, sx, Ty, sy, Tz, sz, U0⟩ := hcut
          have cTa0 := Ta.cells.1
          have cTa1 := Ta.cells.2
          have zTa := Ta.lt
          have cTb0 := Tb.cells.1
          have cTb1 := Tb.cells.2
          have zTb := Tb.lt
          have cTc0 := Tc.cells.1
          have cTc1 := Tc.cells.2
          have zTc := Tc.lt
          have cTx0 := Tx.cells.1
          have cTx1 := Tx.cells.2.1
          have cTx2 := Tx.cells.2.2
          have zTx := Tx.lt
          have cTy0 := Ty.cells.1
          have cTy1 := Ty.cells.2.1
          have cTy2 := Ty.cells.2.2
          have zTy := Ty.lt
          have cTz0 := Tz.cells.1
          have cTz1 := Tz.cells.2.1
          have cTz2 := Tz.cells.2.2
          have zTz := Tz.lt
          go_wp2_with fail
          (with_reducible refine (Ng.out _ _ _ _ (by exact sa)).mono ?_)
          rintro e w1 ⟨am, lm, cm, rfl, sm, b1⟩
          replace U0 := U0.trans (b1.mono U0.size)
          replace Ta := Ta.below b1
          replace sa := sa.below b1
          replace Tb := Tb.below b1
          replace sb := sb.below b1
          replace Tc := Tc.below b1
          replace sc := sc.below b1
          replace Tx := Tx.below b1
          replace sx := sx.below b1
          replace Ty := Ty.below b1
          replace sy := sy.below b1
          replace Tz := Tz.below b1
          replace sz := sz.below b1
          replace cTa0 := Ta.cells.1
          replace cTa1 := Ta.cells.2
          replace zTa := Ta.lt
          replace cTb0 := Tb.cells.1
          replace cTb1 := Tb.cells.2
          replace zTb := Tb.lt
          replace cTc0 := Tc.cells.1
          replace cTc1 := Tc.cells.2
          replace zTc := Tc.lt
          replace cTx0 := Tx.cells.1
          replace cTx1 := Tx.cells.2.1
          replace cTx2 := Tx.cells.2.2
          replace zTx := Tx.lt
          replace cTy0 := Ty.cells.1
          replace cTy1 := Ty.cells.2.1
          replace cTy2 := Ty.cells.2.2
          replace zTy := Ty.lt
          replace cTz0 := Tz.cells.1
          replace cTz1 := Tz.cells.2.1
          replace cTz2 := Tz.cells.2.2
          replace zTz := Tz.lt
          clear b1
          go_upto_region 14 with (fail)
          replace U0 := U0.alloc U0.size (.cells #[.bool nm, .slice am lm cm] 24)
          replace Ta := Ta.alloc (.cells #[.bool nm, .slice am lm cm] 24)
          replace sa := sa.alloc (.cells #[.bool nm, .slice am lm cm] 24)
          replace Tb := Tb.alloc (.cells #[.bool nm, .slice am lm cm] 24)
          replace sb := sb.alloc (.cells #[.bool nm, .slice am lm cm] 24)
          replace Tc := Tc.alloc (.cells #[.bool nm, .slice am lm cm] 24)
          replace sc := sc.alloc (.cells #[.bool nm, .slice am lm cm] 24)
          replace Tx := Tx.alloc (.cells #[.bool nm, .slice am lm cm] 24)
          replace sx := sx.alloc (.cells #[.bool nm, .slice am lm cm] 24)
          replace Ty := Ty.alloc (.cells #[.bool nm, .slice am lm cm] 24)
          replace sy := sy.alloc (.cells #[.bool nm, .slice am lm cm] 24)
          replace Tz := Tz.alloc (.cells #[.bool nm, .slice am lm cm] 24)
          replace sz := sz.alloc (.cells #[.bool nm, .slice am lm cm] 24)
          replace sm := sm.alloc (.cells #[.bool nm, .slice am lm cm] 24)
          replace cTa0 := Ta.cells.1
          replace cTa1 := Ta.cells.2
          replace zTa := Ta.lt
          replace cTb0 := Tb.cells.1
          replace cTb1 := Tb.cells.2
          replace zTb := Tb.lt
          replace cTc0 := Tc.cells.1
          replace cTc1 := Tc.cells.2
          replace zTc := Tc.lt
          replace cTx0 := Tx.cells.1
          replace cTx1 := Tx.cells.2.1
          replace cTx2 := Tx.cells.2.2
          replace zTx := Tx.lt
          replace cTy0 := Ty.cells.1
          replace cTy1 := Ty.cells.2.1
          replace cTy2 := Ty.cells.2.2
          replace zTy := Ty.lt
          replace cTz0 := Tz.cells.1
          replace cTz1 := Tz.cells.2.1
          replace cTz2 := Tz.cells.2.2
          replace zTz := Tz.lt
          have Tm := BoxI.new w1 (w1.heap.size) (by first | rfl | simp) nm am lm cm
          have cTm0 := Tm.cells.1
          have cTm1 := Tm.cells.2
          have zTm := Tm.lt
          go_cut [153] (fun sl wx => sl = .bool false ∧ RingCut w (w.heap.size) (w.heap.size + 1) (w.heap.size + 1 + 1) na aa la ca xa nb ab lb cb xb nc ac lc cc xc hx hy hz px qx rx py qy ry pz qz rz wx)
          case first => as_aux_lemma =>
            clear cTa0 cTa1 zTa cTb0 cTb1 zTb cTc0 cTc1 zTc cTx0 cTx1 cTx2 zTx cTy0 cTy1 cTy2 zTy cTz0 cTz1 cTz2 zTz
            clear C1 C1b C2 C2b C3 C4 C5 C6 C7 C8 C9 C10 C11 C12 C13 C14 A1 A2 A3 A4 A5 O1 Sa Sb_ Ng HNa HNb
            clear cTm0 cTm1 zTm
            refine region_kept 12 [some 142, some 143, some 144, some 145, some 146, some 147, some 148, some 149, some 150, some 151, some 152, some 153] (fun U => [U 0, U 1, U 2, U 3, U 4, U 5, U 6, U 7, U 8, U 9, U 10, U 11]) (fun L U w' => Below ((w1.alloc (.cells #[.bool nm, .slice am lm cm] 24))).heap.size ((w1.alloc (.cells #[.bool nm, .slice am lm cm] 24))) w' ∧ (L 0 = true → U 0 = .int .i64 0) ∧ (L 1 = true → U 1 = .bool false) ∧ (L 2 = true → U 2 = .bool false) ∧ (L 3 = true → U 3 = .agg #[.bool na, .slice px qx rx, .int .i64 0]) ∧ (L 4 = true → U 4 = .agg #[.bool nm, .slice am lm cm]) ∧ (L 5 = true → HasP w' (U 5) (nm) (xm) (0)) ∧ (L 6 = true → HasP w' (U 6) (n0) (x0) (0)) ∧ (L 7 = true → HasI w' (U 7) (n0) (x0)) ∧ (L 8 = true → HasP w' (U 8) (n0) (x0) (0)) ∧ (L 9 = true → U 9 = .bool true) ∧ (L 10 = true → U 10 = .bool false) ∧ (L 11 = true → U 11 = .bool false)) rfl rfl (fun _ => rfl) rfl (by kernel_rfl) (by kernel_rfl) (by kernel_rfl) ?start ?step ?fin
            case start =>
              intro U
              exact ⟨(Below.refl _ _).drew, (by intro h; cases h), (by intro h; cases h), (by intro h; cases h), (by intro h; cases h), (by intro h; cases h), (by intro h; cases h), (by intro h; cases h), (by intro h; cases h), (by intro h; cases h), (by intro h; cases h), (by intro h; cases h), (by intro h; cases h)⟩
            case step =>
              refine ⟨?_, ?_, ?_, ?_, ?_, ?_, ?_, ?_, ?_, ?_, ?_, ?_, trivial⟩
              · intro L U w' b hF hLi hmet hb ho K hK
                obtain ⟨U1, k0, k1, k2, k3, k4, k5, k6, k7, k8, k9, k10, k11⟩ := hF
                have s12 : b.tmps.getD 12 undef = .int .i64 0 := (ho 12 rfl).trans rfl
                have r12 := getD_r s12
                clear hb ho hmet
                rw [if_pos (by rfl)]
                go_simp
                exact hK.out (.int .i64 0) w' ⟨U1, (fun _ => rfl), k1, k2, k3, k4, k5, k6, k7, k8, k9, k10, k11⟩
              · intro L U w' b hF hLi hmet hb ho K hK
                obtain ⟨U1, k0, k1, k2, k3, k4, k5, k6, k7, k8, k9, k10, k11⟩ := hF
                have s142 := (hb 0 142 rfl).trans (k0 (hmet.get rfl))
                have r142 := getD_r s142
                clear hb ho hmet
                rw [if_pos (by rfl)]
                go_simp
                exact hK.out (.bool false) w' ⟨U1, k0, (fun _ => rfl), k2, k3, k4, k5, k6, k7, k8, k9, k10, k11⟩
              · intro L U w' b hF hLi hmet hb ho K hK
                obtain ⟨U1, k0, k1, k2, k3, k4, k5, k6, k7, k8, k9, k10, k11⟩ := hF
                have s143 := (hb 1 143 rfl).trans (k1 (hmet.get rfl))
                have r143 := getD_r s143
                clear hb ho hmet
                rw [if_pos (by rfl)]
                go_simp
                exact hK.out (.bool false) w' ⟨U1, k0, k1, (fun _ => rfl), k3, k4, k5, k6, k7, k8, k9, k10, k11⟩
              · intro L U w' b hF hLi hmet hb ho K hK
                obtain ⟨U1, k0, k1, k2, k3, k4, k5, k6, k7, k8, k9, k10, k11⟩ := hF
                have s144 := (hb 2 144 rfl).trans (k2 (hmet.get rfl))
                have r144 := getD_r s144
                have s7 : b.tmps.getD 7 undef = .pointer (some ⟨hx, 0, none⟩) := (ho 7 rfl).trans rfl
                have r7 := getD_r s7
                have t0_ := (Tx.below U1).cells.1
                have t1_ := (Tx.below U1).cells.2.1
                have t2_ := (Tx.below U1).cells.2.2
                clear hb ho hmet
                rw [if_pos (wants rfl rfl s144)]
                go_simp
                exact hK.out (.agg #[.bool na, .slice px qx rx, .int .i64 0]) w' ⟨U1, k0, k1, k2, (fun _ => rfl), k4, k5, k6, k7, k8, k9, k10, k11⟩
              · intro L U w' b hF hLi hmet hb ho K hK
                obtain ⟨U1, k0, k1, k2, k3, k4, k5, k6, k7, k8, k9, k10, k11⟩ := hF
                have s144 := (hb 2 144 rfl).trans (k2 (hmet.get rfl))
                have r144 := getD_r s144
                have s11 : b.tmps.getD 11 undef = .pointer (some ⟨w1.heap.size, 0, none⟩) := (ho 11 rfl).trans rfl
                have r11 := getD_r s11
                have t0_ := (Tm.below U1).cells.1
                have t1_ := (Tm.below U1).cells.2
                clear hb ho hmet
                rw [if_pos (wants rfl rfl s144)]
                go_simp
                exact hK.out (.agg #[.bool nm, .slice am lm cm]) w' ⟨U1, k0, k1, k2, k3, (fun _ => rfl), k5, k6, k7, k8, k9, k10, k11⟩
              · intro L U w' b hF hLi hmet hb ho K hK
                obtain ⟨U1, k0, k1, k2, k3, k4, k5, k6, k7, k8, k9, k10, k11⟩ := hF
                have s144 := (hb 2 144 rfl).trans (k2 (hmet.get rfl))
                have r144 := getD_r s144
                have s146 := (hb 4 146 rfl).trans (k4 (hmet.get rfl))
                have r146 := getD_r s146
                clear hb ho hmet
                rw [if_pos (wants rfl rfl s144)]
                go_simp
                go_at_call 65
                (with_reducible refine (lawValP (by exact (sm.below U1))).mono ?_)
                rintro e_ wq ⟨ra, rl, rc, rfl, rs, bq⟩
                exact hK.out (.agg #[.bool nm, .slice ra rl rc, .int .i64 0]) wq ⟨(U1.trans (bq.mono U1.size)), k0, k1, k2, k3, k4, (fun _ => ⟨ra, rl, rc, rfl, rs⟩), (fun h => (k6 h).below bq), (fun h => (k7 h).below bq), (fun h => (k8 h).below bq), k9, k10, k11⟩
              · intro L U w' b hF hLi hmet hb ho K hK
                obtain ⟨U1, k0, k1, k2, k3, k4, k5, k6, k7, k8, k9, k10, k11⟩ := hF
                have s144 := (hb 2 144 rfl).trans (k2 (hmet.get rfl))
                have r144 := getD_r s144
                have s145 := (hb 3 145 rfl).trans (k3 (hmet.get rfl))
                have r145 := getD_r s145
                obtain ⟨pa5, pl5, pc5, pe5, ps5⟩ := k5 (hmet.get rfl)
                have s147 := (hb 5 147 rfl).trans pe5
                have r147 := getD_r s147
                clear hb ho hmet
                rw [if_pos (wants rfl rfl s144)]
                go_simp
                go_at_call 67
                (with_reducible refine (C15.out _ _ _ _ _ _ _ (by exact (sx.below U1)) (by exact ps5)).mono ?_)
                rintro e_ wq ⟨ra, rl, rc, rfl, rs, bq⟩
                exact hK.out (.agg #[.bool n0, .slice ra rl rc, .int .i64 0]) wq ⟨(U1.trans (bq.mono U1.size)), k0, k1, k2, k3, k4, (fun h => (k5 h).below bq), (fun _ => ⟨ra, rl, rc, rfl, rs⟩), (fun h => (k7 h).below bq), (fun h => (k8 h).below bq), k9, k10, k11⟩
              · intro L U w' b hF hLi hmet hb ho K hK
                obtain ⟨U1, k0, k1, k2, k3, k4, k5, k6, k7, k8, k9, k10, k11⟩ := hF
                have s144 := (hb 2 144 rfl).trans (k2 (hmet.get rfl))
                have r144 := getD_r s144
                clear hb ho hmet
                rw [if_pos (wants rfl rfl s144)]
                go_simp
                go_at_call 69
                (with_reducible refine (O0.out _).mono ?_)
                rintro e_ wq ⟨ra, rl, rc, rfl, rs, bq⟩
                exact hK.out (.agg #[.bool n0, .slice ra rl rc]) wq ⟨(U1.trans (bq.mono U1.size)), k0, k1, k2, k3, k4, (fun h => (k5 h).below bq), (fun h => (k6 h).below bq), (fun _ => ⟨ra, rl, rc, rfl, rs⟩), (fun h => (k8 h).below bq), k9, k10, k11⟩
              · intro L U w' b hF hLi hmet hb ho K hK
                obtain ⟨U1, k0, k1, k2, k3, k4, k5, k6, k7, k8, k9, k10, k11⟩ := hF
                have s144 := (hb 2 144 rfl).trans (k2 (hmet.get rfl))
                have r144 := getD_r s144
                obtain ⟨pa7, pl7, pc7, pe7, ps7⟩ := k7 (hmet.get rfl)
                have s149 := (hb 7 149 rfl).trans pe7
                have r149 := getD_r s149
                clear hb ho hmet
                rw [if_pos (wants rfl rfl s144)]
                go_simp
                go_at_call 65
                (with_reducible refine (lawValP (by exact ps7)).mono ?_)
                rintro e_ wq ⟨ra, rl, rc, rfl, rs, bq⟩
                exact hK.out (.agg #[.bool n0, .slice ra rl rc, .int .i64 0]) wq ⟨(U1.trans (bq.mono U1.size)), k0, k1, k2, k3, k4, (fun h => (k5 h).below bq), (fun h => (k6 h).below bq), (fun h => (k7 h).below bq), (fun _ => ⟨ra, rl, rc, rfl, rs⟩), k9, k10, k11⟩
              · intro L U w' b hF hLi hmet hb ho K hK
                obtain ⟨U1, k0, k1, k2, k3, k4, k5, k6, k7, k8, k9, k10, k11⟩ := hF
                have s144 := (hb 2 144 rfl).trans (k2 (hmet.get rfl))
                have r144 := getD_r s144
                obtain ⟨pa6, pl6, pc6, pe6, ps6⟩ := k6 (hmet.get rfl)
                have s148 := (hb 6 148 rfl).trans pe6
                have r148 := getD_r s148
                obtain ⟨pa8, pl8, pc8, pe8, ps8⟩ := k8 (hmet.get rfl)
                have s150 := (hb 8 150 rfl).trans pe8
                have r150 := getD_r s150
                clear hb ho hmet
                rw [if_pos (wants rfl rfl s144)]
                go_simp
                go_at_call 27
                (with_reducible refine (S0.out _ _ _ _ _ _ _ (by exact ps6) (by exact ps8)).mono ?_)
                rintro e_ wq ⟨rfl, bq⟩
                exact hK.out (.bool true) wq ⟨(U1.trans (bq.mono U1.size)), k0, k1, k2, k3, k4, (fun h => (k5 h).below bq), (fun h => (k6 h).below bq), (fun h => (k7 h).below bq), (fun h => (k8 h).below bq), (fun _ => rfl), k10, k11⟩
              · intro L U w' b hF hLi hmet hb ho K hK
                obtain ⟨U1, k0, k1, k2, k3, k4, k5, k6, k7, k8, k9, k10, k11⟩ := hF
                have s144 := (hb 2 144 rfl).trans (k2 (hmet.get rfl))
                have r144 := getD_r s144
                have s151 := (hb 9 151 rfl).trans (k9 (hmet.get rfl))
                have r151 := getD_r s151
                clear hb ho hmet
                rw [if_pos (wants rfl rfl s144)]
                go_simp
                exact hK.out (.bool false) w' ⟨U1, k0, k1, k2, k3, k4, k5, k6, k7, k8, k9, (fun _ => rfl), k11⟩
              · intro L U w' b hF hLi hmet hb ho K hK
                obtain ⟨U1, k0, k1, k2, k3, k4, k5, k6, k7, k8, k9, k10, k11⟩ := hF
                have s144 := (hb 2 144 rfl).trans (k2 (hmet.get rfl))
                have r144 := getD_r s144
                have s152 := (hb 10 152 rfl).trans (k10 (hmet.get rfl))
                have r152 := getD_r s152
                clear hb ho hmet
                rw [if_pos (by rfl)]
                go_simp
                exact hK.out (.bool false) w' ⟨U1, k0, k1, k2, k3, k4, k5, k6, k7, k8, k9, k10, (fun _ => rfl)⟩
            case fin =>
              intro L U wx hF hall
              obtain ⟨U1, k0, k1, k2, k3, k4, k5, k6, k7, k8, k9, k10, k11⟩ := hF
              have kl := k11 (hall 11 (by decide))
              clear k0 k1 k2 k3 k4 k5 k6 k7 k8 k9 k10 k11 hall
              simp only [fillA, Act.put, List.setIfInBounds_toArray, List.set_cons_zero, List.set_cons_succ]
              go_wp2_with fail; go_meet
              exact ⟨kl, Ta.below U1, sa.below U1, Tb.below U1, sb.below U1, Tc.below U1, sc.below U1, Tx.below U1, sx.below U1, Ty.below U1, sy.below U1, Tz.below U1, sz.below U1, U0.trans (U1.mono U0.size)⟩
          case rest =>
            obtain ⟨rfl, Ta, sa, Tb, sb, Tc, sc, Tx, sx, Ty, sy, Tz, sz, U0⟩ := hcut
            have cTa0 := Ta.cells.1
            have cTa1 := Ta.cells.2
            have zTa := Ta.lt
            have cTb0 := Tb.cells.1
            have cTb1 := Tb.cells.2
            have zTb := Tb.lt
            have cTc0 := Tc.cells.1
            have cTc1 := Tc.cells.2
            have zTc := Tc.lt
            have cTx0 := Tx.cells.1
            have cTx1 := Tx.cells.2.1
            have cTx2 := Tx.cells.2.2
            have zTx := Tx.lt
            have cTy0 := Ty.cells.1
            have cTy1 := Ty.cells.2.1
            have cTy2 := Ty.cells.2.2
            have zTy := Ty.lt
            have cTz0 := Tz.cells.1
            have cTz1 := Tz.cells.2.1
            have cTz2 := Tz.cells.2.2
            have zTz := Tz.lt
            have Na := HNa.out; have Nb := HNb.out
            clear C1 C1b C2 C2b C3 C4 C5 C6 C7 C8 C9 C10 C11 C12 C13 C14 C15 A1 A2 A3 A4 A5 O0 O1 Sa S0 Sb_ Ng HNa HNb
            by_cases hb0 : b = 0
            · as_aux_lemma =>
                have Dz := Lib.hid (fun ax la ca ay lb cb w hx hy => div0P Na Nb hb0 ax la ca ay lb cb w hx hy)
                have Mz := Lib.hid (fun ax la ca ay lb cb w hx hy => mod0P Na Nb hb0 ax la ca ay lb cb w hx hy)
                have Sz := Lib.hid (fun ao len cap w hs => signQ Nb (show cmp3 b 0 = 0 by rw [hb0]; exact cmp3_self 0) ao len cap w hs)
                clear Na Nb hb0
                go_wp2_with fail
                (with_reducible refine (Dz.out _ _ _ _ _ _ _ (by exact sa) (by exact sb)).mono ?_)
                rintro e w1 ⟨aq, lq, cq, rfl, sq, b1⟩
                replace U0 := U0.trans (b1.mono U0.size)
                replace Ta := Ta.below b1
                replace sa := sa.below b1
                replace Tb := Tb.below b1
                replace sb := sb.below b1
                replace Tc := Tc.below b1
                replace sc := sc.below b1
                replace Tx := Tx.below b1
                replace sx := sx.below b1
                replace Ty := Ty.below b1
                replace sy := sy.below b1
                replace Tz := Tz.below b1
                replace sz := sz.below b1
                replace cTa0 := Ta.cells.1
                replace cTa1 := Ta.cells.2
                replace zTa := Ta.lt
                replace cTb0 := Tb.cells.1
                replace cTb1 := Tb.cells.2
                replace zTb := Tb.lt
                replace cTc0 := Tc.cells.1
                replace cTc1 := Tc.cells.2
                replace zTc := Tc.lt
                replace cTx0 := Tx.cells.1
                replace cTx1 := Tx.cells.2.1
                replace cTx2 := Tx.cells.2.2
                replace zTx := Tx.lt
                replace cTy0 := Ty.cells.1
                replace cTy1 := Ty.cells.2.1
                replace cTy2 := Ty.cells.2.2
                replace zTy := Ty.lt
                replace cTz0 := Tz.cells.1
                replace cTz1 := Tz.cells.2.1
                replace cTz2 := Tz.cells.2.2
                replace zTz := Tz.lt
                clear b1
                go_wp2_with fail
                replace U0 := U0.alloc U0.size (.cells #[.bool false, .slice aq lq cq] 24)
                replace Ta := Ta.alloc (.cells #[.bool false, .slice aq lq cq] 24)
                replace sa := sa.alloc (.cells #[.bool false, .slice aq lq cq] 24)
                replace Tb := Tb.alloc (.cells #[.bool false, .slice aq lq cq] 24)
                replace sb := sb.alloc (.cells #[.bool false, .slice aq lq cq] 24)
                replace Tc := Tc.alloc (.cells #[.bool false, .slice aq lq cq] 24)
                replace sc := sc.alloc (.cells #[.bool false, .slice aq lq cq] 24)
                replace Tx := Tx.alloc (.cells #[.bool false, .slice aq lq cq] 24)
                replace sx := sx.alloc (.cells #[.bool false, .slice aq lq cq] 24)
                replace Ty := Ty.alloc (.cells #[.bool false, .slice aq lq cq] 24)
                replace sy := sy.alloc (.cells #[.bool false, .slice aq lq cq] 24)
                replace Tz := Tz.alloc (.cells #[.bool false, .slice aq lq cq] 24)
                replace sz := sz.alloc (.cells #[.bool false, .slice aq lq cq] 24)
                replace sq := sq.alloc (.cells #[.bool false, .slice aq lq cq] 24)
                replace cTa0 := Ta.cells.1
                replace cTa1 := Ta.cells.2
                replace zTa := Ta.lt
                replace cTb0 := Tb.cells.1
                replace cTb1 := Tb.cells.2
                replace zTb := Tb.lt
                replace cTc0 := Tc.cells.1
                replace cTc1 := Tc.cells.2
                replace zTc := Tc.lt
                replace cTx0 := Tx.cells.1
                replace cTx1 := Tx.cells.2.1
                replace cTx2 := Tx.cells.2.2
                replace zTx := Tx.lt
                replace cTy0 := Ty.cells.1
                replace cTy1 := Ty.cells.2.1
                replace cTy2 := Ty.cells.2.2
                replace zTy := Ty.lt
                replace cTz0 := Tz.cells.1
                replace cTz1 := Tz.cells.2.1
                replace cTz2 := Tz.cells.2.2
                replace zTz := Tz.lt
                have Tq := BoxI.new w1 (w1.heap.size) (by first | rfl | simp) false aq lq cq
                have cTq0 := Tq.cells.1
                have cTq1 := Tq.cells.2
                have zTq := Tq.lt
                (with_reducible refine (Mz.out _ _ _ _ _ _ _ (by exact sa) (by exact sb)).mono ?_)
                rintro e w2 ⟨ar, lr, cr, rfl, sr, b2⟩
                replace U0 := U0.trans (b2.mono U0.size)
                replace Ta := Ta.below b2
                replace sa := sa.below b2
                replace Tb := Tb.below b2
                replace sb := sb.below b2
                replace Tc := Tc.below b2
                replace sc := sc.below b2
                replace Tx := Tx.below b2
                replace sx := sx.below b2
                replace Ty := Ty.below b2
                replace sy := sy.below b2
                replace Tz := Tz.below b2
                replace sz := sz.below b2
                replace sq := sq.below b2
                replace Tq := Tq.below b2
                replace cTa0 := Ta.cells.1
                replace cTa1 := Ta.cells.2
                replace zTa := Ta.lt
                replace cTb0 := Tb.cells.1
                replace cTb1 := Tb.cells.2
                replace zTb := Tb.lt
                replace cTc0 := Tc.cells.1
                replace cTc1 := Tc.cells.2
                replace zTc := Tc.lt
                replace cTx0 := Tx.cells.1
                replace cTx1 := Tx.cells.2.1
                replace cTx2 := Tx.cells.2.2
                replace zTx := Tx.lt
                replace cTy0 := Ty.cells.1
                replace cTy1 := Ty.cells.2.1
                replace cTy2 := Ty.cells.2.2
                replace zTy := Ty.lt
                replace cTz0 := Tz.cells.1
                replace cTz1 := Tz.cells.2.1
                replace cTz2 := Tz.cells.2.2
                replace zTz := Tz.lt
                replace cTq0 := Tq.cells.1
                replace cTq1 := Tq.cells.2
                replace zTq := Tq.lt
                clear b2
                go_wp2_with fail
                replace U0 := U0.alloc U0.size (.cells #[.bool false, .slice ar lr cr] 24)
                replace Ta := Ta.alloc (.cells #[.bool false, .slice ar lr cr] 24)
                replace sa := sa.alloc (.cells #[.bool false, .slice ar lr cr] 24)
                replace Tb := Tb.alloc (.cells #[.bool false, .slice ar lr cr] 24)
                replace sb := sb.alloc (.cells #[.bool false, .slice ar lr cr] 24)
                replace Tc := Tc.alloc (.cells #[.bool false, .slice ar lr cr] 24)
                replace sc := sc.alloc (.cells #[.bool false, .slice ar lr cr] 24)
                replace Tx := Tx.alloc (.cells #[.bool false, .slice ar lr cr] 24)
                replace sx := sx.alloc (.cells #[.bool false, .slice ar lr cr] 24)
                replace Ty := Ty.alloc (.cells #[.bool false, .slice ar lr cr] 24)
                replace sy := sy.alloc (.cells #[.bool false, .slice ar lr cr] 24)
                replace Tz := Tz.alloc (.cells #[.bool false, .slice ar lr cr] 24)
                replace sz := sz.alloc (.cells #[.bool false, .slice ar lr cr] 24)
                replace sq := sq.alloc (.cells #[.bool false, .slice ar lr cr] 24)
                replace Tq := Tq.alloc (.cells #[.bool false, .slice ar lr cr] 24)
                replace sr := sr.alloc (.cells #[.bool false, .slice ar lr cr] 24)
                replace cTa0 := Ta.cells.1
                replace cTa1 := Ta.cells.2
                replace zTa := Ta.lt
                replace cTb0 := Tb.cells.1
                replace cTb1 := Tb.cells.2
                replace zTb := Tb.lt
                replace cTc0 := Tc.cells.1
                replace cTc1 := Tc.cells.2
                replace zTc := Tc.lt
                replace cTx0 := Tx.cells.1
                replace cTx1 := Tx.cells.2.1
                replace cTx2 := Tx.cells.2.2
                replace zTx := Tx.lt
                replace cTy0 := Ty.cells.1
                replace cTy1 := Ty.cells.2.1
                replace cTy2 := Ty.cells.2.2
                replace zTy := Ty.lt
                replace cTz0 := Tz.cells.1
                replace cTz1 := Tz.cells.2.1
                replace cTz2 := Tz.cells.2.2
                replace zTz := Tz.lt
                replace cTq0 := Tq.cells.1
                replace cTq1 := Tq.cells.2
                replace zTq := Tq.lt
                have Tr := BoxI.new w2 (w2.heap.size) (by first | rfl | simp) false ar lr cr
                have cTr0 := Tr.cells.1
                have cTr1 := Tr.cells.2
                have zTr := Tr.lt
                (with_reducible refine (Sz.out _ _ _ _ (by exact sb)).mono ?_)
                rintro e w3 ⟨rfl, b3⟩
                replace U0 := U0.trans (b3.mono U0.size)
                replace Ta := Ta.below b3
                replace sa := sa.below b3
                replace Tb := Tb.below b3
                replace sb := sb.below b3
                replace Tc := Tc.below b3
                replace sc := sc.below b3
                replace Tx := Tx.below b3
                replace sx := sx.below b3
                replace Ty := Ty.below b3
                replace sy := sy.below b3
                replace Tz := Tz.below b3
                replace sz := sz.below b3
                replace sq := sq.below b3
                replace Tq := Tq.below b3
                replace sr := sr.below b3
                replace Tr := Tr.below b3
                replace cTa0 := Ta.cells.1
                replace cTa1 := Ta.cells.2
                replace zTa := Ta.lt
                replace cTb0 := Tb.cells.1
                replace cTb1 := Tb.cells.2
                replace zTb := Tb.lt
                replace cTc0 := Tc.cells.1
                replace cTc1 := Tc.cells.2
                replace zTc := Tc.lt
                replace cTx0 := Tx.cells.1
                replace cTx1 := Tx.cells.2.1
                replace cTx2 := Tx.cells.2.2
                replace zTx := Tx.lt
                replace cTy0 := Ty.cells.1
                replace cTy1 := Ty.cells.2.1
                replace cTy2 := Ty.cells.2.2
                replace zTy := Ty.lt
                replace cTz0 := Tz.cells.1
                replace cTz1 := Tz.cells.2.1
                replace cTz2 := Tz.cells.2.2
                replace zTz := Tz.lt
                replace cTq0 := Tq.cells.1
                replace cTq1 := Tq.cells.2
                replace zTq := Tq.lt
                replace cTr0 := Tr.cells.1
                replace cTr1 := Tr.cells.2
                replace zTr := Tr.lt
                clear b3
                go_wp2; go_ret; exact ⟨rfl, U0⟩
            · as_aux_lemma =>
                obtain ⟨nq, xq, Nq⟩ := quo_num' Na hb0
                obtain ⟨nr, xr, Nr⟩ := rem_num (a := a) Nb hb0
                obtain ⟨v12, ev12, h12⟩ : ∃ v e, timesR (flq a b, 0) (b, 0) = (v, e) := ⟨_, _, rfl⟩
                have l12 : Lim v12 := by have := timesR_lim (flq a b, 0) (b, 0); rw [h12] at this; exact this
                obtain ⟨n12, x12, N12⟩ : ∃ n xs, Num v12 n xs := ⟨_, _, l12, rfl, rfl⟩
                obtain ⟨v13, ev13, h13⟩ : ∃ v e, sumR (v12, ev12) (flr a b, 0) = (v, e) := ⟨_, _, rfl⟩
                have l13 : Lim v13 := by have := sumR_lim (v12, ev12) (flr a b, 0); rw [h13] at this; exact this
                obtain ⟨n13, x13, N13⟩ : ∃ n xs, Num v13 n xs := ⟨_, _, l13, rfl, rfl⟩
                obtain ⟨vr, hvr⟩ : ∃ v, cmp3 (flr a b) 0 = v := ⟨_, rfl⟩
                have Dv := Lib.hid (fun ax la ca ay lb cb w hx hy => divP Na Nb Nq hb0 rfl ax la ca ay lb cb w hx hy)
                have Md := Lib.hid (fun ax la ca ay lb cb w hx hy => modP Na Nb Nr hb0 rfl ax la ca ay lb cb w hx hy)
                have C12 := Lib.hid (fun ax la ca ay lb cb w hx hy => lawTimes_any Nq Nb N12 h12 ax la ca ay lb cb w hx hy)
                have C13 := Lib.hid (fun ax la ca ay lb cb w hx hy => lawSum_any N12 Nr N13 h13 ax la ca ay lb cb w hx hy)
                have A6 := Lib.hid (fun ax la ca ay lb cb w hx hy => agreeP N13 Na ev13 0 (div_back h12 h13) ax la ca ay lb cb w hx hy)
                have Sm := Lib.hid (fun ax la ca ay lb cb w hx hy => smallerP Nr Nb true (rem_small a hb0) ax la ca ay lb cb w hx hy)
                have Sr := Lib.hid (fun ao len cap w hs => signQ Nr hvr ao len cap w hs)
                have HV : Hid (vr ≠ 0 → (nr == nb) = true) := Lib.hid (fun h => rem_sign hb0 Nr Nb (fun h0 => h (by rw [← hvr, h0]; exact cmp3_self 0)))
                clear Na Nb Nq Nr N12 N13 h12 h13 l12 l13 hvr hb0
                go_wp2_with fail
                (with_reducible refine (Dv.out _ _ _ _ _ _ _ (by exact sa) (by exact sb)).mono ?_)
                rintro e w1 ⟨aq, lq, cq, rfl, sq, b1⟩
                replace U0 := U0.trans (b1.mono U0.size)
                replace Ta := Ta.below b1
                replace sa := sa.below b1
                replace Tb := Tb.below b1
                replace sb := sb.below b1
                replace Tc := Tc.below b1
                replace sc := sc.below b1
                replace Tx := Tx.below b1
                replace sx := sx.below b1
                replace Ty := Ty.below b1
                replace sy := sy.below b1
                replace Tz := Tz.below b1
                replace sz := sz.below b1
                replace cTa0 := Ta.cells.1
                replace cTa1 := Ta.cells.2
                replace zTa := Ta.lt
                replace cTb0 := Tb.cells.1
                replace cTb1 := Tb.cells.2
                replace zTb := Tb.lt
                replace cTc0 := Tc.cells.1
                replace cTc1 := Tc.cells.2
                replace zTc := Tc.lt
                replace cTx0 := Tx.cells.1
                replace cTx1 := Tx.cells.2.1
                replace cTx2 := Tx.cells.2.2
                replace zTx := Tx.lt
                replace cTy0 := Ty.cells.1
                replace cTy1 := Ty.cells.2.1
                replace cTy2 := Ty.cells.2.2
                replace zTy := Ty.lt
                replace cTz0 := Tz.cells.1
                replace cTz1 := Tz.cells.2.1
                replace cTz2 := Tz.cells.2.2
                replace zTz := Tz.lt
                clear b1
                go_wp2_with fail
                replace U0 := U0.alloc U0.size (.cells #[.bool nq, .slice aq lq cq] 24)
                replace Ta := Ta.alloc (.cells #[.bool nq, .slice aq lq cq] 24)
                replace sa := sa.alloc (.cells #[.bool nq, .slice aq lq cq] 24)
                replace Tb := Tb.alloc (.cells #[.bool nq, .slice aq lq cq] 24)
                replace sb := sb.alloc (.cells #[.bool nq, .slice aq lq cq] 24)
                replace Tc := Tc.alloc (.cells #[.bool nq, .slice aq lq cq] 24)
                replace sc := sc.alloc (.cells #[.bool nq, .slice aq lq cq] 24)
                replace Tx := Tx.alloc (.cells #[.bool nq, .slice aq lq cq] 24)
                replace sx := sx.alloc (.cells #[.bool nq, .slice aq lq cq] 24)
                replace Ty := Ty.alloc (.cells #[.bool nq, .slice aq lq cq] 24)
                replace sy := sy.alloc (.cells #[.bool nq, .slice aq lq cq] 24)
                replace Tz := Tz.alloc (.cells #[.bool nq, .slice aq lq cq] 24)
                replace sz := sz.alloc (.cells #[.bool nq, .slice aq lq cq] 24)
                replace sq := sq.alloc (.cells #[.bool nq, .slice aq lq cq] 24)
                replace cTa0 := Ta.cells.1
                replace cTa1 := Ta.cells.2
                replace zTa := Ta.lt
                replace cTb0 := Tb.cells.1
                replace cTb1 := Tb.cells.2
                replace zTb := Tb.lt
                replace cTc0 := Tc.cells.1
                replace cTc1 := Tc.cells.2
                replace zTc := Tc.lt
                replace cTx0 := Tx.cells.1
                replace cTx1 := Tx.cells.2.1
                replace cTx2 := Tx.cells.2.2
                replace zTx := Tx.lt
                replace cTy0 := Ty.cells.1
                replace cTy1 := Ty.cells.2.1
                replace cTy2 := Ty.cells.2.2
                replace zTy := Ty.lt
                replace cTz0 := Tz.cells.1
                replace cTz1 := Tz.cells.2.1
                replace cTz2 := Tz.cells.2.2
                replace zTz := Tz.lt
                have Tq := BoxI.new w1 (w1.heap.size) (by first | rfl | simp) nq aq lq cq
                have cTq0 := Tq.cells.1
                have cTq1 := Tq.cells.2
                have zTq := Tq.lt
                (with_reducible refine (Md.out _ _ _ _ _ _ _ (by exact sa) (by exact sb)).mono ?_)
                rintro e w2 ⟨ar, lr, cr, rfl, sr, b2⟩
                replace U0 := U0.trans (b2.mono U0.size)
                replace Ta := Ta.below b2
                replace sa := sa.below b2
                replace Tb := Tb.below b2
                replace sb := sb.below b2
                replace Tc := Tc.below b2
                replace sc := sc.below b2
                replace Tx := Tx.below b2
                replace sx := sx.below b2
                replace Ty := Ty.below b2
                replace sy := sy.below b2
                replace Tz := Tz.below b2
                replace sz := sz.below b2
                replace sq := sq.below b2
                replace Tq := Tq.below b2
                replace cTa0 := Ta.cells.1
                replace cTa1 := Ta.cells.2
                replace zTa := Ta.lt
                replace cTb0 := Tb.cells.1
                replace cTb1 := Tb.cells.2
                replace zTb := Tb.lt
                replace cTc0 := Tc.cells.1
                replace cTc1 := Tc.cells.2
                replace zTc := Tc.lt
                replace cTx0 := Tx.cells.1
                replace cTx1 := Tx.cells.2.1
                replace cTx2 := Tx.cells.2.2
                replace zTx := Tx.lt
                replace cTy0 := Ty.cells.1
                replace cTy1 := Ty.cells.2.1
                replace cTy2 := Ty.cells.2.2
                replace zTy := Ty.lt
                replace cTz0 := Tz.cells.1
                replace cTz1 := Tz.cells.2.1
                replace cTz2 := Tz.cells.2.2
                replace zTz := Tz.lt
                replace cTq0 := Tq.cells.1
                replace cTq1 := Tq.cells.2
                replace zTq := Tq.lt
                clear b2
                go_upto_region 20 with (fail)
                replace U0 := U0.alloc U0.size (.cells #[.bool nr, .slice ar lr cr] 24)
                replace Ta := Ta.alloc (.cells #[.bool nr, .slice ar lr cr] 24)
                replace sa := sa.alloc (.cells #[.bool nr, .slice ar lr cr] 24)
                replace Tb := Tb.alloc (.cells #[.bool nr, .slice ar lr cr] 24)
                replace sb := sb.alloc (.cells #[.bool nr, .slice ar lr cr] 24)
                replace Tc := Tc.alloc (.cells #[.bool nr, .slice ar lr cr] 24)
                replace sc := sc.alloc (.cells #[.bool nr, .slice ar lr cr] 24)
                replace Tx := Tx.alloc (.cells #[.bool nr, .slice ar lr cr] 24)
                replace sx := sx.alloc (.cells #[.bool nr, .slice ar lr cr] 24)
                replace Ty := Ty.alloc (.cells #[.bool nr, .slice ar lr cr] 24)
                replace sy := sy.alloc (.cells #[.bool nr, .slice ar lr cr] 24)
                replace Tz := Tz.alloc (.cells #[.bool nr, .slice ar lr cr] 24)
                replace sz := sz.alloc (.cells #[.bool nr, .slice ar lr cr] 24)
                replace sq := sq.alloc (.cells #[.bool nr, .slice ar lr cr] 24)
                replace Tq := Tq.alloc (.cells #[.bool nr, .slice ar lr cr] 24)
                replace sr := sr.alloc (.cells #[.bool nr, .slice ar lr cr] 24)
                replace cTa0 := Ta.cells.1
                replace cTa1 := Ta.cells.2
                replace zTa := Ta.lt
                replace cTb0 := Tb.cells.1
                replace cTb1 := Tb.cells.2
                replace zTb := Tb.lt
                replace cTc0 := Tc.cells.1
                replace cTc1 := Tc.cells.2
                replace zTc := Tc.lt
                replace cTx0 := Tx.cells.1
                replace cTx1 := Tx.cells.2.1
                replace cTx2 := Tx.cells.2.2
                replace zTx := Tx.lt
                replace cTy0 := Ty.cells.1
                replace cTy1 := Ty.cells.2.1
                replace cTy2 := Ty.cells.2.2
                replace zTy := Ty.lt
                replace cTz0 := Tz.cells.1
                replace cTz1 := Tz.cells.2.1
                replace cTz2 := Tz.cells.2.2
                replace zTz := Tz.lt
                replace cTq0 := Tq.cells.1
                replace cTq1 := Tq.cells.2
                replace zTq := Tq.lt
                have Tr := BoxI.new w2 (w2.heap.size) (by first | rfl | simp) nr ar lr cr
                have cTr0 := Tr.cells.1
                have cTr1 := Tr.cells.2
                have zTr := Tr.lt
                go_cut [6] (fun sl wx => sl = .bool true ∧ Below w.heap.size w wx)
                case first =>
                  clear cTa0 cTa1 zTa cTb0 cTb1 zTb cTc0 cTc1 zTc cTq0 cTq1 zTq cTr0 cTr1 zTr cTx0 cTx1 cTx2 zTx cTy0 cTy1 cTy2 zTy cTz0 cTz1 cTz2 zTz Dv Md
                  by_cases r0 : vr = 0
                  · have q_ : (vr == 0) = true := by rw [r0]; rfl
                    clear r0 HV
                    refine region_kept 27 [some 183, some 184, some 185, some 186, some 187, some 188, some 189, some 190, some 191, some 192, some 193, some 194, some 195, some 196, some 197, some 198, some 199, some 200, some 201, some 202, some 203, some 204, some 205, some 206, some 207, some 208, some 6] (fun U => [U 0, U 1, U 2, U 3, U 4, U 5, U 6, U 7, U 8, U 9, U 10, U 11, U 12, U 13, U 14, U 15, U 16, U 17, U 18, U 19, U 20, U 21, U 22, U 23, U 24, U 25, U 26]) (fun L U w' => Below ((w2.alloc (.cells #[.bool nr, .slice ar lr cr] 24))).heap.size ((w2.alloc (.cells #[.bool nr, .slice ar lr cr] 24))) w' ∧ (L 0 = true → U 0 = .agg #[.bool nq, .slice aq lq cq]) ∧ (L 1 = true → HasP w' (U 1) (nq) (xq) (0)) ∧ (L 2 = true → U 2 = .agg #[.bool nb, .slice py qy ry, .int .i64 0]) ∧ (L 3 = true → HasP w' (U 3) (n12) (x12) (ev12)) ∧ (L 4 = true → U 4 = .agg #[.bool nr, .slice ar lr cr]) ∧ (L 5 = true → HasP w' (U 5) (nr) (xr) (0)) ∧ (L 6 = true → HasP w' (U 6) (n13) (x13) (ev13)) ∧ (L 7 = true → U 7 = .agg #[.bool na, .slice px qx rx, .int .i64 0]) ∧ (L 8 = true → U 8 = .bool true) ∧ (L 9 = true → U 9 = .bool true) ∧ (L 10 = true → U 10 = .agg #[.bool nr, .slice ar lr cr]) ∧ (L 11 = true → U 11 = .agg #[.bool nb, .slice ab lb cb]) ∧ (L 12 = true → U 12 = .bool true) ∧ (L 13 = true → U 13 = .bool true) ∧ (L 14 = true → U 14 = .bool true) ∧ (L 15 = true → U 15 = .agg #[.bool nr, .slice ar lr cr]) ∧ (L 16 = true → U 16 = .int .i64 vr) ∧ (L 17 = true → U 17 = .bool true) ∧ (L 18 = true → U 18 = .bool true) ∧ (L 19 = true → U 19 = undef) ∧ (L 20 = true → U 20 = undef) ∧ (L 21 = true → U 21 = undef) ∧ (L 22 = true → U 22 = undef) ∧ (L 23 = true → U 23 = undef) ∧ (L 24 = true → U 24 = .bool true) ∧ (L 25 = true → U 25 = .bool true) ∧ (L 26 = true → U 26 = .bool true)) rfl rfl (fun _ => rfl) rfl (by kernel_rfl) (by kernel_rfl) (by kernel_rfl) ?start ?step ?fin
                    case start =>
                      intro U
                      exact ⟨(Below.refl _ _).drew, (by intro h; cases h), (by intro h; cases h), (by intro h; cases h), (by intro h; cases h), (by intro h; cases h), (by intro h; cases h), (by intro h; cases h), (by intro h; cases h), (by intro h; cases h), (by intro h; cases h), (by intro h; cases h), (by intro h; cases h), (by intro h; cases h), (by intro h; cases h), (by intro h; cases h), (by intro h; cases h), (by intro h; cases h), (by intro h; cases h), (by intro h; cases h), (by intro h; cases h), (by intro h; cases h), (by intro h; cases h), (by intro h; cases h), (by intro h; cases h), (by intro h; cases h), (by intro h; cases h), (by intro h; cases h)⟩
                    case step =>
                      refine ⟨?_, ?_, ?_, ?_, ?_, ?_, ?_, ?_, ?_, ?_, ?_, ?_, ?_, ?_, ?_, ?_, ?_, ?_, ?_, ?_, ?_, ?_, ?_, ?_, ?_, ?_, ?_, trivial⟩
                      · intro L U w' b hF hLi hmet hb ho K hK
                        obtain ⟨U1, k0, k1, k2, k3, k4, k5, k6, k7, k8, k9, k10, k11, k12, k13, k14, k15, k16, k17, k18, k19, k20, k21, k22, k23, k24, k25, k26⟩ := hF
                        have s13 : b.tmps.getD 13 undef = .pointer (some ⟨w1.heap.size, 0, none⟩) := (ho 13 rfl).trans rfl
                        have r13 := getD_r s13
                        have t0_ := (Tq.below U1).cells.1
                        have t1_ := (Tq.below U1).cells.2
                        clear hb ho hmet
                        rw [if_pos (by rfl)]
                        go_simp
                        exact hK.out (.agg #[.bool nq, .slice aq lq cq]) w' ⟨U1, (fun _ => rfl), k1, k2, k3, k4, k5, k6, k7, k8, k9, k10, k11, k12, k13, k14, k15, k16, k17, k18, k19, k20, k21, k22, k23, k24, k25, k26⟩
                      · intro L U w' b hF hLi hmet hb ho K hK
                        obtain ⟨U1, k0, k1, k2, k3, k4, k5, k6, k7, k8, k9, k10, k11, k12, k13, k14, k15, k16, k17, k18, k19, k20, k21, k22, k23, k24, k25, k26⟩ := hF
                        have s183 := (hb 0 183 rfl).trans (k0 (hmet.get rfl))
                        have r183 := getD_r s183
                        clear hb ho hmet
                        rw [if_pos (by rfl)]
                        go_simp
                        go_at_call 65
                        (with_reducible refine (lawValP (by exact (sq.below U1))).mono ?_)
                        rintro e_ wq ⟨ra, rl, rc, rfl, rs, bq⟩
                        exact hK.out (.agg #[.bool nq, .slice ra rl rc, .int .i64 0]) wq ⟨(U1.trans (bq.mono U1.size)), k0, (fun _ => ⟨ra, rl, rc, rfl, rs⟩), k2, (fun h => (k3 h).below bq), k4, (fun h => (k5 h).below bq), (fun h => (k6 h).below bq), k7, k8, k9, k10, k11, k12, k13, k14, k15, k16, k17, k18, k19, k20, k21, k22, k23, k24, k25, k26⟩
                      · intro L U w' b hF hLi hmet hb ho K hK
                        obtain ⟨U1, k0, k1, k2, k3, k4, k5, k6, k7, k8, k9, k10, k11, k12, k13, k14, k15, k16, k17, k18, k19, k20, k21, k22, k23, k24, k25, k26⟩ := hF
                        have s8 : b.tmps.getD 8 undef = .pointer (some ⟨hy, 0, none⟩) := (ho 8 rfl).trans rfl
                        have r8 := getD_r s8
                        have t0_ := (Ty.below U1).cells.1
                        have t1_ := (Ty.below U1).cells.2.1
                        have t2_ := (Ty.below U1).cells.2.2
                        clear hb ho hmet
                        rw [if_pos (by rfl)]
                        go_simp
                        exact hK.out (.agg #[.bool nb, .slice py qy ry, .int .i64 0]) w' ⟨U1, k0, k1, (fun _ => rfl), k3, k4, k5, k6, k7, k8, k9, k10, k11, k12, k13, k14, k15, k16, k17, k18, k19, k20, k21, k22, k23, k24, k25, k26⟩
                      · intro L U w' b hF hLi hmet hb ho K hK
                        obtain ⟨U1, k0, k1, k2, k3, k4, k5, k6, k7, k8, k9, k10, k11, k12, k13, k14, k15, k16, k17, k18, k19, k20, k21, k22, k23, k24, k25, k26⟩ := hF
                        obtain ⟨pa1, pl1, pc1, pe1, ps1⟩ := k1 (hmet.get rfl)
                        have s184 := (hb 1 184 rfl).trans pe1
                        have r184 := getD_r s184
                        have s185 := (hb 2 185 rfl).trans (k2 (hmet.get rfl))
                        have r185 := getD_r s185
                        clear hb ho hmet
                        rw [if_pos (by rfl)]
                        go_simp
                        go_at_call 68
                        (with_reducible refine (C12.out _ _ _ _ _ _ _ (by exact ps1) (by exact (sy.below U1))).mono ?_)
                        rintro e_ wq ⟨ra, rl, rc, rfl, rs, bq⟩
                        exact hK.out (.agg #[.bool n12, .slice ra rl rc, .int .i64 ev12]) wq ⟨(U1.trans (bq.mono U1.size)), k0, (fun h => (k1 h).below bq), k2, (fun _ => ⟨ra, rl, rc, rfl, rs⟩), k4, (fun h => (k5 h).below bq), (fun h => (k6 h).below bq), k7, k8, k9, k10, k11, k12, k13, k14, k15, k16, k17, k18, k19, k20, k21, k22, k23, k24, k25, k26⟩
                      · intro L U w' b hF hLi hmet hb ho K hK
                        obtain ⟨U1, k0, k1, k2, k3, k4, k5, k6, k7, k8, k9, k10, k11, k12, k13, k14, k15, k16, k17, k18, k19, k20, k21, k22, k23, k24, k25, k26⟩ := hF
                        have s15 : b.tmps.getD 15 undef = .pointer (some ⟨w2.heap.size, 0, none⟩) := (ho 15 rfl).trans rfl
                        have r15 := getD_r s15
                        have t0_ := (Tr.below U1).cells.1
                        have t1_ := (Tr.below U1).cells.2
                        clear hb ho hmet
                        rw [if_pos (by rfl)]
                        go_simp
                        exact hK.out (.agg #[.bool nr, .slice ar lr cr]) w' ⟨U1, k0, k1, k2, k3, (fun _ => rfl), k5, k6, k7, k8, k9, k10, k11, k12, k13, k14, k15, k16, k17, k18, k19, k20, k21, k22, k23, k24, k25, k26⟩
                      · intro L U w' b hF hLi hmet hb ho K hK
                        obtain ⟨U1, k0, k1, k2, k3, k4, k5, k6, k7, k8, k9, k10, k11, k12, k13, k14, k15, k16, k17, k18, k19, k20, k21, k22, k23, k24, k25, k26⟩ := hF
                        have s187 := (hb 4 187 rfl).trans (k4 (hmet.get rfl))
                        have r187 := getD_r s187
                        clear hb ho hmet
                        rw [if_pos (by rfl)]
                        go_simp
                        go_at_call 65
                        (with_reducible refine (lawValP (by exact (sr.below U1))).mono ?_)
                        rintro e_ wq ⟨ra, rl, rc, rfl, rs, bq⟩
                        exact hK.out (.agg #[.bool nr, .slice ra rl rc, .int .i64 0]) wq ⟨(U1.trans (bq.mono U1.size)), k0, (fun h => (k1 h).below bq), k2, (fun h => (k3 h).below bq), k4, (fun _ => ⟨ra, rl, rc, rfl, rs⟩), (fun h => (k6 h).below bq), k7, k8, k9, k10, k11, k12, k13, k14, k15, k16, k17, k18, k19, k20, k21, k22, k23, k24, k25, k26⟩
                      · intro L U w' b hF hLi hmet hb ho K hK
                        obtain ⟨U1, k0, k1, k2, k3, k4, k5, k6, k7, k8, k9, k10, k11, k12, k13, k14, k15, k16, k17, k18, k19, k20, k21, k22, k23, k24, k25, k26⟩ := hF
                        obtain ⟨pa3, pl3, pc3, pe3, ps3⟩ := k3 (hmet.get rfl)
                        have s186 := (hb 3 186 rfl).trans pe3
                        have r186 := getD_r s186
                        obtain ⟨pa5, pl5, pc5, pe5, ps5⟩ := k5 (hmet.get rfl)
                        have s188 := (hb 5 188 rfl).trans pe5
                        have r188 := getD_r s188
                        clear hb ho hmet
                        rw [if_pos (by rfl)]
                        go_simp
                        go_at_call 67
                        (with_reducible refine (C13.out _ _ _ _ _ _ _ (by exact ps3) (by exact ps5)).mono ?_)
                        rintro e_ wq ⟨ra, rl, rc, rfl, rs, bq⟩
                        exact hK.out (.agg #[.bool n13, .slice ra rl rc, .int .i64 ev13]) wq ⟨(U1.trans (bq.mono U1.size)), k0, (fun h => (k1 h).below bq), k2, (fun h => (k3 h).below bq), k4, (fun h => (k5 h).below bq), (fun _ => ⟨ra, rl, rc, rfl, rs⟩), k7, k8, k9, k10, k11, k12, k13, k14, k15, k16, k17, k18, k19, k20, k21, k22, k23, k24, k25, k26⟩
                      · intro L U w' b hF hLi hmet hb ho K hK
                        obtain ⟨U1, k0, k1, k2, k3, k4, k5, k6, k7, k8, k9, k10, k11, k12, k13, k14, k15, k16, k17, k18, k19, k20, k21, k22, k23, k24, k25, k26⟩ := hF
                        have s7 : b.tmps.getD 7 undef = .pointer (some ⟨hx, 0, none⟩) := (ho 7 rfl).trans rfl
                        have r7 := getD_r s7
                        have t0_ := (Tx.below U1).cells.1
                        have t1_ := (Tx.below U1).cells.2.1
                        have t2_ := (Tx.below U1).cells.2.2
                        clear hb ho hmet
                        rw [if_pos (by rfl)]
                        go_simp
                        exact hK.out (.agg #[.bool na, .slice px qx rx, .int .i64 0]) w' ⟨U1, k0, k1, k2, k3, k4, k5, k6, (fun _ => rfl), k8, k9, k10, k11, k12, k13, k14, k15, k16, k17, k18, k19, k20, k21, k22, k23, k24, k25, k26⟩
                      · intro L U w' b hF hLi hmet hb ho K hK
                        obtain ⟨U1, k0, k1, k2, k3, k4, k5, k6, k7, k8, k9, k10, k11, k12, k13, k14, k15, k16, k17, k18, k19, k20, k21, k22, k23, k24, k25, k26⟩ := hF
                        obtain ⟨pa6, pl6, pc6, pe6, ps6⟩ := k6 (hmet.get rfl)
                        have s189 := (hb 6 189 rfl).trans pe6
                        have r189 := getD_r s189
                        have s190 := (hb 7 190 rfl).trans (k7 (hmet.get rfl))
                        have r190 := getD_r s190
                        clear hb ho hmet
                        rw [if_pos (by rfl)]
                        go_simp
                        go_at_call 66
                        (with_reducible refine (A6.out _ _ _ _ _ _ _ (by exact ps6) (by exact (sx.below U1))).mono ?_)
                        rintro e_ wq ⟨rfl, bq⟩
                        exact hK.out (.bool true) wq ⟨(U1.trans (bq.mono U1.size)), k0, (fun h => (k1 h).below bq), k2, (fun h => (k3 h).below bq), k4, (fun h => (k5 h).below bq), (fun h => (k6 h).below bq), k7, (fun _ => rfl), k9, k10, k11, k12, k13, k14, k15, k16, k17, k18, k19, k20, k21, k22, k23, k24, k25, k26⟩
                      · intro L U w' b hF hLi hmet hb ho K hK
                        obtain ⟨U1, k0, k1, k2, k3, k4, k5, k6, k7, k8, k9, k10, k11, k12, k13, k14, k15, k16, k17, k18, k19, k20, k21, k22, k23, k24, k25, k26⟩ := hF
                        have s191 := (hb 8 191 rfl).trans (k8 (hmet.get rfl))
                        have r191 := getD_r s191
                        clear hb ho hmet
                        rw [if_pos (by rfl)]
                        go_simp
                        exact hK.out (.bool true) w' ⟨U1, k0, k1, k2, k3, k4, k5, k6, k7, k8, (fun _ => rfl), k10, k11, k12, k13, k14, k15, k16, k17, k18, k19, k20, k21, k22, k23, k24, k25, k26⟩
                      · intro L U w' b hF hLi hmet hb ho K hK
                        obtain ⟨U1, k0, k1, k2, k3, k4, k5, k6, k7, k8, k9, k10, k11, k12, k13, k14, k15, k16, k17, k18, k19, k20, k21, k22, k23, k24, k25, k26⟩ := hF
                        have s192 := (hb 9 192 rfl).trans (k9 (hmet.get rfl))
                        have r192 := getD_r s192
                        have s15 : b.tmps.getD 15 undef = .pointer (some ⟨w2.heap.size, 0, none⟩) := (ho 15 rfl).trans rfl
                        have r15 := getD_r s15
                        have t0_ := (Tr.below U1).cells.1
                        have t1_ := (Tr.below U1).cells.2
                        clear hb ho hmet
                        rw [if_pos (wants rfl rfl s192)]
                        go_simp
                        exact hK.out (.agg #[.bool nr, .slice ar lr cr]) w' ⟨U1, k0, k1, k2, k3, k4, k5, k6, k7, k8, k9, (fun _ => rfl), k11, k12, k13, k14, k15, k16, k17, k18, k19, k20, k21, k22, k23, k24, k25, k26⟩
                      · intro L U w' b hF hLi hmet hb ho K hK
                        obtain ⟨U1, k0, k1, k2, k3, k4, k5, k6, k7, k8, k9, k10, k11, k12, k13, k14, k15, k16, k17, k18, k19, k20, k21, k22, k23, k24, k25, k26⟩ := hF
                        have s192 := (hb 9 192 rfl).trans (k9 (hmet.get rfl))
                        have r192 := getD_r s192
                        have s4 : b.tmps.getD 4 undef = .pointer (some ⟨w.heap.size + 1, 0, none⟩) := (ho 4 rfl).trans rfl
                        have r4 := getD_r s4
                        have t0_ := (Tb.below U1).cells.1
                        have t1_ := (Tb.below U1).cells.2
                        clear hb ho hmet
                        rw [if_pos (wants rfl rfl s192)]
                        go_simp
                        exact hK.out (.agg #[.bool nb, .slice ab lb cb]) w' ⟨U1, k0, k1, k2, k3, k4, k5, k6, k7, k8, k9, k10, (fun _ => rfl), k12, k13, k14, k15, k16, k17, k18, k19, k20, k21, k22, k23, k24, k25, k26⟩
                      · intro L U w' b hF hLi hmet hb ho K hK
                        obtain ⟨U1, k0, k1, k2, k3, k4, k5, k6, k7, k8, k9, k10, k11, k12, k13, k14, k15, k16, k17, k18, k19, k20, k21, k22, k23, k24, k25, k26⟩ := hF
                        have s192 := (hb 9 192 rfl).trans (k9 (hmet.get rfl))
                        have r192 := getD_r s192
                        have s193 := (hb 10 193 rfl).trans (k10 (hmet.get rfl))
                        have r193 := getD_r s193
                        have s194 := (hb 11 194 rfl).trans (k11 (hmet.get rfl))
                        have r194 := getD_r s194
                        clear hb ho hmet
                        rw [if_pos (wants rfl rfl s192)]
                        go_simp
                        go_at_call 70
                        (with_reducible refine (Sm.out _ _ _ _ _ _ _ (by exact (sr.below U1)) (by exact (sb.below U1))).mono ?_)
                        rintro e_ wq ⟨rfl, bq⟩
                        exact hK.out (.bool true) wq ⟨(U1.trans (bq.mono U1.size)), k0, (fun h => (k1 h).below bq), k2, (fun h => (k3 h).below bq), k4, (fun h => (k5 h).below bq), (fun h => (k6 h).below bq), k7, k8, k9, k10, k11, (fun _ => rfl), k13, k14, k15, k16, k17, k18, k19, k20, k21, k22, k23, k24, k25, k26⟩
                      · intro L U w' b hF hLi hmet hb ho K hK
                        obtain ⟨U1, k0, k1, k2, k3, k4, k5, k6, k7, k8, k9, k10, k11, k12, k13, k14, k15, k16, k17, k18, k19, k20, k21, k22, k23, k24, k25, k26⟩ := hF
                        have s192 := (hb 9 192 rfl).trans (k9 (hmet.get rfl))
                        have r192 := getD_r s192
                        have s195 := (hb 12 195 rfl).trans (k12 (hmet.get rfl))
                        have r195 := getD_r s195
                        clear hb ho hmet
                        rw [if_pos (by rfl)]
                        go_simp
                        exact hK.out (.bool true) w' ⟨U1, k0, k1, k2, k3, k4, k5, k6, k7, k8, k9, k10, k11, k12, (fun _ => rfl), k14, k15, k16, k17, k18, k19, k20, k21, k22, k23, k24, k25, k26⟩
                      · intro L U w' b hF hLi hmet hb ho K hK
                        obtain ⟨U1, k0, k1, k2, k3, k4, k5, k6, k7, k8, k9, k10, k11, k12, k13, k14, k15, k16, k17, k18, k19, k20, k21, k22, k23, k24, k25, k26⟩ := hF
                        have s196 := (hb 13 196 rfl).trans (k13 (hmet.get rfl))
                        have r196 := getD_r s196
                        clear hb ho hmet
                        rw [if_pos (by rfl)]
                        go_simp
                        exact hK.out (.bool true) w' ⟨U1, k0, k1, k2, k3, k4, k5, k6, k7, k8, k9, k10, k11, k12, k13, (fun _ => rfl), k15, k16, k17, k18, k19, k20, k21, k22, k23, k24, k25, k26⟩
                      · intro L U w' b hF hLi hmet hb ho K hK
                        obtain ⟨U1, k0, k1, k2, k3, k4, k5, k6, k7, k8, k9, k10, k11, k12, k13, k14, k15, k16, k17, k18, k19, k20, k21, k22, k23, k24, k25, k26⟩ := hF
                        have s197 := (hb 14 197 rfl).trans (k14 (hmet.get rfl))
                        have r197 := getD_r s197
                        have s15 : b.tmps.getD 15 undef = .pointer (some ⟨w2.heap.size, 0, none⟩) := (ho 15 rfl).trans rfl
                        have r15 := getD_r s15
                        have t0_ := (Tr.below U1).cells.1
                        have t1_ := (Tr.below U1).cells.2
                        clear hb ho hmet
                        rw [if_pos (wants rfl rfl s197)]
                        go_simp
                        exact hK.out (.agg #[.bool nr, .slice ar lr cr]) w' ⟨U1, k0, k1, k2, k3, k4, k5, k6, k7, k8, k9, k10, k11, k12, k13, k14, (fun _ => rfl), k16, k17, k18, k19, k20, k21, k22, k23, k24, k25, k26⟩
                      · intro L U w' b hF hLi hmet hb ho K hK
                        obtain ⟨U1, k0, k1, k2, k3, k4, k5, k6, k7, k8, k9, k10, k11, k12, k13, k14, k15, k16, k17, k18, k19, k20, k21, k22, k23, k24, k25, k26⟩ := hF
                        have s197 := (hb 14 197 rfl).trans (k14 (hmet.get rfl))
                        have r197 := getD_r s197
                        have s198 := (hb 15 198 rfl).trans (k15 (hmet.get rfl))
                        have r198 := getD_r s198
                        clear hb ho hmet
                        rw [if_pos (wants rfl rfl s197)]
                        go_simp
                        go_at_call 40
                        (with_reducible refine (Sr.out _ _ _ _ (by exact (sr.below U1))).mono ?_)
                        rintro e_ wq ⟨rfl, bq⟩
                        exact hK.out (.int .i64 vr) wq ⟨(U1.trans (bq.mono U1.size)), k0, (fun h => (k1 h).below bq), k2, (fun h => (k3 h).below bq), k4, (fun h => (k5 h).below bq), (fun h => (k6 h).below bq), k7, k8, k9, k10, k11, k12, k13, k14, k15, (fun _ => rfl), k17, k18, k19, k20, k21, k22, k23, k24, k25, k26⟩
                      · intro L U w' b hF hLi hmet hb ho K hK
                        obtain ⟨U1, k0, k1, k2, k3, k4, k5, k6, k7, k8, k9, k10, k11, k12, k13, k14, k15, k16, k17, k18, k19, k20, k21, k22, k23, k24, k25, k26⟩ := hF
                        have s197 := (hb 14 197 rfl).trans (k14 (hmet.get rfl))
                        have r197 := getD_r s197
                        have s199 := (hb 16 199 rfl).trans (k16 (hmet.get rfl))
                        have r199 := getD_r s199
                        clear hb ho hmet
                        rw [if_pos (wants rfl rfl s197)]
                        go_simp
                        exact hK.out (.bool true) w' ⟨U1, k0, k1, k2, k3, k4, k5, k6, k7, k8, k9, k10, k11, k12, k13, k14, k15, k16, (fun _ => rfl), k18, k19, k20, k21, k22, k23, k24, k25, k26⟩
                      · intro L U w' b hF hLi hmet hb ho K hK
                        obtain ⟨U1, k0, k1, k2, k3, k4, k5, k6, k7, k8, k9, k10, k11, k12, k13, k14, k15, k16, k17, k18, k19, k20, k21, k22, k23, k24, k25, k26⟩ := hF
                        have s197 := (hb 14 197 rfl).trans (k14 (hmet.get rfl))
                        have r197 := getD_r s197
                        have s200 := (hb 17 200 rfl).trans (k17 (hmet.get rfl))
                        have r200 := getD_r s200
                        clear hb ho hmet
                        rw [if_pos (wants rfl rfl s197)]
                        go_simp
                        exact hK.out (.bool true) w' ⟨U1, k0, k1, k2, k3, k4, k5, k6, k7, k8, k9, k10, k11, k12, k13, k14, k15, k16, k17, (fun _ => rfl), k19, k20, k21, k22, k23, k24, k25, k26⟩
                      · intro L U w' b hF hLi hmet hb ho K hK
                        obtain ⟨U1, k0, k1, k2, k3, k4, k5, k6, k7, k8, k9, k10, k11, k12, k13, k14, k15, k16, k17, k18, k19, k20, k21, k22, k23, k24, k25, k26⟩ := hF
                        have s201 := (hb 18 201 rfl).trans (k18 (hmet.get rfl))
                        have r201 := getD_r s201
                        rw [if_neg (wants_not rfl rfl s201 (by decide))]
                        exact hK.out (undef) w' ⟨U1, k0, k1, k2, k3, k4, k5, k6, k7, k8, k9, k10, k11, k12, k13, k14, k15, k16, k17, k18, (fun _ => rfl), k20, k21, k22, k23, k24, k25, k26⟩
                      · intro L U w' b hF hLi hmet hb ho K hK
                        obtain ⟨U1, k0, k1, k2, k3, k4, k5, k6, k7, k8, k9, k10, k11, k12, k13, k14, k15, k16, k17, k18, k19, k20, k21, k22, k23, k24, k25, k26⟩ := hF
                        have s201 := (hb 18 201 rfl).trans (k18 (hmet.get rfl))
                        have r201 := getD_r s201
                        rw [if_neg (wants_not rfl rfl s201 (by decide))]
                        exact hK.out (undef) w' ⟨U1, k0, k1, k2, k3, k4, k5, k6, k7, k8, k9, k10, k11, k12, k13, k14, k15, k16, k17, k18, k19, (fun _ => rfl), k21, k22, k23, k24, k25, k26⟩
                      · intro L U w' b hF hLi hmet hb ho K hK
                        obtain ⟨U1, k0, k1, k2, k3, k4, k5, k6, k7, k8, k9, k10, k11, k12, k13, k14, k15, k16, k17, k18, k19, k20, k21, k22, k23, k24, k25, k26⟩ := hF
                        have s201 := (hb 18 201 rfl).trans (k18 (hmet.get rfl))
                        have r201 := getD_r s201
                        rw [if_neg (wants_not rfl rfl s201 (by decide))]
                        exact hK.out (undef) w' ⟨U1, k0, k1, k2, k3, k4, k5, k6, k7, k8, k9, k10, k11, k12, k13, k14, k15, k16, k17, k18, k19, k20, (fun _ => rfl), k22, k23, k24, k25, k26⟩
                      · intro L U w' b hF hLi hmet hb ho K hK
                        obtain ⟨U1, k0, k1, k2, k3, k4, k5, k6, k7, k8, k9, k10, k11, k12, k13, k14, k15, k16, k17, k18, k19, k20, k21, k22, k23, k24, k25, k26⟩ := hF
                        have s201 := (hb 18 201 rfl).trans (k18 (hmet.get rfl))
                        have r201 := getD_r s201
                        rw [if_neg (wants_not rfl rfl s201 (by decide))]
                        exact hK.out (undef) w' ⟨U1, k0, k1, k2, k3, k4, k5, k6, k7, k8, k9, k10, k11, k12, k13, k14, k15, k16, k17, k18, k19, k20, k21, (fun _ => rfl), k23, k24, k25, k26⟩
                      · intro L U w' b hF hLi hmet hb ho K hK
                        obtain ⟨U1, k0, k1, k2, k3, k4, k5, k6, k7, k8, k9, k10, k11, k12, k13, k14, k15, k16, k17, k18, k19, k20, k21, k22, k23, k24, k25, k26⟩ := hF
                        have s201 := (hb 18 201 rfl).trans (k18 (hmet.get rfl))
                        have r201 := getD_r s201
                        rw [if_neg (wants_not rfl rfl s201 (by decide))]
                        exact hK.out (undef) w' ⟨U1, k0, k1, k2, k3, k4, k5, k6, k7, k8, k9, k10, k11, k12, k13, k14, k15, k16, k17, k18, k19, k20, k21, k22, (fun _ => rfl), k24, k25, k26⟩
                      · intro L U w' b hF hLi hmet hb ho K hK
                        obtain ⟨U1, k0, k1, k2, k3, k4, k5, k6, k7, k8, k9, k10, k11, k12, k13, k14, k15, k16, k17, k18, k19, k20, k21, k22, k23, k24, k25, k26⟩ := hF
                        have s197 := (hb 14 197 rfl).trans (k14 (hmet.get rfl))
                        have r197 := getD_r s197
                        have s201 := (hb 18 201 rfl).trans (k18 (hmet.get rfl))
                        have r201 := getD_r s201
                        clear hb ho hmet
                        rw [if_pos (wants rfl rfl s197)]
                        go_simp
                        exact hK.out (.bool true) w' ⟨U1, k0, k1, k2, k3, k4, k5, k6, k7, k8, k9, k10, k11, k12, k13, k14, k15, k16, k17, k18, k19, k20, k21, k22, k23, (fun _ => rfl), k25, k26⟩
                      · intro L U w' b hF hLi hmet hb ho K hK
                        obtain ⟨U1, k0, k1, k2, k3, k4, k5, k6, k7, k8, k9, k10, k11, k12, k13, k14, k15, k16, k17, k18, k19, k20, k21, k22, k23, k24, k25, k26⟩ := hF
                        have s197 := (hb 14 197 rfl).trans (k14 (hmet.get rfl))
                        have r197 := getD_r s197
                        have s207 := (hb 24 207 rfl).trans (k24 (hmet.get rfl))
                        have r207 := getD_r s207
                        clear hb ho hmet
                        rw [if_pos (by rfl)]
                        go_simp
                        exact hK.out (.bool true) w' ⟨U1, k0, k1, k2, k3, k4, k5, k6, k7, k8, k9, k10, k11, k12, k13, k14, k15, k16, k17, k18, k19, k20, k21, k22, k23, k24, (fun _ => rfl), k26⟩
                      · intro L U w' b hF hLi hmet hb ho K hK
                        obtain ⟨U1, k0, k1, k2, k3, k4, k5, k6, k7, k8, k9, k10, k11, k12, k13, k14, k15, k16, k17, k18, k19, k20, k21, k22, k23, k24, k25, k26⟩ := hF
                        have s208 := (hb 25 208 rfl).trans (k25 (hmet.get rfl))
                        have r208 := getD_r s208
                        clear hb ho hmet
                        rw [if_pos (by rfl)]
                        go_simp
                        exact hK.out (.bool true) w' ⟨U1, k0, k1, k2, k3, k4, k5, k6, k7, k8, k9, k10, k11, k12, k13, k14, k15, k16, k17, k18, k19, k20, k21, k22, k23, k24, k25, (fun _ => rfl)⟩
                    case fin =>
                      intro L U wx hF hall
                      obtain ⟨U1, k0, k1, k2, k3, k4, k5, k6, k7, k8, k9, k10, k11, k12, k13, k14, k15, k16, k17, k18, k19, k20, k21, k22, k23, k24, k25, k26⟩ := hF
                      have kl := k26 (hall 26 (by decide))
                      clear k0 k1 k2 k3 k4 k5 k6 k7 k8 k9 k10 k11 k12 k13 k14 k15 k16 k17 k18 k19 k20 k21 k22 k23 k24 k25 k26 hall
                      simp only [fillA, Act.put, List.setIfInBounds_toArray, List.set_cons_zero, List.set_cons_succ]
                      go_wp2_with fail; go_meet
                      exact ⟨kl, U0.trans (U1.mono U0.size)⟩
                  · have q_ : (vr == 0) = false := by simpa using r0
                    have qn := HV.out r0
                    clear r0 HV
                    refine region_kept 27 [some 183, some 184, some 185, some 186, some 187, some 188, some 189, some 190, some 191, some 192, some 193, some 194, some 195, some 196, some 197, some 198, some 199, some 200, some 201, some 202, some 203, some 204, some 205, some 206, some 207, some 208, some 6] (fun U => [U 0, U 1, U 2, U 3, U 4, U 5, U 6, U 7, U 8, U 9, U 10, U 11, U 12, U 13, U 14, U 15, U 16, U 17, U 18, U 19, U 20, U 21, U 22, U 23, U 24, U 25, U 26]) (fun L U w' => Below ((w2.alloc (.cells #[.bool nr, .slice ar lr cr] 24))).heap.size ((w2.alloc (.cells #[.bool nr, .slice ar lr cr] 24))) w' ∧ (L 0 = true → U 0 = .agg #[.bool nq, .slice aq lq cq]) ∧ (L 1 = true → HasP w' (U 1) (nq) (xq) (0)) ∧ (L 2 = true → U 2 = .agg #[.bool nb, .slice py qy ry, .int .i64 0]) ∧ (L 3 = true → HasP w' (U 3) (n12) (x12) (ev12)) ∧ (L 4 = true → U 4 = .agg #[.bool nr, .slice ar lr cr]) ∧ (L 5 = true → HasP w' (U 5) (nr) (xr) (0)) ∧ (L 6 = true → HasP w' (U 6) (n13) (x13) (ev13)) ∧ (L 7 = true → U 7 = .agg #[.bool na, .slice px qx rx, .int .i64 0]) ∧ (L 8 = true → U 8 = .bool true) ∧ (L 9 = true → U 9 = .bool true) ∧ (L 10 = true → U 10 = .agg #[.bool nr, .slice ar lr cr]) ∧ (L 11 = true → U 11 = .agg #[.bool nb, .slice ab lb cb]) ∧ (L 12 = true → U 12 = .bool true) ∧ (L 13 = true → U 13 = .bool true) ∧ (L 14 = true → U 14 = .bool true) ∧ (L 15 = true → U 15 = .agg #[.bool nr, .slice ar lr cr]) ∧ (L 16 = true → U 16 = .int .i64 vr) ∧ (L 17 = true → U 17 = .bool false) ∧ (L 18 = true → U 18 = .bool false) ∧ (L 19 = true → U 19 = .pointer (some ⟨w2.heap.size, 0, none⟩)) ∧ (L 20 = true → U 20 = .bool nr) ∧ (L 21 = true → U 21 = .pointer (some ⟨w.heap.size + 1, 0, none⟩)) ∧ (L 22 = true → U 22 = .bool nb) ∧ (L 23 = true → U 23 = .bool true) ∧ (L 24 = true → U 24 = .bool true) ∧ (L 25 = true → U 25 = .bool true) ∧ (L 26 = true → U 26 = .bool true)) rfl rfl (fun _ => rfl) rfl (by kernel_rfl) (by kernel_rfl) (by kernel_rfl) ?start ?step ?fin
                    case start =>
                      intro U
                      exact ⟨(Below.refl _ _).drew, (by intro h; cases h), (by intro h; cases h), (by intro h; cases h), (by intro h; cases h), (by intro h; cases h), (by intro h; cases h), (by intro h; cases h), (by intro h; cases h), (by intro h; cases h), (by intro h; cases h), (by intro h; cases h), (by intro h; cases h), (by intro h; cases h), (by intro h; cases h), (by intro h; cases h), (by intro h; cases h), (by intro h; cases h), (by intro h; cases h), (by intro h; cases h), (by intro h; cases h), (by intro h; cases h), (by intro h; cases h), (by intro h; cases h), (by intro h; cases h), (by intro h; cases h), (by intro h; cases h), (by intro h; cases h)⟩
                    case step =>
                      refine ⟨?_, ?_, ?_, ?_, ?_, ?_, ?_, ?_, ?_, ?_, ?_, ?_, ?_, ?_, ?_, ?_, ?_, ?_, ?_, ?_, ?_, ?_, ?_, ?_, ?_, ?_, ?_, trivial⟩
                      · intro L U w' b hF hLi hmet hb ho K hK
                        obtain ⟨U1, k0, k1, k2, k3, k4, k5, k6, k7, k8, k9, k10, k11, k12, k13, k14, k15, k16, k17, k18, k19, k20, k21, k22, k23, k24, k25, k26⟩ := hF
                        have s13 : b.tmps.getD 13 undef = .pointer (some ⟨w1.heap.size, 0, none⟩) := (ho 13 rfl).trans rfl
                        have r13 := getD_r s13
                        have t0_ := (Tq.below U1).cells.1
                        have t1_ := (Tq.below U1).cells.2
                        clear hb ho hmet
                        rw [if_pos (by rfl)]
                        go_simp
                        exact hK.out (.agg #[.bool nq, .slice aq lq cq]) w' ⟨U1, (fun _ => rfl), k1, k2, k3, k4, k5, k6, k7, k8, k9, k10, k11, k12, k13, k14, k15, k16, k17, k18, k19, k20, k21, k22, k23, k24, k25, k26⟩
                      · intro L U w' b hF hLi hmet hb ho K hK
                        obtain ⟨U1, k0, k1, k2, k3, k4, k5, k6, k7, k8, k9, k10, k11, k12, k13, k14, k15, k16, k17, k18, k19, k20, k21, k22, k23, k24, k25, k26⟩ := hF
                        have s183 := (hb 0 183 rfl).trans (k0 (hmet.get rfl))
                        have r183 := getD_r s183
                        clear hb ho hmet
                        rw [if_pos (by rfl)]
                        go_simp
                        go_at_call 65
                        (with_reducible refine (lawValP (by exact (sq.below U1))).mono ?_)
                        rintro e_ wq ⟨ra, rl, rc, rfl, rs, bq⟩
                        exact hK.out (.agg #[.bool nq, .slice ra rl rc, .int .i64 0]) wq ⟨(U1.trans (bq.mono U1.size)), k0, (fun _ => ⟨ra, rl, rc, rfl, rs⟩), k2, (fun h => (k3 h).below bq), k4, (fun h => (k5 h).below bq), (fun h => (k6 h).below bq), k7, k8, k9, k10, k11, k12, k13, k14, k15, k16, k17, k18, k19, k20, k21, k22, k23, k24, k25, k26⟩
                      · intro L U w' b hF hLi hmet hb ho K hK
                        obtain ⟨U1, k0, k1, k2, k3, k4, k5, k6, k7, k8, k9, k10, k11, k12, k13, k14, k15, k16, k17, k18, k19, k20, k21, k22, k23, k24, k25, k26⟩ := hF
                        have s8 : b.tmps.getD 8 undef = .pointer (some ⟨hy, 0, none⟩) := (ho 8 rfl).trans rfl
                        have r8 := getD_r s8
                        have t0_ := (Ty.below U1).cells.1
                        have t1_ := (Ty.below U1).cells.2.1
                        have t2_ := (Ty.below U1).cells.2.2
                        clear hb ho hmet
                        rw [if_pos (by rfl)]
                        go_simp
                        exact hK.out (.agg #[.bool nb, .slice py qy ry, .int .i64 0]) w' ⟨U1, k0, k1, (fun _ => rfl), k3, k4, k5, k6, k7, k8, k9, k10, k11, k12, k13, k14, k15, k16, k17, k18, k19, k20, k21, k22, k23, k24, k25, k26⟩
                      · intro L U w' b hF hLi hmet hb ho K hK
                        obtain ⟨U1, k0, k1, k2, k3, k4, k5, k6, k7, k8, k9, k10, k11, k12, k13, k14, k15, k16, k17, k18, k19, k20, k21, k22, k23, k24, k25, k26⟩ := hF
                        obtain ⟨pa1, pl1, pc1, pe1, ps1⟩ := k1 (hmet.get rfl)
                        have s184 := (hb 1 184 rfl).trans pe1
                        have r184 := getD_r s184
                        have s185 := (hb 2 185 rfl).trans (k2 (hmet.get rfl))
                        have r185 := getD_r s185
                        clear hb ho hmet
                        rw [if_pos (by rfl)]
                        go_simp
                        go_at_call 68
                        (with_reducible refine (C12.out _ _ _ _ _ _ _ (by exact ps1) (by exact (sy.below U1))).mono ?_)
                        rintro e_ wq ⟨ra, rl, rc, rfl, rs, bq⟩
                        exact hK.out (.agg #[.bool n12, .slice ra rl rc, .int .i64 ev12]) wq ⟨(U1.trans (bq.mono U1.size)), k0, (fun h => (k1 h).below bq), k2, (fun _ => ⟨ra, rl, rc, rfl, rs⟩), k4, (fun h => (k5 h).below bq), (fun h => (k6 h).below bq), k7, k8, k9, k10, k11, k12, k13, k14, k15, k16, k17, k18, k19, k20, k21, k22, k23, k24, k25, k26⟩
                      · intro L U w' b hF hLi hmet hb ho K hK
                        obtain ⟨U1, k0, k1, k2, k3, k4, k5, k6, k7, k8, k9, k10, k11, k12, k13, k14, k15, k16, k17, k18, k19, k20, k21, k22, k23, k24, k25, k26⟩ := hF
                        have s15 : b.tmps.getD 15 undef = .pointer (some ⟨w2.heap.size, 0, none⟩) := (ho 15 rfl).trans rfl
                        have r15 := getD_r s15
                        have t0_ := (Tr.below U1).cells.1
                        have t1_ := (Tr.below U1).cells.2
                        clear hb ho hmet
                        rw [if_pos (by rfl)]
                        go_simp
                        exact hK.out (.agg #[.bool nr, .slice ar lr cr]) w' ⟨U1, k0, k1, k2, k3, (fun _ => rfl), k5, k6, k7, k8, k9, k10, k11, k12, k13, k14, k15, k16, k17, k18, k19, k20, k21, k22, k23, k24, k25, k26⟩
                      · intro L U w' b hF hLi hmet hb ho K hK
                        obtain ⟨U1, k0, k1, k2, k3, k4, k5, k6, k7, k8, k9, k10, k11, k12, k13, k14, k15, k16, k17, k18, k19, k20, k21, k22, k23, k24, k25, k26⟩ := hF
                        have s187 := (hb 4 187 rfl).trans (k4 (hmet.get rfl))
                        have r187 := getD_r s187
                        clear hb ho hmet
                        rw [if_pos (by rfl)]
                        go_simp
                        go_at_call 65
                        (with_reducible refine (lawValP (by exact (sr.below U1))).mono ?_)
                        rintro e_ wq ⟨ra, rl, rc, rfl, rs, bq⟩
                        exact hK.out (.agg #[.bool nr, .slice ra rl rc, .int .i64 0]) wq ⟨(U1.trans (bq.mono U1.size)), k0, (fun h => (k1 h).below bq), k2, (fun h => (k3 h).below bq), k4, (fun _ => ⟨ra, rl, rc, rfl, rs⟩), (fun h => (k6 h).below bq), k7, k8, k9, k10, k11, k12, k13, k14, k15, k16, k17, k18, k19, k20, k21, k22, k23, k24, k25, k26⟩
                      · intro L U w' b hF hLi hmet hb ho K hK
                        obtain ⟨U1, k0, k1, k2, k3, k4, k5, k6, k7, k8, k9, k10, k11, k12, k13, k14, k15, k16, k17, k18, k19, k20, k21, k22, k23, k24, k25, k26⟩ := hF
                        obtain ⟨pa3, pl3, pc3, pe3, ps3⟩ := k3 (hmet.get rfl)
                        have s186 := (hb 3 186 rfl).trans pe3
                        have r186 := getD_r s186
                        obtain ⟨pa5, pl5, pc5, pe5, ps5⟩ := k5 (hmet.get rfl)
                        have s188 := (hb 5 188 rfl).trans pe5
                        have r188 := getD_r s188
                        clear hb ho hmet
                        rw [if_pos (by rfl)]
                        go_simp
                        go_at_call 67
                        (with_reducible refine (C13.out _ _ _ _ _ _ _ (by exact ps3) (by exact ps5)).mono ?_)
                        rintro e_ wq ⟨ra, rl, rc, rfl, rs, bq⟩
                        exact hK.out (.agg #[.bool n13, .slice ra rl rc, .int .i64 ev13]) wq ⟨(U1.trans (bq.mono U1.size)), k0, (fun h => (k1 h).below bq), k2, (fun h => (k3 h).below bq), k4, (fun h => (k5 h).below bq), (fun _ => ⟨ra, rl, rc, rfl, rs⟩), k7, k8, k9, k10, k11, k12, k13, k14, k15, k16, k17, k18, k19, k20, k21, k22, k23, k24, k25, k26⟩
                      · intro L U w' b hF hLi hmet hb ho K hK
                        obtain ⟨U1, k0, k1, k2, k3, k4, k5, k6, k7, k8, k9, k10, k11, k12, k13, k14, k15, k16, k17, k18, k19, k20, k21, k22, k23, k24, k25, k26⟩ := hF
                        have s7 : b.tmps.getD 7 undef = .pointer (some ⟨hx, 0, none⟩) := (ho 7 rfl).trans rfl
                        have r7 := getD_r s7
                        have t0_ := (Tx.below U1).cells.1
                        have t1_ := (Tx.below U1).cells.2.1
                        have t2_ := (Tx.below U1).cells.2.2
                        clear hb ho hmet
                        rw [if_pos (by rfl)]
                        go_simp
                        exact hK.out (.agg #[.bool na, .slice px qx rx, .int .i64 0]) w' ⟨U1, k0, k1, k2, k3, k4, k5, k6, (fun _ => rfl), k8, k9, k10, k11, k12, k13, k14, k15, k16, k17, k18, k19, k20, k21, k22, k23, k24, k25, k26⟩
                      · intro L U w' b hF hLi hmet hb ho K hK
                        obtain ⟨U1, k0, k1, k2, k3, k4, k5, k6, k7, k8, k9, k10, k11, k12, k13, k14, k15, k16, k17, k18, k19, k20, k21, k22, k23, k24, k25, k26⟩ := hF
                        obtain ⟨pa6, pl6, pc6, pe6, ps6⟩ := k6 (hmet.get rfl)
                        have s189 := (hb 6 189 rfl).trans pe6
                        have r189 := getD_r s189
                        have s190 := (hb 7 190 rfl).trans (k7 (hmet.get rfl))
                        have r190 := getD_r s190
                        clear hb ho hmet
                        rw [if_pos (by rfl)]
                        go_simp
                        go_at_call 66
                        (with_reducible refine (A6.out _ _ _ _ _ _ _ (by exact ps6) (by exact (sx.below U1))).mono ?_)
                        rintro e_ wq ⟨rfl, bq⟩
                        exact hK.out (.bool true) wq ⟨(U1.trans (bq.mono U1.size)), k0, (fun h => (k1 h).below bq), k2, (fun h => (k3 h).below bq), k4, (fun h => (k5 h).below bq), (fun h => (k6 h).below bq), k7, (fun _ => rfl), k9, k10, k11, k12, k13, k14, k15, k16, k17, k18, k19, k20, k21, k22, k23, k24, k25, k26⟩
                      · intro L U w' b hF hLi hmet hb ho K hK
                        obtain ⟨U1, k0, k1, k2, k3, k4, k5, k6, k7, k8, k9, k10, k11, k12, k13, k14, k15, k16, k17, k18, k19, k20, k21, k22, k23, k24, k25, k26⟩ := hF
                        have s191 := (hb 8 191 rfl).trans (k8 (hmet.get rfl))
                        have r191 := getD_r s191
                        clear hb ho hmet
                        rw [if_pos (by rfl)]
                        go_simp
                        exact hK.out (.bool true) w' ⟨U1, k0, k1, k2, k3, k4, k5, k6, k7, k8, (fun _ => rfl), k10, k11, k12, k13, k14, k15, k16, k17, k18, k19, k20, k21, k22, k23, k24, k25, k26⟩
                      · intro L U w' b hF hLi hmet hb ho K hK
                        obtain ⟨U1, k0, k1, k2, k3, k4, k5, k6, k7, k8, k9, k10, k11, k12, k13, k14, k15, k16, k17, k18, k19, k20, k21, k22, k23, k24, k25, k26⟩ := hF
                        have s192 := (hb 9 192 rfl).trans (k9 (hmet.get rfl))
                        have r192 := getD_r s192
                        have s15 : b.tmps.getD 15 undef = .pointer (some ⟨w2.heap.size, 0, none⟩) := (ho 15 rfl).trans rfl
                        have r15 := getD_r s15
                        have t0_ := (Tr.below U1).cells.1
                        have t1_ := (Tr.below U1).cells.2
                        clear hb ho hmet
                        rw [if_pos (wants rfl rfl s192)]
                        go_simp
                        exact hK.out (.agg #[.bool nr, .slice ar lr cr]) w' ⟨U1, k0, k1, k2, k3, k4, k5, k6, k7, k8, k9, (fun _ => rfl), k11, k12, k13, k14, k15, k16, k17, k18, k19, k20, k21, k22, k23, k24, k25, k26⟩
                      · intro L U w' b hF hLi hmet hb ho K hK
                        obtain ⟨U1, k0, k1, k2, k3, k4, k5, k6, k7, k8, k9, k10, k11, k12, k13, k14, k15, k16, k17, k18, k19, k20, k21, k22, k23, k24, k25, k26⟩ := hF
                        have s192 := (hb 9 192 rfl).trans (k9 (hmet.get rfl))
                        have r192 := getD_r s192
                        have s4 : b.tmps.getD 4 undef = .pointer (some ⟨w.heap.size + 1, 0, none⟩) := (ho 4 rfl).trans rfl
                        have r4 := getD_r s4
                        have t0_ := (Tb.below U1).cells.1
                        have t1_ := (Tb.below U1).cells.2
                        clear hb ho hmet
                        rw [if_pos (wants rfl rfl s192)]
                        go_simp
                        exact hK.out (.agg #[.bool nb, .slice ab lb cb]) w' ⟨U1, k0, k1, k2, k3, k4, k5, k6, k7, k8, k9, k10, (fun _ => rfl), k12, k13, k14, k15, k16, k17, k18, k19, k20, k21, k22, k23, k24, k25, k26⟩
                      · intro L U w' b hF hLi hmet hb ho K hK
                        obtain ⟨U1, k0, k1, k2, k3, k4, k5, k6, k7, k8, k9, k10, k11, k12, k13, k14, k15, k16, k17, k18, k19, k20, k21, k22, k23, k24, k25, k26⟩ := hF
                        have s192 := (hb 9 192 rfl).trans (k9 (hmet.get rfl))
                        have r192 := getD_r s192
                        have s193 := (hb 10 193 rfl).trans (k10 (hmet.get rfl))
                        have r193 := getD_r s193
                        have s194 := (hb 11 194 rfl).trans (k11 (hmet.get rfl))
                        have r194 := getD_r s194
                        clear hb ho hmet
                        rw [if_pos (wants rfl rfl s192)]
                        go_simp
                        go_at_call 70
                        (with_reducible refine (Sm.out _ _ _ _ _ _ _ (by exact (sr.below U1)) (by exact (sb.below U1))).mono ?_)
                        rintro e_ wq ⟨rfl, bq⟩
                        exact hK.out (.bool true) wq ⟨(U1.trans (bq.mono U1.size)), k0, (fun h => (k1 h).below bq), k2, (fun h => (k3 h).below bq), k4, (fun h => (k5 h).below bq), (fun h => (k6 h).below bq), k7, k8, k9, k10, k11, (fun _ => rfl), k13, k14, k15, k16, k17, k18, k19, k20, k21, k22, k23, k24, k25, k26⟩
                      · intro L U w' b hF hLi hmet hb ho K hK
                        obtain ⟨U1, k0, k1, k2, k3, k4, k5, k6, k7, k8, k9, k10, k11, k12, k13, k14, k15, k16, k17, k18, k19, k20, k21, k22, k23, k24, k25, k26⟩ := hF
                        have s192 := (hb 9 192 rfl).trans (k9 (hmet.get rfl))
                        have r192 := getD_r s192
                        have s195 := (hb 12 195 rfl).trans (k12 (hmet.get rfl))
                        have r195 := getD_r s195
                        clear hb ho hmet
                        rw [if_pos (by rfl)]
                        go_simp
                        exact hK.out (.bool true) w' ⟨U1, k0, k1, k2, k3, k4, k5, k6, k7, k8, k9, k10, k11, k12, (fun _ => rfl), k14, k15, k16, k17, k18, k19, k20, k21, k22, k23, k24, k25, k26⟩
                      · intro L U w' b hF hLi hmet hb ho K hK
                        obtain ⟨U1, k0, k1, k2, k3, k4, k5, k6, k7, k8, k9, k10, k11, k12, k13, k14, k15, k16, k17, k18, k19, k20, k21, k22, k23, k24, k25, k26⟩ := hF
                        have s196 := (hb 13 196 rfl).trans (k13 (hmet.get rfl))
                        have r196 := getD_r s196
                        clear hb ho hmet
                        rw [if_pos (by rfl)]
                        go_simp
                        exact hK.out (.bool true) w' ⟨U1, k0, k1, k2, k3, k4, k5, k6, k7, k8, k9, k10, k11, k12, k13, (fun _ => rfl), k15, k16, k17, k18, k19, k20, k21, k22, k23, k24, k25, k26⟩
                      · intro L U w' b hF hLi hmet hb ho K hK
                        obtain ⟨U1, k0, k1, k2, k3, k4, k5, k6, k7, k8, k9, k10, k11, k12, k13, k14, k15, k16, k17, k18, k19, k20, k21, k22, k23, k24, k25, k26⟩ := hF
                        have s197 := (hb 14 197 rfl).trans (k14 (hmet.get rfl))
                        have r197 := getD_r s197
                        have s15 : b.tmps.getD 15 undef = .pointer (some ⟨w2.heap.size, 0, none⟩) := (ho 15 rfl).trans rfl
                        have r15 := getD_r s15
                        have t0_ := (Tr.below U1).cells.1
                        have t1_ := (Tr.below U1).cells.2
                        clear hb ho hmet
                        rw [if_pos (wants rfl rfl s197)]
                        go_simp
                        exact hK.out (.agg #[.bool nr, .slice ar lr cr]) w' ⟨U1, k0, k1, k2, k3, k4, k5, k6, k7, k8, k9, k10, k11, k12, k13, k14, (fun _ => rfl), k16, k17, k18, k19, k20, k21, k22, k23, k24, k25, k26⟩
                      · intro L U w' b hF hLi hmet hb ho K hK
                        obtain ⟨U1, k0, k1, k2, k3, k4, k5, k6, k7, k8, k9, k10, k11, k12, k13, k14, k15, k16, k17, k18, k19, k20, k21, k22, k23, k24, k25, k26⟩ := hF
                        have s197 := (hb 14 197 rfl).trans (k14 (hmet.get rfl))
                        have r197 := getD_r s197
                        have s198 := (hb 15 198 rfl).trans (k15 (hmet.get rfl))
                        have r198 := getD_r s198
                        clear hb ho hmet
                        rw [if_pos (wants rfl rfl s197)]
                        go_simp
                        go_at_call 40
                        (with_reducible refine (Sr.out _ _ _ _ (by exact (sr.below U1))).mono ?_)
                        rintro e_ wq ⟨rfl, bq⟩
                        exact hK.out (.int .i64 vr) wq ⟨(U1.trans (bq.mono U1.size)), k0, (fun h => (k1 h).below bq), k2, (fun h => (k3 h).below bq), k4, (fun h => (k5 h).below bq), (fun h => (k6 h).below bq), k7, k8, k9, k10, k11, k12, k13, k14, k15, (fun _ => rfl), k17, k18, k19, k20, k21, k22, k23, k24, k25, k26⟩
                      · intro L U w' b hF hLi hmet hb ho K hK
                        obtain ⟨U1, k0, k1, k2, k3, k4, k5, k6, k7, k8, k9, k10, k11, k12, k13, k14, k15, k16, k17, k18, k19, k20, k21, k22, k23, k24, k25, k26⟩ := hF
                        have s197 := (hb 14 197 rfl).trans (k14 (hmet.get rfl))
                        have r197 := getD_r s197
                        have s199 := (hb 16 199 rfl).trans (k16 (hmet.get rfl))
                        have r199 := getD_r s199
                        clear hb ho hmet
                        rw [if_pos (wants rfl rfl s197)]
                        go_simp
                        exact hK.out (.bool false) w' ⟨U1, k0, k1, k2, k3, k4, k5, k6, k7, k8, k9, k10, k11, k12, k13, k14, k15, k16, (fun _ => rfl), k18, k19, k20, k21, k22, k23, k24, k25, k26⟩
                      · intro L U w' b hF hLi hmet hb ho K hK
                        obtain ⟨U1, k0, k1, k2, k3, k4, k5, k6, k7, k8, k9, k10, k11, k12, k13, k14, k15, k16, k17, k18, k19, k20, k21, k22, k23, k24, k25, k26⟩ := hF
                        have s197 := (hb 14 197 rfl).trans (k14 (hmet.get rfl))
                        have r197 := getD_r s197
                        have s200 := (hb 17 200 rfl).trans (k17 (hmet.get rfl))
                        have r200 := getD_r s200
                        clear hb ho hmet
                        rw [if_pos (wants rfl rfl s197)]
                        go_simp
                        exact hK.out (.bool false) w' ⟨U1, k0, k1, k2, k3, k4, k5, k6, k7, k8, k9, k10, k11, k12, k13, k14, k15, k16, k17, (fun _ => rfl), k19, k20, k21, k22, k23, k24, k25, k26⟩
                      · intro L U w' b hF hLi hmet hb ho K hK
                        obtain ⟨U1, k0, k1, k2, k3, k4, k5, k6, k7, k8, k9, k10, k11, k12, k13, k14, k15, k16, k17, k18, k19, k20, k21, k22, k23, k24, k25, k26⟩ := hF
                        have s201 := (hb 18 201 rfl).trans (k18 (hmet.get rfl))
                        have r201 := getD_r s201
                        have s15 : b.tmps.getD 15 undef = .pointer (some ⟨w2.heap.size, 0, none⟩) := (ho 15 rfl).trans rfl
                        have r15 := getD_r s15
                        clear hb ho hmet
                        rw [if_pos (wants rfl rfl s201)]
                        go_simp
                        exact hK.out (.pointer (some ⟨w2.heap.size, 0, none⟩)) w' ⟨U1, k0, k1, k2, k3, k4, k5, k6, k7, k8, k9, k10, k11, k12, k13, k14, k15, k16, k17, k18, (fun _ => rfl), k20, k21, k22, k23, k24, k25, k26⟩
                      · intro L U w' b hF hLi hmet hb ho K hK
                        obtain ⟨U1, k0, k1, k2, k3, k4, k5, k6, k7, k8, k9, k10, k11, k12, k13, k14, k15, k16, k17, k18, k19, k20, k21, k22, k23, k24, k25, k26⟩ := hF
                        have s201 := (hb 18 201 rfl).trans (k18 (hmet.get rfl))
                        have r201 := getD_r s201
                        have s202 := (hb 19 202 rfl).trans (k19 (hmet.get rfl))
                        have r202 := getD_r s202
                        have t0_ := (Tr.below U1).cells.1
                        have t1_ := (Tr.below U1).cells.2
                        clear hb ho hmet
                        rw [if_pos (wants rfl rfl s201)]
                        go_simp
                        exact hK.out (.bool nr) w' ⟨U1, k0, k1, k2, k3, k4, k5, k6, k7, k8, k9, k10, k11, k12, k13, k14, k15, k16, k17, k18, k19, (fun _ => rfl), k21, k22, k23, k24, k25, k26⟩
                      · intro L U w' b hF hLi hmet hb ho K hK
                        obtain ⟨U1, k0, k1, k2, k3, k4, k5, k6, k7, k8, k9, k10, k11, k12, k13, k14, k15, k16, k17, k18, k19, k20, k21, k22, k23, k24, k25, k26⟩ := hF
                        have s201 := (hb 18 201 rfl).trans (k18 (hmet.get rfl))
                        have r201 := getD_r s201
                        have s4 : b.tmps.getD 4 undef = .pointer (some ⟨w.heap.size + 1, 0, none⟩) := (ho 4 rfl).trans rfl
                        have r4 := getD_r s4
                        clear hb ho hmet
                        rw [if_pos (wants rfl rfl s201)]
                        go_simp
                        exact hK.out (.pointer (some ⟨w.heap.size + 1, 0, none⟩)) w' ⟨U1, k0, k1, k2, k3, k4, k5, k6, k7, k8, k9, k10, k11, k12, k13, k14, k15, k16, k17, k18, k19, k20, (fun _ => rfl), k22, k23, k24, k25, k26⟩
                      · intro L U w' b hF hLi hmet hb ho K hK
                        obtain ⟨U1, k0, k1, k2, k3, k4, k5, k6, k7, k8, k9, k10, k11, k12, k13, k14, k15, k16, k17, k18, k19, k20, k21, k22, k23, k24, k25, k26⟩ := hF
                        have s201 := (hb 18 201 rfl).trans (k18 (hmet.get rfl))
                        have r201 := getD_r s201
                        have s204 := (hb 21 204 rfl).trans (k21 (hmet.get rfl))
                        have r204 := getD_r s204
                        have t0_ := (Tb.below U1).cells.1
                        have t1_ := (Tb.below U1).cells.2
                        clear hb ho hmet
                        rw [if_pos (wants rfl rfl s201)]
                        go_simp
                        exact hK.out (.bool nb) w' ⟨U1, k0, k1, k2, k3, k4, k5, k6, k7, k8, k9, k10, k11, k12, k13, k14, k15, k16, k17, k18, k19, k20, k21, (fun _ => rfl), k23, k24, k25, k26⟩
                      · intro L U w' b hF hLi hmet hb ho K hK
                        obtain ⟨U1, k0, k1, k2, k3, k4, k5, k6, k7, k8, k9, k10, k11, k12, k13, k14, k15, k16, k17, k18, k19, k20, k21, k22, k23, k24, k25, k26⟩ := hF
                        have s201 := (hb 18 201 rfl).trans (k18 (hmet.get rfl))
                        have r201 := getD_r s201
                        have s203 := (hb 20 203 rfl).trans (k20 (hmet.get rfl))
                        have r203 := getD_r s203
                        have s205 := (hb 22 205 rfl).trans (k22 (hmet.get rfl))
                        have r205 := getD_r s205
                        clear hb ho hmet
                        rw [if_pos (wants rfl rfl s201)]
                        go_simp
                        exact hK.out (.bool true) w' ⟨U1, k0, k1, k2, k3, k4, k5, k6, k7, k8, k9, k10, k11, k12, k13, k14, k15, k16, k17, k18, k19, k20, k21, k22, (fun _ => rfl), k24, k25, k26⟩
                      · intro L U w' b hF hLi hmet hb ho K hK
                        obtain ⟨U1, k0, k1, k2, k3, k4, k5, k6, k7, k8, k9, k10, k11, k12, k13, k14, k15, k16, k17, k18, k19, k20, k21, k22, k23, k24, k25, k26⟩ := hF
                        have s197 := (hb 14 197 rfl).trans (k14 (hmet.get rfl))
                        have r197 := getD_r s197
                        have s201 := (hb 18 201 rfl).trans (k18 (hmet.get rfl))
                        have r201 := getD_r s201
                        have s206 := (hb 23 206 rfl).trans (k23 (hmet.get rfl))
                        have r206 := getD_r s206
                        clear hb ho hmet
                        rw [if_pos (wants rfl rfl s197)]
                        go_simp
                        exact hK.out (.bool true) w' ⟨U1, k0, k1, k2, k3, k4, k5, k6, k7, k8, k9, k10, k11, k12, k13, k14, k15, k16, k17, k18, k19, k20, k21, k22, k23, (fun _ => rfl), k25, k26⟩
                      · intro L U w' b hF hLi hmet hb ho K hK
                        obtain ⟨U1, k0, k1, k2, k3, k4, k5, k6, k7, k8, k9, k10, k11, k12, k13, k14, k15, k16, k17, k18, k19, k20, k21, k22, k23, k24, k25, k26⟩ := hF
                        have s197 := (hb 14 197 rfl).trans (k14 (hmet.get rfl))
                        have r197 := getD_r s197
                        have s207 := (hb 24 207 rfl).trans (k24 (hmet.get rfl))
                        have r207 := getD_r s207
                        clear hb ho hmet
                        rw [if_pos (by rfl)]
                        go_simp
                        exact hK.out (.bool true) w' ⟨U1, k0, k1, k2, k3, k4, k5, k6, k7, k8, k9, k10, k11, k12, k13, k14, k15, k16, k17, k18, k19, k20, k21, k22, k23, k24, (fun _ => rfl), k26⟩
                      · intro L U w' b hF hLi hmet hb ho K hK
                        obtain ⟨U1, k0, k1, k2, k3, k4, k5, k6, k7, k8, k9, k10, k11, k12, k13, k14, k15, k16, k17, k18, k19, k20, k21, k22, k23, k24, k25, k26⟩ := hF
                        have s208 := (hb 25 208 rfl).trans (k25 (hmet.get rfl))
                        have r208 := getD_r s208
                        clear hb ho hmet
                        rw [if_pos (by rfl)]
                        go_simp
                        exact hK.out (.bool true) w' ⟨U1, k0, k1, k2, k3, k4, k5, k6, k7, k8, k9, k10, k11, k12, k13, k14, k15, k16, k17, k18, k19, k20, k21, k22, k23, k24, k25, (fun _ => rfl)⟩
                    case fin =>
                      intro L U wx hF hall
                      obtain ⟨U1, k0, k1, k2, k3, k4, k5, k6, k7, k8, k9, k10, k11, k12, k13, k14, k15, k16, k17, k18, k19, k20, k21, k22, k23, k24, k25, k26⟩ := hF
                      have kl := k26 (hall 26 (by decide))
                      clear k0 k1 k2 k3 k4 k5 k6 k7 k8 k9 k10 k11 k12 k13 k14 k15 k16 k17 k18 k19 k20 k21 k22 k23 k24 k25 k26 hall
                      simp only [fillA, Act.put, List.setIfInBounds_toArray, List.set_cons_zero, List.set_cons_succ]
                      go_wp2_with fail; go_meet
                      exact ⟨kl, U0.trans (U1.mono U0.size)⟩
                case rest =>
                  obtain ⟨rfl, U0⟩ := hcut
                  go_wp2; go_ret; exact ⟨rfl, U0⟩

theorem numRing_any (na : Bool) (aa : Option Addr) (la ca : Nat) (xa : List Int) (nb : Bool) (ab : Option Addr) (lb cb : Nat) (xb : List Int) (nc : Bool) (ac : Option Addr) (lc cc : Nat) (xc : List Int) (w : World) (ht : Tab w) (sa : Sl w aa la ca xa) (sb : Sl w ab lb cb xb) (sc : Sl w ac lc cc xc) : Calls Tryz.prog 7 #[.agg #[.bool na, .slice aa la ca], .agg #[.bool nb, .slice ab lb cb], .agg #[.bool nc, .slice ac lc cc]] w (RetBool true w) := by
  cases hr : (!(wrong ⟨na, aa, la, ca, xa⟩ || (wrong ⟨nb, ab, lb, cb, xb⟩ || wrong ⟨nc, ac, lc, cc, xc⟩)))
  · exact ring_wrong na aa la ca xa nb ab lb cb xb nc ac lc cc xc w ht sa sb sc hr
  · have h := hr
    simp only [Bool.not_eq_true', Bool.or_eq_false_iff] at h
    obtain ⟨a, Na⟩ := wrong_no sa h.1
    obtain ⟨b, Nb⟩ := wrong_no sb h.2.1
    obtain ⟨c, Nc⟩ := wrong_no sc h.2.2
    exact ring_right na aa la ca xa nb ab lb cb xb nc ac lc cc xc w ht sa sb sc a Na b Nb c Nc hr
end Go.Proofs.YtcmocjfnmfiieaaGreatDoor

/- NumRing: for every input the law answers true, and each argument reads afterwards as it read before. Condition: the table of the powers of ten lies as the program's text lays it (tied by the card). -/
namespace Go.Proofs.YtcmocjfnmfiieaaGreatDoor.lawNumRing
open Go.ChangeShapes Go.WideShapes Go.ChangeAt Go.RowKit

theorem door_met (os : Os) (args : Array Value) : laidMetH Tryz.prog Rows.numRingRow.laid ((World.doorLaid Tryz.prog 24 os).forCall (fun _ _ => 0) ⟨#[], args, []⟩).memory :=
  laidMetH_of_parts3 (fuel := 8) (laidMet_of_run' 8 (by kernel_rfl) (by kernel_rfl)) (by kernel_rfl) (by kernel_rfl)

set_option maxRecDepth 100000 in
theorem lifted (os : Os) (started : os.Started) (H : Type) (enc : TypeId × Value → H) :
    ReturnsInHanded {} Tryz.checked os 7 .any (fun w args => (Rows.numRingSpec.pre enc Tryz.prog Tryz.f7 [] false w args ∧ laidMetH Tryz.prog Rows.numRingRow.laid w) ∧ sizedMet enc Tryz.prog Tryz.f7 (OpenSpec.ofChange Rows.numRingSpec) false w args)
      (Rows.numRingSpec.post enc Tryz.prog Tryz.f7 false true false false) := by
  refine returnsInHanded_of_change_and (C := Tryz.checked) (X := fun w _ => laidMetH Tryz.prog Rows.numRingRow.laid w) (fun _ _ _ hh h => h.of_heap hh) lift_own started (by kernel_rfl) Tryz.func7
    (ChangeSpec.witness_shaped (enc := enc) (C := Tryz.checked) (os := os) (X := fun w _ => laidMetH Tryz.prog Rows.numRingRow.laid w) false (World.doorLaid Tryz.prog 24 os) #[.agg #[.bool false, .slice none 0 0], .agg #[.bool false, .slice none 0 0], .agg #[.bool false, .slice none 0 0]] 8 rfl (World.shaped_of_RefB (by kernel_rfl) (by kernel_rfl)) (by kernel_rfl) (by kernel_rfl) (by kernel_rfl) (door_met os _)) ?_
  intro W base args ds gs before hval0 hW _ _ hL _
  have hval : ∀ (j : Nat) t v, Tryz.f7.params[j]? = some t → args[j]? = some v → Value.okWide Tryz.prog W .any base t v := hval0
  have hW' := hW
  obtain ⟨p, q, hA0, hV, rfl, hfz, hnd⟩ := hW
  have hA : DataW.TrodAll enc Tryz.prog W 0 (fun _ => true) true Tryz.f7.params.toList args.toList ds p := hA0
  rw [Tryz.params7] at hA hval
  clear hA0 hval0
  obtain ⟨v0, vs0, d0, ds0, p0, q0, hargs, rfl, rfl, h0, r0⟩ := trodAll_cons hA
  obtain ⟨v1, vs1, d1, ds1, p1, q1, rfl, rfl, rfl, h1, r1⟩ := trodAll_cons r0
  obtain ⟨v2, vs2, d2, ds2, p2, q2, rfl, rfl, rfl, h2, r2⟩ := trodAll_cons r1
  obtain ⟨rfl, rfl, rfl⟩ := trodAll_nil r2
  obtain rfl : args = #[v0, v1, v2] := by cases args; simp_all
  obtain ⟨rfl, rfl⟩ := trodVars_none hV
  obtain ⟨n0, ao0, len0, cap0, xs0, rfl, s0⟩ := open_I (hval 0 24 v0 rfl rfl) h0
  obtain ⟨n1, ao1, len1, cap1, xs1, rfl, s1⟩ := open_I (hval 1 24 v1 rfl rfl) h1
  obtain ⟨n2, ao2, len2, cap2, xs2, rfl, s2⟩ := open_I (hval 2 24 v2 rfl rfl) h2
  simp only [List.append_nil] at hW'
  refine (numRing_any n0 ao0 len0 cap0 xs0 n1 ao1 len1 cap1 xs1 n2 ao2 len2 cap2 xs2 W (lift_tab hL) s0 s1 s2).mono fun e W' ⟨he, hg⟩ => ?_
  subst he
  have hlt : ∀ x ∈ p0 ++ (p1 ++ (p2)), x.block < W.heap.size := fun x hx => hW'.lt x hx
  have in0 : ∀ x ∈ p0, x ∈ p0 ++ (p1 ++ (p2)) := fun x hx => by simp [hx]
  have in1 : ∀ x ∈ p1, x ∈ p0 ++ (p1 ++ (p2)) := fun x hx => by simp [hx]
  have in2 : ∀ x ∈ p2, x ∈ p0 ++ (p1 ++ (p2)) := fun x hx => by simp [hx]
  exact ⟨_, rfl, post_of_below (pv := []) hW' (fun _ _ _ => (trodAll_cons_mk (shut_bool Tryz.underlying4 _) trodAll_mk0)) (fun sp hsp => (trodAll_cons_mk (again_I h0 hg (fun x hx => hlt x (in0 x hx)) (fun x hx => hsp x (in0 x hx))) (trodAll_cons_mk (again_I h1 hg (fun x hx => hlt x (in1 x hx)) (fun x hx => hsp x (in1 x hx))) (trodAll_cons_mk (again_I h2 hg (fun x hx => hlt x (in2 x hx)) (fun x hx => hsp x (in2 x hx))) trodAll_mk0)))) (fun _ _ => rfl) (by simp)
    hg (ok_one (by kernel_rfl) rfl (okWide_bool_mk Tryz.underlying4 _))⟩

theorem over : Rows.numRingRow.holds Tryz.pinned (OpenSpec.ofChange Rows.numRingSpec) :=
  OpenClaim.holds_of_wide 7 Tryz.f7 rfl rfl rfl rfl rfl rfl rfl ⟨rfl, rfl, rfl, rfl, rfl⟩ rfl rfl rfl rfl rfl (by kernel_rfl) Tryz.func7 (by kernel_rfl)
    (of_decide_eq_true (by kernel_rfl)) (by unfold Func.isWrapper; first | (rw [if_pos (by decide +kernel)]; kernel_rfl) | (rw [if_neg (by decide +kernel)]; exact ⟨rfl, rfl⟩))
    (fun os started H enc _ => lifted os started H enc)

theorem plain (f : FuncId) (fn : Func) (hf : Tryz.pinned.checked.prog.funcNamed "foregone/foregonelaw01.NumRing" = some f) (hfn : Tryz.pinned.checked.prog.funcs[f]? = some fn) :
    false = Tryz.pinned.checked.prog.looks [] ∧ ∀ (j : Nat) t, fn.params[j]? = some t → Tryz.pinned.checked.prog.wantsStandIn t = false := by
  obtain rfl : f = 7 := Option.some.inj ((show Tryz.prog.funcNamed "foregone/foregonelaw01.NumRing" = some 7 by kernel_rfl).symm.trans hf) |>.symm
  obtain rfl : fn = Tryz.f7 := (Option.some.inj (Tryz.func7.symm.trans hfn)).symm
  refine ⟨by kernel_rfl, fun j t ht => ?_⟩
  rw [Tryz.params7] at ht
  have hm : t ∈ [24] := by simpa using Array.mem_of_getElem? ht
  have hall : ([24].all fun u => !Tryz.prog.wantsStandIn u) = true := by kernel_rfl
  exact (show Tryz.prog.wantsStandIn t = false by simpa using List.all_eq_true.1 hall t hm)

theorem card : Rows.NumRingCardSaid :=
  Claim7.holds_tied_plain_at .later [] _ _ _ _ over (fun _ h => by cases h) (by kernel_rfl) (fun _ h => by cases h) numRing_row_tie rfl ⟨rfl, rfl⟩ (by kernel_rfl) rfl plain (by kernel_rfl)
end Go.Proofs.YtcmocjfnmfiieaaGreatDoor.lawNumRing

/- NumPowers: for every input the law answers true, and each argument reads afterwards as it read before. Condition: the table of the powers of ten lies as the program's text lays it (tied by the card). -/
import Derived.Deep.DeepCutAuto
import Derived.Test.YtkcjjdiklodofaaGreatDoorK8
set_option linter.all false

/- The closure of NumPowers; right at four data. -/
namespace Go.Proofs.YtkcjjdiklodofaaGreatDoor
open Go.RowKit

def powerR (p q : Int × Int) : Int × Int := if p.2 = 0 ∧ q.2 = 0 then fitR (p.1 ^ q.1.natAbs) else (0, 2)

set_option maxHeartbeats 1000000 in
theorem lawPower_ok (n1 : Bool) (ax : Option Addr) (la ca : Nat) (xs : List Int) (n2 : Bool) (ay : Option Addr) (lb cb : Nat) (ys : List Int) (n3 : Bool) (zs : List Int) (e3 : Int) (hzl : zs.getLast? ≠ some 0) (w : World) (hx : Sl w ax la ca xs) (hy : Sl w ay lb cb ys)
    (hc : ∀ w, Sl w ax la ca xs → Sl w ay lb cb ys → Calls Tryz.prog 54 #[.agg #[.bool n1, .slice ax la ca], .agg #[.bool n2, .slice ay lb cb]] w (RetPE n3 zs e3 w)) :
    Calls Tryz.prog 71 #[.agg #[.bool n1, .slice ax la ca, .int .i64 0], .agg #[.bool n2, .slice ay lb cb, .int .i64 0]] w (RetQ n3 zs e3 w) := by
  have Hc := Lib.hid hc
  have Hzl := Lib.hid hzl
  clear hc hzl
  go_enter Tryz.func71, Tryz.ntmps71
  go_wp2_with fail
  (with_reducible refine (Hc.out _ (by exact ((hx.alloc _).alloc _).alloc _) (by exact ((hy.alloc _).alloc _).alloc _)).mono ?_)
  rintro e w1 ⟨a1, l1, c1, rfl, s1, b1⟩
  obtain ⟨_, _, hC, hz, hbb⟩ := kept3 _ _ _ _ b1
  clear b1
  go_wp2_with fail
  (with_reducible refine (got_any _ _ _ _ _ _).mono ?_)
  rintro e w2 ⟨rfl, b2⟩
  have hC2 : Box3 w2 (w.heap.size + 1 + 1) false none 0 0 0 := (b2.block _ (Array.getElem?_eq_some_iff.1 hC).1).trans hC
  obtain ⟨f0, f1, f2⟩ := hC2.cells
  obtain ⟨g0, g1, g2⟩ := hC2.froz
  have hsz := hC2.lt
  have s2 := s1.below b2
  have hb2 := hbb.trans (b2.mono hbb.size)
  have HC := Lib.hid hC2
  clear hC hC2 b2 hbb s1
  go_wp2
  refine bodyPost_ret (v := .agg #[.bool n3, .slice a1 l1 c1, .int .i64 e3]) (by simp [results, Tryz.results71, go_sem, f0, f1, f2]) rfl ?_
  refine ⟨a1, l1, c1, rfl, ?_, ((hb2.setCell (by simp; omega) _).setCell (by simp; omega) _).setCell (by simp; omega) _⟩
  exact s2.pair Hzl.out HC.out _ _ _ _ _

set_option maxHeartbeats 1000000 in
theorem lawPower_bad (n1 : Bool) (ax : Option Addr) (la ca : Nat) (e1 : Int) (n2 : Bool) (ay : Option Addr) (lb cb : Nat) (e2 : Int) (w : World) (h : ¬ (e1 = 0 ∧ e2 = 0)) :
    Calls Tryz.prog 71 #[.agg #[.bool n1, .slice ax la ca, .int .i64 e1], .agg #[.bool n2, .slice ay lb cb, .int .i64 e2]] w (RetQ false [] 2 w) := by
  have hb : ∀ o p q : Obj, Below w.heap.size w (((w.alloc o).alloc p).alloc q) := fun o p q => below3 w o p q
  by_cases h1 : e1 = 0
  · have h2 : e2 ≠ 0 := fun h' => h ⟨h1, h'⟩
    subst h1
    have hq : (e2 != 0) = true := by simpa using h2
    clear h h2
    go_enter Tryz.func71, Tryz.ntmps71
    go_wp2
    refine bodyPost_ret (v := .agg #[.bool false, .slice none 0 0, .int .i64 2]) (by simp [results, Tryz.results71, go_sem]) rfl ?_
    exact ⟨_, _, _, rfl, Sl.nil _, hb _ _ _⟩
  · have hq : (e1 != 0) = true := by simpa using h1
    clear h h1
    go_enter Tryz.func71, Tryz.ntmps71
    go_wp2
    refine bodyPost_ret (v := .agg #[.bool false, .slice none 0 0, .int .i64 2]) (by simp [results, Tryz.results71, go_sem]) rfl ?_
    exact ⟨_, _, _, rfl, Sl.nil _, hb _ _ _⟩

theorem lawPower_any {x y z e1 e2 e3 : Int} {n1 n2 n3 : Bool} {xs ys zs : List Int} (hx : Num x n1 xs) (hy : Num y n2 ys) (hz : Num z n3 zs) (hy0 : e2 = 0 → 0 ≤ y) (he : powerR (x, e1) (y, e2) = (z, e3)) (ax : Option Addr) (la ca : Nat) (ay : Option Addr) (lb cb : Nat) (w : World) (sx : Sl w ax la ca xs) (sy : Sl w ay lb cb ys) :
    Calls Tryz.prog 71 #[.agg #[.bool n1, .slice ax la ca, .int .i64 e1], .agg #[.bool n2, .slice ay lb cb, .int .i64 e2]] w (RetQ n3 zs e3 w) := by
  obtain ⟨h1, rfl, rfl⟩ := hx
  obtain ⟨h2, rfl, rfl⟩ := hy
  obtain ⟨_, rfl, rfl⟩ := hz
  unfold powerR at he
  by_cases h : e1 = 0 ∧ e2 = 0
  · rw [if_pos h] at he
    obtain ⟨rfl, rfl⟩ := h
    refine lawPower_ok _ ax la ca _ _ ay lb cb _ _ _ _ (parts_last _) w sx sy fun w sx sy => ((Pow_ok x y h1 h2 (hy0 rfl) ax la ca ay lb cb w sx sy).mono fun _ _ h => ?_)
    have := h.fit
    rw [he] at this
    exact this
  · rw [if_neg h] at he
    cases he
    have := lawPower_bad (decide (x < 0)) ax la ca e1 (decide (y < 0)) ay lb cb e2 w h
    rw [show decide ((0 : Int) < 0) = false from rfl, show (0 : Int).natAbs = 0 from rfl, parts_zero]
    exact this

theorem right4 (n1 : Bool) (a1 : Option Addr) (l1 c1 : Nat) (x1 : List Int) (n2 : Bool) (a2 : Option Addr) (l2 c2 : Nat) (x2 : List Int) (n3 : Bool) (a3 : Option Addr) (l3 c3 : Nat) (x3 : List Int) (n4 : Bool) (a4 : Option Addr) (l4 c4 : Nat) (x4 : List Int) (w : World) (g : Nat) (hg : w.heap[g]? = some (.cells #[.bool n1, .slice a1 l1 c1, .bool n2, .slice a2 l2 c2, .bool n3, .slice a3 l3 c3, .bool n4, .slice a4 l4 c4] 24 (0, 0)))
    (h1 : Sl w a1 l1 c1 x1) (h2 : Sl w a2 l2 c2 x2) (h3 : Sl w a3 l3 c3 x3) (h4 : Sl w a4 l4 c4 x4) (r : Bool) (hr : (!(wrong ⟨n1, a1, l1, c1, x1⟩ || (wrong ⟨n2, a2, l2, c2, x2⟩ || (wrong ⟨n3, a3, l3, c3, x3⟩ || wrong ⟨n4, a4, l4, c4, x4⟩)))) = r) :
    Calls Tryz.prog 64 #[.slice (some ⟨g, 0, none⟩) 4 4] w (RetBool r w) := by
  have := right_any g [⟨n1, a1, l1, c1, x1⟩, ⟨n2, a2, l2, c2, x2⟩, ⟨n3, a3, l3, c3, x3⟩, ⟨n4, a4, l4, c4, x4⟩] w hg (by
    intro d hd
    simp only [List.mem_cons, List.not_mem_nil, or_false] at hd
    rcases hd with rfl | rfl | rfl | rfl
    · exact h1
    · exact h2
    · exact h3
    · exact h4) (by simp)
  rw [show List.any [(⟨n1, a1, l1, c1, x1⟩ : Dat), ⟨n2, a2, l2, c2, x2⟩, ⟨n3, a3, l3, c3, x3⟩, ⟨n4, a4, l4, c4, x4⟩] wrong = (wrong ⟨n1, a1, l1, c1, x1⟩ || (wrong ⟨n2, a2, l2, c2, x2⟩ || (wrong ⟨n3, a3, l3, c3, x3⟩ || wrong ⟨n4, a4, l4, c4, x4⟩))) by simp, hr] at this
  exact this

/-! What results mean, where there are any. -/
theorem fitR_zero {z v : Int} (h : fitR z = (v, 0)) : v = z := by
  by_cases hl : Lim z
  · rw [fitR_ok hl] at h; cases h; rfl
  · rw [fitR_no hl] at h; cases h
theorem sumR_lim (p q : Int × Int) : Lim (sumR p q).1 := by
  unfold sumR; split
  · exact fitR_lim _
  · exact Lim.zero
theorem timesR_lim (p q : Int × Int) : Lim (timesR p q).1 := by
  unfold timesR; split
  · exact fitR_lim _
  · exact Lim.zero
theorem powerR_lim (p q : Int × Int) : Lim (powerR p q).1 := by
  unfold powerR; split
  · exact fitR_lim _
  · exact Lim.zero
theorem sumR_zero {x e1 y e2 v : Int} (h : sumR (x, e1) (y, e2) = (v, 0)) : e1 = 0 ∧ e2 = 0 ∧ v = x + y := by
  unfold sumR at h; split at h
  · rename_i hh; exact ⟨hh.1, hh.2, fitR_zero h⟩
  · cases h
theorem timesR_zero {x e1 y e2 v : Int} (h : timesR (x, e1) (y, e2) = (v, 0)) : e1 = 0 ∧ e2 = 0 ∧ v = x * y := by
  unfold timesR at h; split at h
  · rename_i hh; exact ⟨hh.1, hh.2, fitR_zero h⟩
  · cases h
theorem powerR_zero {x e1 y e2 v : Int} (h : powerR (x, e1) (y, e2) = (v, 0)) : e1 = 0 ∧ e2 = 0 ∧ v = x ^ y.natAbs := by
  unfold powerR at h; split at h
  · rename_i hh; exact ⟨hh.1, hh.2, fitR_zero h⟩
  · cases h
end Go.Proofs.YtkcjjdiklodofaaGreatDoor

/- A pair's box that a drawn region makes: what a store into it leaves as it was. -/
namespace Go.Proofs.YtkcjjdiklodofaaGreatDoor
open Go.RowKit

/-- Block g holds the zero pair: just made. -/
def Zr (w : World) (g : Nat) : Prop := w.heap[g]? = some (.cells #[.bool false, .slice none 0 0, .int .i64 0] 38 (0, 0))
theorem Zr.cells {w : World} {g : Nat} (h : Zr w g) : w.cell? ⟨g, 0, none⟩ = some (.bool false) ∧ w.cell? ⟨g, 1, none⟩ = some (.slice none 0 0) ∧ w.cell? ⟨g, 2, none⟩ = some (.int .i64 0) := Box3.cells h
theorem Zr.froz {w : World} {g : Nat} (h : Zr w g) : w.frozen? ⟨g, 0, none⟩ = false ∧ w.frozen? ⟨g, 1, none⟩ = false ∧ w.frozen? ⟨g, 2, none⟩ = false := Box3.froz h
theorem Zr.below {w w' : World} {g : Nat} (h : Zr w g) (hb : Below w.heap.size w w') : Zr w' g := Box3.below h hb
theorem Zr.alloc {w : World} {g : Nat} (h : Zr w g) (o : Obj) : Zr (w.alloc o) g := h.below ((Below.refl _ _).alloc (Nat.le_refl _) o)
theorem Zr.new {w w' : World} (hb : Below (w.alloc (.cells #[.bool false, .slice none 0 0, .int .i64 0] 38)).heap.size (w.alloc (.cells #[.bool false, .slice none 0 0, .int .i64 0] 38)) w') : Zr w' w.heap.size := (kept1 _ _ hb).1
theorem Zr.newD {w w' : World} (hb : Below (w.alloc (.cells #[.bool false, .slice none 0 0, .int .i64 0] 38)).drew.heap.size (w.alloc (.cells #[.bool false, .slice none 0 0, .int .i64 0] 38)).drew w') : Zr w' w.heap.size := (kept1 _ _ (Below.undrew hb)).1
theorem BoxI.ne {w : World} {a g : Nat} {n : Bool} {ao : Option Addr} {l c : Nat} (h : BoxI w a n ao l c) (z : Zr w g) : a ≠ g := by
  rintro rfl
  have e := h.symm.trans z
  injection e with e
  injection e with e
  have := congrArg Array.size e
  simp at this
theorem heap_set3 {w : World} {a g : Nat} (h : a ≠ g) (u v x : Value) : (((w.setCell ⟨g, 0, none⟩ u).setCell ⟨g, 1, none⟩ v).setCell ⟨g, 2, none⟩ x).heap[a]? = w.heap[a]? := by
  rw [Below.heap_setCell _ _ _ _ h, Below.heap_setCell _ _ _ _ h, Below.heap_setCell _ _ _ _ h]
theorem BoxI.set3 {w : World} {a g : Nat} {n : Bool} {ao : Option Addr} {l c : Nat} (h : BoxI w a n ao l c) (z : Zr w g) (u v x : Value) : BoxI (((w.setCell ⟨g, 0, none⟩ u).setCell ⟨g, 1, none⟩ v).setCell ⟨g, 2, none⟩ x) a n ao l c :=
  (heap_set3 (h.ne z) u v x).trans h
theorem Below.set3 {B : Nat} {a w : World} (h : Below B a w) {g : Nat} (hg : B ≤ g) (u v x : Value) : Below B a (((w.setCell ⟨g, 0, none⟩ u).setCell ⟨g, 1, none⟩ v).setCell ⟨g, 2, none⟩ x) :=
  ((h.setCell hg u).setCell hg v).setCell hg x
/-- The law's same at a pair and itself. -/
theorem pairSelfQ {z : Int} {n : Bool} {xs : List Int} (hz : Num z n xs) (er : Int) (ax : Option Addr) (la ca : Nat) (ay : Option Addr) (lb cb : Nat) (w : World) (hx : Sl w ax la ca xs) (hy : Sl w ay lb cb xs) :
    Calls Tryz.prog 27 #[.agg #[.bool n, .slice ax la ca, .int .i64 er], .agg #[.bool n, .slice ay lb cb, .int .i64 er]] w (RetBool true w) := by
  obtain ⟨_, rfl, rfl⟩ := hz
  have h := lawSame_any (decide (z < 0)) ax la ca (parts z.natAbs) er (decide (z < 0)) ay lb cb (parts z.natAbs) er w hx hy
  rwa [sameI_num, show (decide (er = er) && decide (z = z)) = true by simp] at h
theorem Num.last {z : Int} {n : Bool} {xs : List Int} (h : Num z n xs) : xs.getLast? ≠ some 0 := by
  rw [h.2.2]; exact parts_last _
end Go.Proofs.YtkcjjdiklodofaaGreatDoor

/- The walk of NumPowers. -/
namespace Go.Proofs.YtkcjjdiklodofaaGreatDoor
open Go.RowKit

/-- What the drawn region leaves: the first power in a box of its own, all else as it was. -/
def PowCut (w0 : World) (ga gd gb gc : Nat) (na : Bool) (aa : Option Addr) (la ca : Nat) (xa : List Int) (nd : Bool) (ad : Option Addr) (ld cd : Nat) (xd : List Int) (nb : Bool) (ab : Option Addr) (lb cb : Nat) (xb : List Int) (nc : Bool) (ac : Option Addr) (lc cc : Nat) (xc : List Int) (nw : Bool) (xw : List Int) (ew : Int) (s : Value) (wx : World) : Prop :=
  ∃ g aw lw cw, s = .pointer (some ⟨g, 0, none⟩) ∧ Box3 wx g nw aw lw cw ew ∧ Sl wx aw lw cw xw ∧ BoxI wx ga na aa la ca ∧ Sl wx aa la ca xa ∧ BoxI wx gd nd ad ld cd ∧ Sl wx ad ld cd xd ∧ BoxI wx gb nb ab lb cb ∧ Sl wx ab lb cb xb ∧ BoxI wx gc nc ac lc cc ∧ Sl wx ac lc cc xc ∧ Below w0.heap.size w0 wx

set_option maxRecDepth 100000 in
set_option maxHeartbeats 16000000 in
theorem powers_wrong (na : Bool) (aa : Option Addr) (la ca : Nat) (xa : List Int) (nd : Bool) (ad : Option Addr) (ld cd : Nat) (xd : List Int) (nb : Bool) (ab : Option Addr) (lb cb : Nat) (xb : List Int) (nc : Bool) (ac : Option Addr) (lc cc : Nat) (xc : List Int) (w : World) (ht : Tab w) (sa : Sl w aa la ca xa) (sd : Sl w ad ld cd xd) (sb : Sl w ab lb cb xb) (sc : Sl w ac lc cc xc) (hr : (!(wrong ⟨na, aa, la, ca, xa⟩ || (wrong ⟨nb, ab, lb, cb, xb⟩ || (wrong ⟨nc, ac, lc, cc, xc⟩ || wrong ⟨nd, ad, ld, cd, xd⟩)))) = false) : Calls Tryz.prog 10 #[.agg #[.bool na, .slice aa la ca], .agg #[.bool nd, .slice ad ld cd], .agg #[.bool nb, .slice ab lb cb], .agg #[.bool nc, .slice ac lc cc]] w (RetBool true w) := by
  have Hr := Lib.hid (fun w g hg h1 h2 h3 h4 => right4 na aa la ca xa nb ab lb cb xb nc ac lc cc xc nd ad ld cd xd w g hg h1 h2 h3 h4 false hr)
  clear hr
  go_enter Tryz.func10, Tryz.ntmps10
  have U0 := Below.refl w.heap.size w
  go_wp2_with fail
  replace U0 := U0.alloc U0.size (.cells #[.bool na, .slice aa la ca] 24)
  replace ht := ht.alloc (.cells #[.bool na, .slice aa la ca] 24)
  replace sa := sa.alloc (.cells #[.bool na, .slice aa la ca] 24)
  replace sd := sd.alloc (.cells #[.bool na, .slice aa la ca] 24)
  replace sb := sb.alloc (.cells #[.bool na, .slice aa la ca] 24)
  replace sc := sc.alloc (.cells #[.bool na, .slice aa la ca] 24)
  have Ta := BoxI.new w (w.heap.size) (by first | rfl | simp) na aa la ca
  have cTa0 := Ta.cells.1
  have cTa1 := Ta.cells.2
  have zTa := Ta.lt
  replace U0 := U0.alloc U0.size (.cells #[.bool nd, .slice ad ld cd] 24)
  replace ht := ht.alloc (.cells #[.bool nd, .slice ad ld cd] 24)
  replace sa := sa.alloc (.cells #[.bool nd, .slice ad ld cd] 24)
  replace sd := sd.alloc (.cells #[.bool nd, .slice ad ld cd] 24)
  replace sb := sb.alloc (.cells #[.bool nd, .slice ad ld cd] 24)
  replace sc := sc.alloc (.cells #[.bool nd, .slice ad ld cd] 24)
  replace Ta := Ta.alloc (.cells #[.bool nd, .slice ad ld cd] 24)
  replace cTa0 := Ta.cells.1
  replace cTa1 := Ta.cells.2
  replace zTa := Ta.lt
  have Td := BoxI.new (w.alloc (.cells #[.bool na, .slice aa la ca] 24)) (w.heap.size + 1) (by first | rfl | simp) nd ad ld cd
  have cTd0 := Td.cells.1
  have cTd1 := Td.cells.2
  have zTd := Td.lt
  replace U0 := U0.alloc U0.size (.cells #[.bool nb, .slice ab lb cb] 24)
  replace ht := ht.alloc (.cells #[.bool nb, .slice ab lb cb] 24)
  replace sa := sa.alloc (.cells #[.bool nb, .slice ab lb cb] 24)
  replace sd := sd.alloc (.cells #[.bool nb, .slice ab lb cb] 24)
  replace sb := sb.alloc (.cells #[.bool nb, .slice ab lb cb] 24)
  replace sc := sc.alloc (.cells #[.bool nb, .slice ab lb cb] 24)
  replace Ta := Ta.alloc (.cells #[.bool nb, .slice ab lb cb] 24)
  replace Td := Td.alloc (.cells #[.bool nb, .slice ab lb cb] 24)
  replace cTa0 := Ta.cells.1
  replace cTa1 := Ta.cells.2
  replace zTa := Ta.lt
  replace cTd0 := Td.cells.1
  replace cTd1 := Td.cells.2
  replace zTd := Td.lt
  have Tb := BoxI.new ((w.alloc (.cells #[.bool na, .slice aa la ca] 24)).alloc (.cells #[.bool nd, .slice ad ld cd] 24)) (w.heap.size + 1 + 1) (by first | rfl | simp) nb ab lb cb
  have cTb0 := Tb.cells.1
  have cTb1 := Tb.cells.2
  have zTb := Tb.lt
  replace U0 := U0.alloc U0.size (.cells #[.bool nc, .slice ac lc cc] 24)
  replace ht := ht.alloc (.cells #[.bool nc, .slice ac lc cc] 24)
  replace sa := sa.alloc (.cells #[.bool nc, .slice ac lc cc] 24)
  replace sd := sd.alloc (.cells #[.bool nc, .slice ac lc cc] 24)
  replace sb := sb.alloc (.cells #[.bool nc, .slice ac lc cc] 24)
  replace sc := sc.alloc (.cells #[.bool nc, .slice ac lc cc] 24)
  replace Ta := Ta.alloc (.cells #[.bool nc, .slice ac lc cc] 24)
  replace Td := Td.alloc (.cells #[.bool nc, .slice ac lc cc] 24)
  replace Tb := Tb.alloc (.cells #[.bool nc, .slice ac lc cc] 24)
  replace cTa0 := Ta.cells.1
  replace cTa1 := Ta.cells.2
  replace zTa := Ta.lt
  replace cTd0 := Td.cells.1
  replace cTd1 := Td.cells.2
  replace zTd := Td.lt
  replace cTb0 := Tb.cells.1
  replace cTb1 := Tb.cells.2
  replace zTb := Tb.lt
  have Tc := BoxI.new (((w.alloc (.cells #[.bool na, .slice aa la ca] 24)).alloc (.cells #[.bool nd, .slice ad ld cd] 24)).alloc (.cells #[.bool nb, .slice ab lb cb] 24)) (w.heap.size + 1 + 1 + 1) (by first | rfl | simp) nc ac lc cc
  have cTc0 := Tc.cells.1
  have cTc1 := Tc.cells.2
  have zTc := Tc.lt
  (with_reducible refine (sane_any _ (by exact ht)).mono ?_)
  rintro e w1 ⟨rfl, b1⟩
  replace U0 := U0.trans (b1.mono U0.size)
  replace ht := ht.below b1
  replace sa := sa.below b1
  replace sd := sd.below b1
  replace sb := sb.below b1
  replace sc := sc.below b1
  replace Ta := Ta.below b1
  replace Td := Td.below b1
  replace Tb := Tb.below b1
  replace Tc := Tc.below b1
  replace cTa0 := Ta.cells.1
  replace cTa1 := Ta.cells.2
  replace zTa := Ta.lt
  replace cTd0 := Td.cells.1
  replace cTd1 := Td.cells.2
  replace zTd := Td.lt
  replace cTb0 := Tb.cells.1
  replace cTb1 := Tb.cells.2
  replace zTb := Tb.lt
  replace cTc0 := Tc.cells.1
  replace cTc1 := Tc.cells.2
  replace zTc := Tc.lt
  clear b1
  go_wp2_with fail
  replace U0 := U0.alloc U0.size (.cells #[.bool na, .slice aa la ca, .bool nb, .slice ab lb cb, .bool nc, .slice ac lc cc, .bool nd, .slice ad ld cd] 24)
  replace ht := ht.alloc (.cells #[.bool na, .slice aa la ca, .bool nb, .slice ab lb cb, .bool nc, .slice ac lc cc, .bool nd, .slice ad ld cd] 24)
  replace sa := sa.alloc (.cells #[.bool na, .slice aa la ca, .bool nb, .slice ab lb cb, .bool nc, .slice ac lc cc, .bool nd, .slice ad ld cd] 24)
  replace sd := sd.alloc (.cells #[.bool na, .slice aa la ca, .bool nb, .slice ab lb cb, .bool nc, .slice ac lc cc, .bool nd, .slice ad ld cd] 24)
  replace sb := sb.alloc (.cells #[.bool na, .slice aa la ca, .bool nb, .slice ab lb cb, .bool nc, .slice ac lc cc, .bool nd, .slice ad ld cd] 24)
  replace sc := sc.alloc (.cells #[.bool na, .slice aa la ca, .bool nb, .slice ab lb cb, .bool nc, .slice ac lc cc, .bool nd, .slice ad ld cd] 24)
  replace Ta := Ta.alloc (.cells #[.bool na, .slice aa la ca, .bool nb, .slice ab lb cb, .bool nc, .slice ac lc cc, .bool nd, .slice ad ld cd] 24)
  replace Td := Td.alloc (.cells #[.bool na, .slice aa la ca, .bool nb, .slice ab lb cb, .bool nc, .slice ac lc cc, .bool nd, .slice ad ld cd] 24)
  replace Tb := Tb.alloc (.cells #[.bool na, .slice aa la ca, .bool nb, .slice ab lb cb, .bool nc, .slice ac lc cc, .bool nd, .slice ad ld cd] 24)
  replace Tc := Tc.alloc (.cells #[.bool na, .slice aa la ca, .bool nb, .slice ab lb cb, .bool nc, .slice ac lc cc, .bool nd, .slice ad ld cd] 24)
  replace cTa0 := Ta.cells.1
  replace cTa1 := Ta.cells.2
  replace zTa := Ta.lt
  replace cTd0 := Td.cells.1
  replace cTd1 := Td.cells.2
  replace zTd := Td.lt
  replace cTb0 := Tb.cells.1
  replace cTb1 := Tb.cells.2
  replace zTb := Tb.lt
  replace cTc0 := Tc.cells.1
  replace cTc1 := Tc.cells.2
  replace zTc := Tc.lt
  (with_reducible refine (Hr.out _ _ (heap_new _ _) (by exact sa) (by exact sb) (by exact sc) (by exact sd)).mono ?_)
  rintro e w2 ⟨rfl, b2⟩
  replace U0 := U0.trans (b2.mono U0.size)
  replace ht := ht.below b2
  replace sa := sa.below b2
  replace sd := sd.below b2
  replace sb := sb.below b2
  replace sc := sc.below b2
  replace Ta := Ta.below b2
  replace Td := Td.below b2
  replace Tb := Tb.below b2
  replace Tc := Tc.below b2
  replace cTa0 := Ta.cells.1
  replace cTa1 := Ta.cells.2
  replace zTa := Ta.lt
  replace cTd0 := Td.cells.1
  replace cTd1 := Td.cells.2
  replace zTd := Td.lt
  replace cTb0 := Tb.cells.1
  replace cTb1 := Tb.cells.2
  replace zTb := Tb.lt
  replace cTc0 := Tc.cells.1
  replace cTc1 := Tc.cells.2
  replace zTc := Tc.lt
  clear b2
  go_wp2
  go_ret
  exact ⟨rfl, U0⟩

set_option maxRecDepth 100000 in
set_option maxHeartbeats 16000000 in
theorem powers_negb (na : Bool) (aa : Option Addr) (la ca : Nat) (xa : List Int) (nd : Bool) (ad : Option Addr) (ld cd : Nat) (xd : List Int) (nb : Bool) (ab : Option Addr) (lb cb : Nat) (xb : List Int) (nc : Bool) (ac : Option Addr) (lc cc : Nat) (xc : List Int) (w : World) (ht : Tab w) (sa : Sl w aa la ca xa) (sd : Sl w ad ld cd xd) (sb : Sl w ab lb cb xb) (sc : Sl w ac lc cc xc) (hr : (!(wrong ⟨na, aa, la, ca, xa⟩ || (wrong ⟨nb, ab, lb, cb, xb⟩ || (wrong ⟨nc, ac, lc, cc, xc⟩ || wrong ⟨nd, ad, ld, cd, xd⟩)))) = true) (hb : nb = true) : Calls Tryz.prog 10 #[.agg #[.bool na, .slice aa la ca], .agg #[.bool nd, .slice ad ld cd], .agg #[.bool nb, .slice ab lb cb], .agg #[.bool nc, .slice ac lc cc]] w (RetBool true w) := by
  subst hb
  have Hr := Lib.hid (fun w g hg h1 h2 h3 h4 => right4 na aa la ca xa true ab lb cb xb nc ac lc cc xc nd ad ld cd xd w g hg h1 h2 h3 h4 true hr)
  clear hr
  go_enter Tryz.func10, Tryz.ntmps10
  have U0 := Below.refl w.heap.size w
  go_wp2_with fail
  replace U0 := U0.alloc U0.size (.cells #[.bool na, .slice aa la ca] 24)
  replace ht := ht.alloc (.cells #[.bool na, .slice aa la ca] 24)
  replace sa := sa.alloc (.cells #[.bool na, .slice aa la ca] 24)
  replace sd := sd.alloc (.cells #[.bool na, .slice aa la ca] 24)
  replace sb := sb.alloc (.cells #[.bool na, .slice aa la ca] 24)
  replace sc := sc.alloc (.cells #[.bool na, .slice aa la ca] 24)
  have Ta := BoxI.new w (w.heap.size) (by first | rfl | simp) na aa la ca
  have cTa0 := Ta.cells.1
  have cTa1 := Ta.cells.2
  have zTa := Ta.lt
  replace U0 := U0.alloc U0.size (.cells #[.bool nd, .slice ad ld cd] 24)
  replace ht := ht.alloc (.cells #[.bool nd, .slice ad ld cd] 24)
  replace sa := sa.alloc (.cells #[.bool nd, .slice ad ld cd] 24)
  replace sd := sd.alloc (.cells #[.bool nd, .slice ad ld cd] 24)
  replace sb := sb.alloc (.cells #[.bool nd, .slice ad ld cd] 24)
  replace sc := sc.alloc (.cells #[.bool nd, .slice ad ld cd] 24)
  replace Ta := Ta.alloc (.cells #[.bool nd, .slice ad ld cd] 24)
  replace cTa0 := Ta.cells.1
  replace cTa1 := Ta.cells.2
  replace zTa := Ta.lt
  have Td := BoxI.new (w.alloc (.cells #[.bool na, .slice aa la ca] 24)) (w.heap.size + 1) (by first | rfl | simp) nd ad ld cd
  have cTd0 := Td.cells.1
  have cTd1 := Td.cells.2
  have zTd := Td.lt
  replace U0 := U0.alloc U0.size (.cells #[.bool true, .slice ab lb cb] 24)
  replace ht := ht.alloc (.cells #[.bool true, .slice ab lb cb] 24)
  replace sa := sa.alloc (.cells #[.bool true, .slice ab lb cb] 24)
  replace sd := sd.alloc (.cells #[.bool true, .slice ab lb cb] 24)
  replace sb := sb.alloc (.cells #[.bool true, .slice ab lb cb] 24)
  replace sc := sc.alloc (.cells #[.bool true, .slice ab lb cb] 24)
  replace Ta := Ta.alloc (.cells #[.bool true, .slice ab lb cb] 24)
  replace Td := Td.alloc (.cells #[.bool true, .slice ab lb cb] 24)
  replace cTa0 := Ta.cells.1
  replace cTa1 := Ta.cells.2
  replace zTa := Ta.lt
  replace cTd0 := Td.cells.1
  replace cTd1 := Td.cells.2
  replace zTd := Td.lt
  have Tb := BoxI.new ((w.alloc (.cells #[.bool na, .slice aa la ca] 24)).alloc (.cells #[.bool nd, .slice ad ld cd] 24)) (w.heap.size + 1 + 1) (by first | rfl | simp) true ab lb cb
  have cTb0 := Tb.cells.1
  have cTb1 := Tb.cells.2
  have zTb := Tb.lt
  replace U0 := U0.alloc U0.size (.cells #[.bool nc, .slice ac lc cc] 24)
  replace ht := ht.alloc (.cells #[.bool nc, .slice ac lc cc] 24)
  replace sa := sa.alloc (.cells #[.bool nc, .slice ac lc cc] 24)
  replace sd := sd.alloc (.cells #[.bool nc, .slice ac lc cc] 24)
  replace sb := sb.alloc (.cells #[.bool nc, .slice ac lc cc] 24)
  replace sc := sc.alloc (.cells #[.bool nc, .slice ac lc cc] 24)
  replace Ta := Ta.alloc (.cells #[.bool nc, .slice ac lc cc] 24)
  replace Td := Td.alloc (.cells #[.bool nc, .slice ac lc cc] 24)
  replace Tb := Tb.alloc (.cells #[.bool nc, .slice ac lc cc] 24)
  replace cTa0 := Ta.cells.1
  replace cTa1 := Ta.cells.2
  replace zTa := Ta.lt
  replace cTd0 := Td.cells.1
  replace cTd1 := Td.cells.2
  replace zTd := Td.lt
  replace cTb0 := Tb.cells.1
  replace cTb1 := Tb.cells.2
  replace zTb := Tb.lt
  have Tc := BoxI.new (((w.alloc (.cells #[.bool na, .slice aa la ca] 24)).alloc (.cells #[.bool nd, .slice ad ld cd] 24)).alloc (.cells #[.bool true, .slice ab lb cb] 24)) (w.heap.size + 1 + 1 + 1) (by first | rfl | simp) nc ac lc cc
  have cTc0 := Tc.cells.1
  have cTc1 := Tc.cells.2
  have zTc := Tc.lt
  (with_reducible refine (sane_any _ (by exact ht)).mono ?_)
  rintro e w1 ⟨rfl, b1⟩
  replace U0 := U0.trans (b1.mono U0.size)
  replace ht := ht.below b1
  replace sa := sa.below b1
  replace sd := sd.below b1
  replace sb := sb.below b1
  replace sc := sc.below b1
  replace Ta := Ta.below b1
  replace Td := Td.below b1
  replace Tb := Tb.below b1
  replace Tc := Tc.below b1
  replace cTa0 := Ta.cells.1
  replace cTa1 := Ta.cells.2
  replace zTa := Ta.lt
  replace cTd0 := Td.cells.1
  replace cTd1 := Td.cells.2
  replace zTd := Td.lt
  replace cTb0 := Tb.cells.1
  replace cTb1 := Tb.cells.2
  replace zTb := Tb.lt
  replace cTc0 := Tc.cells.1
  replace cTc1 := Tc.cells.2
  replace zTc := Tc.lt
  clear b1
  go_wp2_with fail
  replace U0 := U0.alloc U0.size (.cells #[.bool na, .slice aa la ca, .bool true, .slice ab lb cb, .bool nc, .slice ac lc cc, .bool nd, .slice ad ld cd] 24)
  replace ht := ht.alloc (.cells #[.bool na, .slice aa la ca, .bool true, .slice ab lb cb, .bool nc, .slice ac lc cc, .bool nd, .slice ad ld cd] 24)
  replace sa := sa.alloc (.cells #[.bool na, .slice aa la ca, .bool true, .slice ab lb cb, .bool nc, .slice ac lc cc, .bool nd, .slice ad ld cd] 24)
  replace sd := sd.alloc (.cells #[.bool na, .slice aa la ca, .bool true, .slice ab lb cb, .bool nc, .slice ac lc cc, .bool nd, .slice ad ld cd] 24)
  replace sb := sb.alloc (.cells #[.bool na, .slice aa la ca, .bool true, .slice ab lb cb, .bool nc, .slice ac lc cc, .bool nd, .slice ad ld cd] 24)
  replace sc := sc.alloc (.cells #[.bool na, .slice aa la ca, .bool true, .slice ab lb cb, .bool nc, .slice ac lc cc, .bool nd, .slice ad ld cd] 24)
  replace Ta := Ta.alloc (.cells #[.bool na, .slice aa la ca, .bool true, .slice ab lb cb, .bool nc, .slice ac lc cc, .bool nd, .slice ad ld cd] 24)
  replace Td := Td.alloc (.cells #[.bool na, .slice aa la ca, .bool true, .slice ab lb cb, .bool nc, .slice ac lc cc, .bool nd, .slice ad ld cd] 24)
  replace Tb := Tb.alloc (.cells #[.bool na, .slice aa la ca, .bool true, .slice ab lb cb, .bool nc, .slice ac lc cc, .bool nd, .slice ad ld cd] 24)
  replace Tc := Tc.alloc (.cells #[.bool na, .slice aa la ca, .bool true, .slice ab lb cb, .bool nc, .slice ac lc cc, .bool nd, .slice ad ld cd] 24)
  replace cTa0 := Ta.cells.1
  replace cTa1 := Ta.cells.2
  replace zTa := Ta.lt
  replace cTd0 := Td.cells.1
  replace cTd1 := Td.cells.2
  replace zTd := Td.lt
  replace cTb0 := Tb.cells.1
  replace cTb1 := Tb.cells.2
  replace zTb := Tb.lt
  replace cTc0 := Tc.cells.1
  replace cTc1 := Tc.cells.2
  replace zTc := Tc.lt
  (with_reducible refine (Hr.out _ _ (heap_new _ _) (by exact sa) (by exact sb) (by exact sc) (by exact sd)).mono ?_)
  rintro e w2 ⟨rfl, b2⟩
  replace U0 := U0.trans (b2.mono U0.size)
  replace ht := ht.below b2
  replace sa := sa.below b2
  replace sd := sd.below b2
  replace sb := sb.below b2
  replace sc := sc.below b2
  replace Ta := Ta.below b2
  replace Td := Td.below b2
  replace Tb := Tb.below b2
  replace Tc := Tc.below b2
  replace cTa0 := Ta.cells.1
  replace cTa1 := Ta.cells.2
  replace zTa := Ta.lt
  replace cTd0 := Td.cells.1
  replace cTd1 := Td.cells.2
  replace zTd := Td.lt
  replace cTb0 := Tb.cells.1
  replace cTb1 := Tb.cells.2
  replace zTb := Tb.lt
  replace cTc0 := Tc.cells.1
  replace cTc1 := Tc.cells.2
  replace zTc := Tc.lt
  clear b2
  go_wp2
  go_ret
  exact ⟨rfl, U0⟩

set_option maxRecDepth 100000 in
set_option maxHeartbeats 16000000 in
theorem powers_negc (na : Bool) (aa : Option Addr) (la ca : Nat) (xa : List Int) (nd : Bool) (ad : Option Addr) (ld cd : Nat) (xd : List Int) (nb : Bool) (ab : Option Addr) (lb cb : Nat) (xb : List Int) (nc : Bool) (ac : Option Addr) (lc cc : Nat) (xc : List Int) (w : World) (ht : Tab w) (sa : Sl w aa la ca xa) (sd : Sl w ad ld cd xd) (sb : Sl w ab lb cb xb) (sc : Sl w ac lc cc xc) (hr : (!(wrong ⟨na, aa, la, ca, xa⟩ || (wrong ⟨nb, ab, lb, cb, xb⟩ || (wrong ⟨nc, ac, lc, cc, xc⟩ || wrong ⟨nd, ad, ld, cd, xd⟩)))) = true) (hb : nb = false) (hc : nc = true) : Calls Tryz.prog 10 #[.agg #[.bool na, .slice aa la ca], .agg #[.bool nd, .slice ad ld cd], .agg #[.bool nb, .slice ab lb cb], .agg #[.bool nc, .slice ac lc cc]] w (RetBool true w) := by
  subst hb
  subst hc
  have Hr := Lib.hid (fun w g hg h1 h2 h3 h4 => right4 na aa la ca xa false ab lb cb xb true ac lc cc xc nd ad ld cd xd w g hg h1 h2 h3 h4 true hr)
  clear hr
  go_enter Tryz.func10, Tryz.ntmps10
  have U0 := Below.refl w.heap.size w
  go_wp2_with fail
  replace U0 := U0.alloc U0.size (.cells #[.bool na, .slice aa la ca] 24)
  replace ht := ht.alloc (.cells #[.bool na, .slice aa la ca] 24)
  replace sa := sa.alloc (.cells #[.bool na, .slice aa la ca] 24)
  replace sd := sd.alloc (.cells #[.bool na, .slice aa la ca] 24)
  replace sb := sb.alloc (.cells #[.bool na, .slice aa la ca] 24)
  replace sc := sc.alloc (.cells #[.bool na, .slice aa la ca] 24)
  have Ta := BoxI.new w (w.heap.size) (by first | rfl | simp) na aa la ca
  have cTa0 := Ta.cells.1
  have cTa1 := Ta.cells.2
  have zTa := Ta.lt
  replace U0 := U0.alloc U0.size (.cells #[.bool nd, .slice ad ld cd] 24)
  replace ht := ht.alloc (.cells #[.bool nd, .slice ad ld cd] 24)
  replace sa := sa.alloc (.cells #[.bool nd, .slice ad ld cd] 24)
  replace sd := sd.alloc (.cells #[.bool nd, .slice ad ld cd] 24)
  replace sb := sb.alloc (.cells #[.bool nd, .slice ad ld cd] 24)
  replace sc := sc.alloc (.cells #[.bool nd, .slice ad ld cd] 24)
  replace Ta := Ta.alloc (.cells #[.bool nd, .slice ad ld cd] 24)
  replace cTa0 := Ta.cells.1
  replace cTa1 := Ta.cells.2
  replace zTa := Ta.lt
  have Td := BoxI.new (w.alloc (.cells #[.bool na, .slice aa la ca] 24)) (w.heap.size + 1) (by first | rfl | simp) nd ad ld cd
  have cTd0 := Td.cells.1
  have cTd1 := Td.cells.2
  have zTd := Td.lt
  replace U0 := U0.alloc U0.size (.cells #[.bool false, .slice ab lb cb] 24)
  replace ht := ht.alloc (.cells #[.bool false, .slice ab lb cb] 24)
  replace sa := sa.alloc (.cells #[.bool false, .slice ab lb cb] 24)
  replace sd := sd.alloc (.cells #[.bool false, .slice ab lb cb] 24)
  replace sb := sb.alloc (.cells #[.bool false, .slice ab lb cb] 24)
  replace sc := sc.alloc (.cells #[.bool false, .slice ab lb cb] 24)
  replace Ta := Ta.alloc (.cells #[.bool false, .slice ab lb cb] 24)
  replace Td := Td.alloc (.cells #[.bool false, .slice ab lb cb] 24)
  replace cTa0 := Ta.cells.1
  replace cTa1 := Ta.cells.2
  replace zTa := Ta.lt
  replace cTd0 := Td.cells.1
  replace cTd1 := Td.cells.2
  replace zTd := Td.lt
  have Tb := BoxI.new ((w.alloc (.cells #[.bool na, .slice aa la ca] 24)).alloc (.cells #[.bool nd, .slice ad ld cd] 24)) (w.heap.size + 1 + 1) (by first | rfl | simp) false ab lb cb
  have cTb0 := Tb.cells.1
  have cTb1 := Tb.cells.2
  have zTb := Tb.lt
  replace U0 := U0.alloc U0.size (.cells #[.bool true, .slice ac lc cc] 24)
  replace ht := ht.alloc (.cells #[.bool true, .slice ac lc cc] 24)
  replace sa := sa.alloc (.cells #[.bool true, .slice ac lc cc] 24)
  replace sd := sd.alloc (.cells #[.bool true, .slice ac lc cc] 24)
  replace sb := sb.alloc (.cells #[.bool true, .slice ac lc cc] 24)
  replace sc := sc.alloc (.cells #[.bool true, .slice ac lc cc] 24)
  replace Ta := Ta.alloc (.cells #[.bool true, .slice ac lc cc] 24)
  replace Td := Td.alloc (.cells #[.bool true, .slice ac lc cc] 24)
  replace Tb := Tb.alloc (.cells #[.bool true, .slice ac lc cc] 24)
  replace cTa0 := Ta.cells.1
  replace cTa1 := Ta.cells.2
  replace zTa := Ta.lt
  replace cTd0 := Td.cells.1
  replace cTd1 := Td.cells.2
  replace zTd := Td.lt
  replace cTb0 := Tb.cells.1
  replace cTb1 := Tb.cells.2
  replace zTb := Tb.lt
  have Tc := BoxI.new (((w.alloc (.cells #[.bool na, .slice aa la ca] 24)).alloc (.cells #[.bool nd, .slice ad ld cd] 24)).alloc (.cells #[.bool false, .slice ab lb cb] 24)) (w.heap.size + 1 + 1 + 1) (by first | rfl | simp) true ac lc cc
  have cTc0 := Tc.cells.1
  have cTc1 := Tc.cells.2
  have zTc := Tc.lt
  (with_reducible refine (sane_any _ (by exact ht)).mono ?_)
  rintro e w1 ⟨rfl, b1⟩
  replace U0 := U0.trans (b1.mono U0.size)
  replace ht := ht.below b1
  replace sa := sa.below b1
  replace sd := sd.below b1
  replace sb := sb.below b1
  replace sc := sc.below b1
  replace Ta := Ta.below b1
  replace Td := Td.below b1
  replace Tb := Tb.below b1
  replace Tc := Tc.below b1
  replace cTa0 := Ta.cells.1
  replace cTa1 := Ta.cells.2
  replace zTa := Ta.lt
  replace cTd0 := Td.cells.1
  replace cTd1 := Td.cells.2
  replace zTd := Td.lt
  replace cTb0 := Tb.cells.1
  replace cTb1 := Tb.cells.2
  replace zTb := Tb.lt
  replace cTc0 := Tc.cells.1
  replace cTc1 := Tc.cells.2
  replace zTc := Tc.lt
  clear b1
  go_wp2_with fail
  replace U0 := U0.alloc U0.size (.cells #[.bool na, .slice aa la ca, .bool false, .slice ab lb cb, .bool true, .slice ac lc cc, .bool nd, .slice ad ld cd] 24)
  replace ht := ht.alloc (.cells #[.bool na, .slice aa la ca, .bool false, .slice ab lb cb, .bool true, .slice ac lc cc, .bool nd, .slice ad ld cd] 24)
  replace sa := sa.alloc (.cells #[.bool na, .slice aa la ca, .bool false, .slice ab lb cb, .bool true, .slice ac lc cc, .bool nd, .slice ad ld cd] 24)
  replace sd := sd.alloc (.cells #[.bool na, .slice aa la ca, .bool false, .slice ab lb cb, .bool true, .slice ac lc cc, .bool nd, .slice ad ld cd] 24)
  replace sb := sb.alloc (.cells #[.bool na, .slice aa la ca, .bool false, .slice ab lb cb, .bool true, .slice ac lc cc, .bool nd, .slice ad ld cd] 24)
  replace sc := sc.alloc (.cells #[.bool na, .slice aa la ca, .bool false, .slice ab lb cb, .bool true, .slice ac lc cc, .bool nd, .slice ad ld cd] 24)
  replace Ta := Ta.alloc (.cells #[.bool na, .slice aa la ca, .bool false, .slice ab lb cb, .bool true, .slice ac lc cc, .bool nd, .slice ad ld cd] 24)
  replace Td := Td.alloc (.cells #[.bool na, .slice aa la ca, .bool false, .slice ab lb cb, .bool true, .slice ac lc cc, .bool nd, .slice ad ld cd] 24)
  replace Tb := Tb.alloc (.cells #[.bool na, .slice aa la ca, .bool false, .slice ab lb cb, .bool true, .slice ac lc cc, .bool nd, .slice ad ld cd] 24)
  replace Tc := Tc.alloc (.cells #[.bool na, .slice aa la ca, .bool false, .slice ab lb cb, .bool true, .slice ac lc cc, .bool nd, .slice ad ld cd] 24)
  replace cTa0 := Ta.cells.1
  replace cTa1 := Ta.cells.2
  replace zTa := Ta.lt
  replace cTd0 := Td.cells.1
  replace cTd1 := Td.cells.2
  replace zTd := Td.lt
  replace cTb0 := Tb.cells.1
  replace cTb1 := Tb.cells.2
  replace zTb := Tb.lt
  replace cTc0 := Tc.cells.1
  replace cTc1 := Tc.cells.2
  replace zTc := Tc.lt
  (with_reducible refine (Hr.out _ _ (heap_new _ _) (by exact sa) (by exact sb) (by exact sc) (by exact sd)).mono ?_)
  rintro e w2 ⟨rfl, b2⟩
  replace U0 := U0.trans (b2.mono U0.size)
  replace ht := ht.below b2
  replace sa := sa.below b2
  replace sd := sd.below b2
  replace sb := sb.below b2
  replace sc := sc.below b2
  replace Ta := Ta.below b2
  replace Td := Td.below b2
  replace Tb := Tb.below b2
  replace Tc := Tc.below b2
  replace cTa0 := Ta.cells.1
  replace cTa1 := Ta.cells.2
  replace zTa := Ta.lt
  replace cTd0 := Td.cells.1
  replace cTd1 := Td.cells.2
  replace zTd := Td.lt
  replace cTb0 := Tb.cells.1
  replace cTb1 := Tb.cells.2
  replace zTb := Tb.lt
  replace cTc0 := Tc.cells.1
  replace cTc1 := Tc.cells.2
  replace zTc := Tc.lt
  clear b2
  go_wp2
  go_ret
  exact ⟨rfl, U0⟩

set_option maxRecDepth 100000 in
set_option maxHeartbeats 16000000 in
theorem powers_right (na : Bool) (aa : Option Addr) (la ca : Nat) (xa : List Int) (nd : Bool) (ad : Option Addr) (ld cd : Nat) (xd : List Int) (nb : Bool) (ab : Option Addr) (lb cb : Nat) (xb : List Int) (nc : Bool) (ac : Option Addr) (lc cc : Nat) (xc : List Int) (w : World) (ht : Tab w) (sa : Sl w aa la ca xa) (sd : Sl w ad ld cd xd) (sb : Sl w ab lb cb xb) (sc : Sl w ac lc cc xc) (a b c d : Int) (Na : Num a na xa) (Nb : Num b nb xb) (Nc : Num c nc xc) (Nd : Num d nd xd) (hb0 : 0 ≤ b) (hc0 : 0 ≤ c) (hnb : nb = false) (hnc : nc = false) (hr : (!(wrong ⟨na, aa, la, ca, xa⟩ || (wrong ⟨nb, ab, lb, cb, xb⟩ || (wrong ⟨nc, ac, lc, cc, xc⟩ || wrong ⟨nd, ad, ld, cd, xd⟩)))) = true) : Calls Tryz.prog 10 #[.agg #[.bool na, .slice aa la ca], .agg #[.bool nd, .slice ad ld cd], .agg #[.bool nb, .slice ab lb cb], .agg #[.bool nc, .slice ac lc cc]] w (RetBool true w) := by
  have Hr := Lib.hid (fun w g hg h1 h2 h3 h4 => right4 na aa la ca xa nb ab lb cb xb nc ac lc cc xc nd ad ld cd xd w g hg h1 h2 h3 h4 true hr)
  obtain ⟨s, es, hs⟩ : ∃ v e, sumR (b, 0) (c, 0) = (v, e) := ⟨_, _, rfl⟩
  have ls_ : Lim s := by have := sumR_lim (b, 0) (c, 0); rw [hs] at this; exact this
  obtain ⟨ns, xs, Ns⟩ : ∃ n xs, Num s n xs := ⟨_, _, ls_, rfl, rfl⟩
  obtain ⟨v, ev, hv⟩ : ∃ v e, powerR (a, 0) (s, es) = (v, e) := ⟨_, _, rfl⟩
  have lv_ : Lim v := by have := powerR_lim (a, 0) (s, es); rw [hv] at this; exact this
  obtain ⟨nv, xv, Nv⟩ : ∃ n xs, Num v n xs := ⟨_, _, lv_, rfl, rfl⟩
  obtain ⟨p, ep, hp⟩ : ∃ v e, powerR (a, 0) (b, 0) = (v, e) := ⟨_, _, rfl⟩
  have lp_ : Lim p := by have := powerR_lim (a, 0) (b, 0); rw [hp] at this; exact this
  obtain ⟨np, xp, Np⟩ : ∃ n xs, Num p n xs := ⟨_, _, lp_, rfl, rfl⟩
  obtain ⟨q, eq, hq⟩ : ∃ v e, powerR (a, 0) (c, 0) = (v, e) := ⟨_, _, rfl⟩
  have lq_ : Lim q := by have := powerR_lim (a, 0) (c, 0); rw [hq] at this; exact this
  obtain ⟨nq, xq, Nq⟩ : ∃ n xs, Num q n xs := ⟨_, _, lq_, rfl, rfl⟩
  obtain ⟨t, et, ht'⟩ : ∃ v e, timesR (p, ep) (q, eq) = (v, e) := ⟨_, _, rfl⟩
  have lt_ : Lim t := by have := timesR_lim (p, ep) (q, eq); rw [ht'] at this; exact this
  obtain ⟨nt, xt, Nt⟩ : ∃ n xs, Num t n xs := ⟨_, _, lt_, rfl, rfl⟩
  obtain ⟨m, em, hm⟩ : ∃ v e, timesR (a, 0) (d, 0) = (v, e) := ⟨_, _, rfl⟩
  have lm_ : Lim m := by have := timesR_lim (a, 0) (d, 0); rw [hm] at this; exact this
  obtain ⟨nm, xm, Nm⟩ : ∃ n xs, Num m n xs := ⟨_, _, lm_, rfl, rfl⟩
  obtain ⟨u, eu, hu⟩ : ∃ v e, powerR (m, em) (b, 0) = (v, e) := ⟨_, _, rfl⟩
  have lu_ : Lim u := by have := powerR_lim (m, em) (b, 0); rw [hu] at this; exact this
  obtain ⟨nu, xu, Nu⟩ : ∃ n xs, Num u n xs := ⟨_, _, lu_, rfl, rfl⟩
  obtain ⟨r, er, hr'⟩ : ∃ v e, powerR (d, 0) (b, 0) = (v, e) := ⟨_, _, rfl⟩
  have lr_ : Lim r := by have := powerR_lim (d, 0) (b, 0); rw [hr'] at this; exact this
  obtain ⟨nr, xr, Nr⟩ : ∃ n xs, Num r n xs := ⟨_, _, lr_, rfl, rfl⟩
  obtain ⟨y, ey, hy'⟩ : ∃ v e, timesR (p, ep) (r, er) = (v, e) := ⟨_, _, rfl⟩
  have ly_ : Lim y := by have := timesR_lim (p, ep) (r, er); rw [hy'] at this; exact this
  obtain ⟨ny, xy, Ny⟩ : ∃ n xs, Num y n xs := ⟨_, _, ly_, rfl, rfl⟩
  have hs0 : es = 0 → 0 ≤ s := by
    intro e; subst e
    obtain ⟨_, _, e⟩ := sumR_zero hs; omega
  have ag1 : ev ≠ 0 ∨ et ≠ 0 ∨ v = t := by
    by_cases e1 : ev = 0
    · by_cases e2 : et = 0
      · subst e1; subst e2
        obtain ⟨_, h1, h2⟩ := powerR_zero hv
        subst h1
        obtain ⟨_, _, h3⟩ := sumR_zero hs
        obtain ⟨h4, h5, h6⟩ := timesR_zero ht'
        subst h4; subst h5
        obtain ⟨_, _, h7⟩ := powerR_zero hp
        obtain ⟨_, _, h8⟩ := powerR_zero hq
        right; right
        rw [h2, h6, h7, h8, h3, show (b + c).natAbs = b.natAbs + c.natAbs by omega, Int.pow_add]
      · exact .inr (.inl e2)
    · exact .inl e1
  have ag2 : eu ≠ 0 ∨ ey ≠ 0 ∨ u = y := by
    by_cases e1 : eu = 0
    · by_cases e2 : ey = 0
      · subst e1; subst e2
        obtain ⟨h1, _, h2⟩ := powerR_zero hu
        subst h1
        obtain ⟨_, _, h3⟩ := timesR_zero hm
        obtain ⟨h4, h5, h6⟩ := timesR_zero hy'
        subst h4; subst h5
        obtain ⟨_, _, h7⟩ := powerR_zero hp
        obtain ⟨_, _, h8⟩ := powerR_zero hr'
        right; right
        rw [h2, h6, h7, h8, h3, Int.mul_pow]
      · exact .inr (.inl e2)
    · exact .inl e1
  obtain ⟨n1, x1, N1⟩ := num_ex 1 (by decide +kernel)
  have N0 : Num 0 false [] := ⟨Lim.zero, rfl, by rw [show (0 : Int).natAbs = 0 from rfl, parts_zero]⟩
  have ho : powerR (a, 0) (1, 0) = (a, 0) := by
    unfold powerR; rw [if_pos ⟨rfl, rfl⟩, show (1 : Int).natAbs = 1 from rfl, Int.pow_succ, Int.pow_zero, Int.one_mul, fitR_ok Na.1]
  have hz : powerR (a, 0) (0, 0) = (1, 0) := by
    unfold powerR; rw [if_pos ⟨rfl, rfl⟩, show (0 : Int).natAbs = 0 from rfl, Int.pow_zero, fitR_ok N1.1]
  have Su := Lib.hid (fun ax la ca ay lb cb w hx hy => lawSum_any Nb Nc Ns hs ax la ca ay lb cb w hx hy)
  have Pv := Lib.hid (fun ax la ca ay lb cb w hx hy => lawPower_any Na Ns Nv hs0 hv ax la ca ay lb cb w hx hy)
  have Pp := Lib.hid (fun ax la ca ay lb cb w hx hy => lawPower_any Na Nb Np (fun _ => hb0) hp ax la ca ay lb cb w hx hy)
  have Pq := Lib.hid (fun ax la ca ay lb cb w hx hy => lawPower_any Na Nc Nq (fun _ => hc0) hq ax la ca ay lb cb w hx hy)
  have Pu := Lib.hid (fun ax la ca ay lb cb w hx hy => lawPower_any Nm Nb Nu (fun _ => hb0) hu ax la ca ay lb cb w hx hy)
  have Pr := Lib.hid (fun ax la ca ay lb cb w hx hy => lawPower_any Nd Nb Nr (fun _ => hb0) hr' ax la ca ay lb cb w hx hy)
  have Po := Lib.hid (fun ax la ca ay lb cb w hx hy => lawPower_any Na N1 Na (fun _ => by omega) ho ax la ca ay lb cb w hx hy)
  have Pz := Lib.hid (fun ax la ca ay lb cb w hx hy => lawPower_any Na N0 N1 (fun _ => by omega) hz ax la ca ay lb cb w hx hy)
  have Tt := Lib.hid (fun ax la ca ay lb cb w hx hy => lawTimes_any Np Nq Nt ht' ax la ca ay lb cb w hx hy)
  have Tm := Lib.hid (fun ax la ca ay lb cb w hx hy => lawTimes_any Na Nd Nm hm ax la ca ay lb cb w hx hy)
  have Ty := Lib.hid (fun ax la ca ay lb cb w hx hy => lawTimes_any Np Nr Ny hy' ax la ca ay lb cb w hx hy)
  have A1 := Lib.hid (fun ax la ca ay lb cb w hx hy => agreeP Nv Nt ev et ag1 ax la ca ay lb cb w hx hy)
  have A2 := Lib.hid (fun ax la ca ay lb cb w hx hy => agreeP Nu Ny eu ey ag2 ax la ca ay lb cb w hx hy)
  have O1 := Lib.hid (fun w => ofP N1 (by omega) (by omega) w)
  have O0 := Lib.hid (fun w => ofP N0 (by omega) (by omega) w)
  have Sa := Lib.hid (fun ax la ca ay lb cb w hx hy => pairSelfQ Na 0 ax la ca ay lb cb w hx hy)
  have S1 := Lib.hid (fun ax la ca ay lb cb w hx hy => pairSelfQ N1 0 ax la ca ay lb cb w hx hy)
  have La := Lib.hid Na.last
  have Lb := Lib.hid Nb.last
  have Lc := Lib.hid Nc.last
  have Ld := Lib.hid Nd.last
  have Lv := Lib.hid Nv.last
  subst hnb; subst hnc
  clear hr hs hv hp hq ht' hm hu hr' hy' ag1 ag2 ho hz hs0 hb0 hc0 ls_ lv_ lp_ lq_ lt_ lm_ lu_ lr_ ly_ Na Nb Nc Nd Ns Nv Np Nq Nt Nm Nu Nr Ny N1 N0
  go_enter Tryz.func10, Tryz.ntmps10
  have U0 := Below.refl w.heap.size w
  go_wp2_with fail
  replace U0 := U0.alloc U0.size (.cells #[.bool na, .slice aa la ca] 24)
  replace ht := ht.alloc (.cells #[.bool na, .slice aa la ca] 24)
  replace sa := sa.alloc (.cells #[.bool na, .slice aa la ca] 24)
  replace sd := sd.alloc (.cells #[.bool na, .slice aa la ca] 24)
  replace sb := sb.alloc (.cells #[.bool na, .slice aa la ca] 24)
  replace sc := sc.alloc (.cells #[.bool na, .slice aa la ca] 24)
  have Ta := BoxI.new w (w.heap.size) (by first | rfl | simp) na aa la ca
  have cTa0 := Ta.cells.1
  have cTa1 := Ta.cells.2
  have zTa := Ta.lt
  replace U0 := U0.alloc U0.size (.cells #[.bool nd, .slice ad ld cd] 24)
  replace ht := ht.alloc (.cells #[.bool nd, .slice ad ld cd] 24)
  replace sa := sa.alloc (.cells #[.bool nd, .slice ad ld cd] 24)
  replace sd := sd.alloc (.cells #[.bool nd, .slice ad ld cd] 24)
  replace sb := sb.alloc (.cells #[.bool nd, .slice ad ld cd] 24)
  replace sc := sc.alloc (.cells #[.bool nd, .slice ad ld cd] 24)
  replace Ta := Ta.alloc (.cells #[.bool nd, .slice ad ld cd] 24)
  replace cTa0 := Ta.cells.1
  replace cTa1 := Ta.cells.2
  replace zTa := Ta.lt
  have Td := BoxI.new (w.alloc (.cells #[.bool na, .slice aa la ca] 24)) (w.heap.size + 1) (by first | rfl | simp) nd ad ld cd
  have cTd0 := Td.cells.1
  have cTd1 := Td.cells.2
  have zTd := Td.lt
  replace U0 := U0.alloc U0.size (.cells #[.bool false, .slice ab lb cb] 24)
  replace ht := ht.alloc (.cells #[.bool false, .slice ab lb cb] 24)
  replace sa := sa.alloc (.cells #[.bool false, .slice ab lb cb] 24)
  replace sd := sd.alloc (.cells #[.bool false, .slice ab lb cb] 24)
  replace sb := sb.alloc (.cells #[.bool false, .slice ab lb cb] 24)
  replace sc := sc.alloc (.cells #[.bool false, .slice ab lb cb] 24)
  replace Ta := Ta.alloc (.cells #[.bool false, .slice ab lb cb] 24)
  replace Td := Td.alloc (.cells #[.bool false, .slice ab lb cb] 24)
  replace cTa0 := Ta.cells.1
  replace cTa1 := Ta.cells.2
  replace zTa := Ta.lt
  replace cTd0 := Td.cells.1
  replace cTd1 := Td.cells.2
  replace zTd := Td.lt
  have Tb := BoxI.new ((w.alloc (.cells #[.bool na, .slice aa la ca] 24)).alloc (.cells #[.bool nd, .slice ad ld cd] 24)) (w.heap.size + 1 + 1) (by first | rfl | simp) false ab lb cb
  have cTb0 := Tb.cells.1
  have cTb1 := Tb.cells.2
  have zTb := Tb.lt
  replace U0 := U0.alloc U0.size (.cells #[.bool false, .slice ac lc cc] 24)
  replace ht := ht.alloc (.cells #[.bool false, .slice ac lc cc] 24)
  replace sa := sa.alloc (.cells #[.bool false, .slice ac lc cc] 24)
  replace sd := sd.alloc (.cells #[.bool false, .slice ac lc cc] 24)
  replace sb := sb.alloc (.cells #[.bool false, .slice ac lc cc] 24)
  replace sc := sc.alloc (.cells #[.bool false, .slice ac lc cc] 24)
  replace Ta := Ta.alloc (.cells #[.bool false, .slice ac lc cc] 24)
  replace Td := Td.alloc (.cells #[.bool false, .slice ac lc cc] 24)
  replace Tb := Tb.alloc (.cells #[.bool false, .slice ac lc cc] 24)
  replace cTa0 := Ta.cells.1
  replace cTa1 := Ta.cells.2
  replace zTa := Ta.lt
  replace cTd0 := Td.cells.1
  replace cTd1 := Td.cells.2
  replace zTd := Td.lt
  replace cTb0 := Tb.cells.1
  replace cTb1 := Tb.cells.2
  replace zTb := Tb.lt
  have Tc := BoxI.new (((w.alloc (.cells #[.bool na, .slice aa la ca] 24)).alloc (.cells #[.bool nd, .slice ad ld cd] 24)).alloc (.cells #[.bool false, .slice ab lb cb] 24)) (w.heap.size + 1 + 1 + 1) (by first | rfl | simp) false ac lc cc
  have cTc0 := Tc.cells.1
  have cTc1 := Tc.cells.2
  have zTc := Tc.lt
  (with_reducible refine (sane_any _ (by exact ht)).mono ?_)
  rintro e w1 ⟨rfl, b1⟩
  replace U0 := U0.trans (b1.mono U0.size)
  replace ht := ht.below b1
  replace sa := sa.below b1
  replace sd := sd.below b1
  replace sb := sb.below b1
  replace sc := sc.below b1
  replace Ta := Ta.below b1
  replace Td := Td.below b1
  replace Tb := Tb.below b1
  replace Tc := Tc.below b1
  replace cTa0 := Ta.cells.1
  replace cTa1 := Ta.cells.2
  replace zTa := Ta.lt
  replace cTd0 := Td.cells.1
  replace cTd1 := Td.cells.2
  replace zTd := Td.lt
  replace cTb0 := Tb.cells.1
  replace cTb1 := Tb.cells.2
  replace zTb := Tb.lt
  replace cTc0 := Tc.cells.1
  replace cTc1 := Tc.cells.2
  replace zTc := Tc.lt
  clear b1
  go_wp2_with fail
  replace U0 := U0.alloc U0.size (.cells #[.bool na, .slice aa la ca, .bool false, .slice ab lb cb, .bool false, .slice ac lc cc, .bool nd, .slice ad ld cd] 24)
  replace ht := ht.alloc (.cells #[.bool na, .slice aa la ca, .bool false, .slice ab lb cb, .bool false, .slice ac lc cc, .bool nd, .slice ad ld cd] 24)
  replace sa := sa.alloc (.cells #[.bool na, .slice aa la ca, .bool false, .slice ab lb cb, .bool false, .slice ac lc cc, .bool nd, .slice ad ld cd] 24)
  replace sd := sd.alloc (.cells #[.bool na, .slice aa la ca, .bool false, .slice ab lb cb, .bool false, .slice ac lc cc, .bool nd, .slice ad ld cd] 24)
  replace sb := sb.alloc (.cells #[.bool na, .slice aa la ca, .bool false, .slice ab lb cb, .bool false, .slice ac lc cc, .bool nd, .slice ad ld cd] 24)
  replace sc := sc.alloc (.cells #[.bool na, .slice aa la ca, .bool false, .slice ab lb cb, .bool false, .slice ac lc cc, .bool nd, .slice ad ld cd] 24)
  replace Ta := Ta.alloc (.cells #[.bool na, .slice aa la ca, .bool false, .slice ab lb cb, .bool false, .slice ac lc cc, .bool nd, .slice ad ld cd] 24)
  replace Td := Td.alloc (.cells #[.bool na, .slice aa la ca, .bool false, .slice ab lb cb, .bool false, .slice ac lc cc, .bool nd, .slice ad ld cd] 24)
  replace Tb := Tb.alloc (.cells #[.bool na, .slice aa la ca, .bool false, .slice ab lb cb, .bool false, .slice ac lc cc, .bool nd, .slice ad ld cd] 24)
  replace Tc := Tc.alloc (.cells #[.bool na, .slice aa la ca, .bool false, .slice ab lb cb, .bool false, .slice ac lc cc, .bool nd, .slice ad ld cd] 24)
  replace cTa0 := Ta.cells.1
  replace cTa1 := Ta.cells.2
  replace zTa := Ta.lt
  replace cTd0 := Td.cells.1
  replace cTd1 := Td.cells.2
  replace zTd := Td.lt
  replace cTb0 := Tb.cells.1
  replace cTb1 := Tb.cells.2
  replace zTb := Tb.lt
  replace cTc0 := Tc.cells.1
  replace cTc1 := Tc.cells.2
  replace zTc := Tc.lt
  (with_reducible refine (Hr.out _ _ (heap_new _ _) (by exact sa) (by exact sb) (by exact sc) (by exact sd)).mono ?_)
  rintro e w2 ⟨rfl, b2⟩
  replace U0 := U0.trans (b2.mono U0.size)
  replace ht := ht.below b2
  replace sa := sa.below b2
  replace sd := sd.below b2
  replace sb := sb.below b2
  replace sc := sc.below b2
  replace Ta := Ta.below b2
  replace Td := Td.below b2
  replace Tb := Tb.below b2
  replace Tc := Tc.below b2
  replace cTa0 := Ta.cells.1
  replace cTa1 := Ta.cells.2
  replace zTa := Ta.lt
  replace cTd0 := Td.cells.1
  replace cTd1 := Td.cells.2
  replace zTd := Td.lt
  replace cTb0 := Tb.cells.1
  replace cTb1 := Tb.cells.2
  replace zTb := Tb.lt
  replace cTc0 := Tc.cells.1
  replace cTc1 := Tc.cells.2
  replace zTc := Tc.lt
  clear b2
  go_upto_region 6 with (fail)
  clear ht
  go_cut [10] (fun s10 wx => PowCut w (w.heap.size) (w.heap.size + 1) (w.heap.size + 1 + 1) (w.heap.size + 1 + 1 + 1) na aa la ca xa nd ad ld cd xd false ab lb cb xb false ac lc cc xc nv xv ev s10 wx)
  case first =>
    go_region_held3 (fun w' => (w'.cell? ⟨w.heap.size, 0, none⟩ = some (.bool na) ∧ w'.cell? ⟨w.heap.size, 1, none⟩ = some (.slice aa la ca)) ∧ (w'.cell? ⟨w.heap.size + 1 + 1, 0, none⟩ = some (.bool false) ∧ w'.cell? ⟨w.heap.size + 1 + 1, 1, none⟩ = some (.slice ab lb cb)) ∧ (w'.cell? ⟨w.heap.size + 1 + 1 + 1, 0, none⟩ = some (.bool false) ∧ w'.cell? ⟨w.heap.size + 1 + 1 + 1, 1, none⟩ = some (.slice ac lc cc))) (first | with_reducible exact ⟨⟨Ta.cells.1, Ta.cells.2⟩, ⟨Tb.cells.1, Tb.cells.2⟩, ⟨Tc.cells.1, Tc.cells.2⟩⟩ | with_reducible exact ⟨⟨Ta.drew.cells.1, Ta.drew.cells.2⟩, ⟨Tb.drew.cells.1, Tb.drew.cells.2⟩, ⟨Tc.drew.cells.1, Tc.drew.cells.2⟩⟩ | with_reducible exact ⟨⟨(Ta.alloc _).cells.1, (Ta.alloc _).cells.2⟩, ⟨(Tb.alloc _).cells.1, (Tb.alloc _).cells.2⟩, ⟨(Tc.alloc _).cells.1, (Tc.alloc _).cells.2⟩⟩ | with_reducible exact ⟨⟨(Ta.alloc _).drew.cells.1, (Ta.alloc _).drew.cells.2⟩, ⟨(Tb.alloc _).drew.cells.1, (Tb.alloc _).drew.cells.2⟩, ⟨(Tc.alloc _).drew.cells.1, (Tc.alloc _).drew.cells.2⟩⟩ | with_reducible exact ⟨⟨(Ta.set3 Z _ _ _).cells.1, (Ta.set3 Z _ _ _).cells.2⟩, ⟨(Tb.set3 Z _ _ _).cells.1, (Tb.set3 Z _ _ _).cells.2⟩, ⟨(Tc.set3 Z _ _ _).cells.1, (Tc.set3 Z _ _ _).cells.2⟩⟩ | exact ⟨⟨Ta.cells.1, Ta.cells.2⟩, ⟨Tb.cells.1, Tb.cells.2⟩, ⟨Tc.cells.1, Tc.cells.2⟩⟩ | exact ⟨⟨(Ta.alloc _).cells.1, (Ta.alloc _).cells.2⟩, ⟨(Tb.alloc _).cells.1, (Tb.alloc _).cells.2⟩, ⟨(Tc.alloc _).cells.1, (Tc.alloc _).cells.2⟩⟩) (first | (go_at_call 65; (with_reducible refine (lawVal_any _ _ _ _ _).mono ?_); rintro e wq ⟨rfl, bq⟩; (try with_reducible replace Z := Z.below bq); (first | (with_reducible have Z := Zr.new bq; have zg := U0.size) | (with_reducible have Z := Zr.newD bq; have zg := U0.size) | skip); (first | (with_reducible replace U0 := U0.trans (bq.mono U0.size)) | (with_reducible replace U0 := (U0.alloc U0.size _).trans (bq.mono (U0.alloc U0.size _).size)) | (with_reducible replace U0 := U0.drew.trans (bq.mono U0.drew.size)) | (with_reducible replace U0 := (U0.alloc U0.size _).drew.trans (bq.mono (U0.alloc U0.size _).drew.size))); (first | (with_reducible replace sa := sa.below bq) | (with_reducible replace sa := (sa.alloc _).below bq) | (with_reducible replace sa := sa.drew.below bq) | (with_reducible replace sa := (sa.alloc _).drew.below bq)); (first | (with_reducible replace sd := sd.below bq) | (with_reducible replace sd := (sd.alloc _).below bq) | (with_reducible replace sd := sd.drew.below bq) | (with_reducible replace sd := (sd.alloc _).drew.below bq)); (first | (with_reducible replace sb := sb.below bq) | (with_reducible replace sb := (sb.alloc _).below bq) | (with_reducible replace sb := sb.drew.below bq) | (with_reducible replace sb := (sb.alloc _).drew.below bq)); (first | (with_reducible replace sc := sc.below bq) | (with_reducible replace sc := (sc.alloc _).below bq) | (with_reducible replace sc := sc.drew.below bq) | (with_reducible replace sc := (sc.alloc _).drew.below bq)); (first | (with_reducible replace Ta := Ta.below bq) | (with_reducible replace Ta := (Ta.alloc _).below bq) | (with_reducible replace Ta := Ta.drew.below bq) | (with_reducible replace Ta := (Ta.alloc _).drew.below bq)); (first | (with_reducible replace Td := Td.below bq) | (with_reducible replace Td := (Td.alloc _).below bq) | (with_reducible replace Td := Td.drew.below bq) | (with_reducible replace Td := (Td.alloc _).drew.below bq)); (first | (with_reducible replace Tb := Tb.below bq) | (with_reducible replace Tb := (Tb.alloc _).below bq) | (with_reducible replace Tb := Tb.drew.below bq) | (with_reducible replace Tb := (Tb.alloc _).drew.below bq)); (first | (with_reducible replace Tc := Tc.below bq) | (with_reducible replace Tc := (Tc.alloc _).below bq) | (with_reducible replace Tc := Tc.drew.below bq) | (with_reducible replace Tc := (Tc.alloc _).drew.below bq)); replace cTa0 := Ta.cells.1; replace cTa1 := Ta.cells.2; replace zTa := Ta.lt; replace cTd0 := Td.cells.1; replace cTd1 := Td.cells.2; replace zTd := Td.lt; replace cTb0 := Tb.cells.1; replace cTb1 := Tb.cells.2; replace zTb := Tb.lt; replace cTc0 := Tc.cells.1; replace cTc1 := Tc.cells.2; replace zTc := Tc.lt; (try (replace cz0 := Z.cells.1; replace cz1 := Z.cells.2.1; replace cz2 := Z.cells.2.2; replace fz0 := Z.froz.1; replace fz1 := Z.froz.2.1; replace fz2 := Z.froz.2.2; replace zz := Box3.lt Z)); clear bq) | (go_at_call 67; (with_reducible refine (Su.out _ _ _ _ _ _ _ (by first | exact sb | exact sb.alloc _ | exact sb.drew | exact (sb.alloc _).drew) (by first | exact sc | exact sc.alloc _ | exact sc.drew | exact (sc.alloc _).drew)).mono ?_); rintro e wq ⟨as_, ls, cs, rfl, ss, bq⟩; (try with_reducible replace Z := Z.below bq); (first | (with_reducible have Z := Zr.new bq; have zg := U0.size) | (with_reducible have Z := Zr.newD bq; have zg := U0.size) | skip); (first | (with_reducible replace U0 := U0.trans (bq.mono U0.size)) | (with_reducible replace U0 := (U0.alloc U0.size _).trans (bq.mono (U0.alloc U0.size _).size)) | (with_reducible replace U0 := U0.drew.trans (bq.mono U0.drew.size)) | (with_reducible replace U0 := (U0.alloc U0.size _).drew.trans (bq.mono (U0.alloc U0.size _).drew.size))); (first | (with_reducible replace sa := sa.below bq) | (with_reducible replace sa := (sa.alloc _).below bq) | (with_reducible replace sa := sa.drew.below bq) | (with_reducible replace sa := (sa.alloc _).drew.below bq)); (first | (with_reducible replace sd := sd.below bq) | (with_reducible replace sd := (sd.alloc _).below bq) | (with_reducible replace sd := sd.drew.below bq) | (with_reducible replace sd := (sd.alloc _).drew.below bq)); (first | (with_reducible replace sb := sb.below bq) | (with_reducible replace sb := (sb.alloc _).below bq) | (with_reducible replace sb := sb.drew.below bq) | (with_reducible replace sb := (sb.alloc _).drew.below bq)); (first | (with_reducible replace sc := sc.below bq) | (with_reducible replace sc := (sc.alloc _).below bq) | (with_reducible replace sc := sc.drew.below bq) | (with_reducible replace sc := (sc.alloc _).drew.below bq)); (first | (with_reducible replace Ta := Ta.below bq) | (with_reducible replace Ta := (Ta.alloc _).below bq) | (with_reducible replace Ta := Ta.drew.below bq) | (with_reducible replace Ta := (Ta.alloc _).drew.below bq)); (first | (with_reducible replace Td := Td.below bq) | (with_reducible replace Td := (Td.alloc _).below bq) | (with_reducible replace Td := Td.drew.below bq) | (with_reducible replace Td := (Td.alloc _).drew.below bq)); (first | (with_reducible replace Tb := Tb.below bq) | (with_reducible replace Tb := (Tb.alloc _).below bq) | (with_reducible replace Tb := Tb.drew.below bq) | (with_reducible replace Tb := (Tb.alloc _).drew.below bq)); (first | (with_reducible replace Tc := Tc.below bq) | (with_reducible replace Tc := (Tc.alloc _).below bq) | (with_reducible replace Tc := Tc.drew.below bq) | (with_reducible replace Tc := (Tc.alloc _).drew.below bq)); replace cTa0 := Ta.cells.1; replace cTa1 := Ta.cells.2; replace zTa := Ta.lt; replace cTd0 := Td.cells.1; replace cTd1 := Td.cells.2; replace zTd := Td.lt; replace cTb0 := Tb.cells.1; replace cTb1 := Tb.cells.2; replace zTb := Tb.lt; replace cTc0 := Tc.cells.1; replace cTc1 := Tc.cells.2; replace zTc := Tc.lt; (try (replace cz0 := Z.cells.1; replace cz1 := Z.cells.2.1; replace cz2 := Z.cells.2.2; replace fz0 := Z.froz.1; replace fz1 := Z.froz.2.1; replace fz2 := Z.froz.2.2; replace zz := Box3.lt Z)); clear bq) | (go_at_call 71; (with_reducible refine (Pv.out _ _ _ _ _ _ _ (by first | exact sa | exact sa.alloc _ | exact sa.drew | exact (sa.alloc _).drew) (by first | exact ss | exact ss.alloc _ | exact ss.drew | exact (ss.alloc _).drew)).mono ?_); rintro e wq ⟨av, lv, cv, rfl, sv, bq⟩; (try with_reducible replace Z := Z.below bq); (first | (with_reducible have Z := Zr.new bq; have zg := U0.size) | (with_reducible have Z := Zr.newD bq; have zg := U0.size) | skip); (first | (with_reducible replace U0 := U0.trans (bq.mono U0.size)) | (with_reducible replace U0 := (U0.alloc U0.size _).trans (bq.mono (U0.alloc U0.size _).size)) | (with_reducible replace U0 := U0.drew.trans (bq.mono U0.drew.size)) | (with_reducible replace U0 := (U0.alloc U0.size _).drew.trans (bq.mono (U0.alloc U0.size _).drew.size))); (first | (with_reducible replace sa := sa.below bq) | (with_reducible replace sa := (sa.alloc _).below bq) | (with_reducible replace sa := sa.drew.below bq) | (with_reducible replace sa := (sa.alloc _).drew.below bq)); (first | (with_reducible replace sd := sd.below bq) | (with_reducible replace sd := (sd.alloc _).below bq) | (with_reducible replace sd := sd.drew.below bq) | (with_reducible replace sd := (sd.alloc _).drew.below bq)); (first | (with_reducible replace sb := sb.below bq) | (with_reducible replace sb := (sb.alloc _).below bq) | (with_reducible replace sb := sb.drew.below bq) | (with_reducible replace sb := (sb.alloc _).drew.below bq)); (first | (with_reducible replace sc := sc.below bq) | (with_reducible replace sc := (sc.alloc _).below bq) | (with_reducible replace sc := sc.drew.below bq) | (with_reducible replace sc := (sc.alloc _).drew.below bq)); (first | (with_reducible replace Ta := Ta.below bq) | (with_reducible replace Ta := (Ta.alloc _).below bq) | (with_reducible replace Ta := Ta.drew.below bq) | (with_reducible replace Ta := (Ta.alloc _).drew.below bq)); (first | (with_reducible replace Td := Td.below bq) | (with_reducible replace Td := (Td.alloc _).below bq) | (with_reducible replace Td := Td.drew.below bq) | (with_reducible replace Td := (Td.alloc _).drew.below bq)); (first | (with_reducible replace Tb := Tb.below bq) | (with_reducible replace Tb := (Tb.alloc _).below bq) | (with_reducible replace Tb := Tb.drew.below bq) | (with_reducible replace Tb := (Tb.alloc _).drew.below bq)); (first | (with_reducible replace Tc := Tc.below bq) | (with_reducible replace Tc := (Tc.alloc _).below bq) | (with_reducible replace Tc := Tc.drew.below bq) | (with_reducible replace Tc := (Tc.alloc _).drew.below bq)); replace cTa0 := Ta.cells.1; replace cTa1 := Ta.cells.2; replace zTa := Ta.lt; replace cTd0 := Td.cells.1; replace cTd1 := Td.cells.2; replace zTd := Td.lt; replace cTb0 := Tb.cells.1; replace cTb1 := Tb.cells.2; replace zTb := Tb.lt; replace cTc0 := Tc.cells.1; replace cTc1 := Tc.cells.2; replace zTc := Tc.lt; (try (replace cz0 := Z.cells.1; replace cz1 := Z.cells.2.1; replace cz2 := Z.cells.2.2; replace fz0 := Z.froz.1; replace fz1 := Z.froz.2.1; replace fz2 := Z.froz.2.2; replace zz := Box3.lt Z)); clear bq))
    all_goals (go_wp2_with fail; go_meet; (first | exact ⟨_, av, lv, cv, rfl, Box3.new _ _ _ _ _ _, sv.alloc _, Ta.alloc _, sa.alloc _, Td.alloc _, sd.alloc _, Tb.alloc _, sb.alloc _, Tc.alloc _, sc.alloc _, U0.alloc U0.size _⟩ | exact ⟨_, av, lv, cv, rfl, Box3.set Z, sv.pair Lv.out Z _ _ _ _ _, Ta.set3 Z _ _ _, sa.pair La.out Z _ _ _ _ _, Td.set3 Z _ _ _, sd.pair Ld.out Z _ _ _ _ _, Tb.set3 Z _ _ _, sb.pair Lb.out Z _ _ _ _ _, Tc.set3 Z _ _ _, sc.pair Lc.out Z _ _ _ _ _, Below.set3 U0 zg _ _ _⟩))
  case rest =>
    obtain ⟨g, av, lv, cv, rfl, Tv, sv, Ta, sa, Td, sd, Tb, sb, Tc, sc, U0⟩ := hcut
    have cTv0 := Tv.cells.1
    have cTv1 := Tv.cells.2.1
    have cTv2 := Tv.cells.2.2
    have zTv := Tv.lt
    have cTa0 := Ta.cells.1
    have cTa1 := Ta.cells.2
    have zTa := Ta.lt
    have cTd0 := Td.cells.1
    have cTd1 := Td.cells.2
    have zTd := Td.lt
    have cTb0 := Tb.cells.1
    have cTb1 := Tb.cells.2
    have zTb := Tb.lt
    have cTc0 := Tc.cells.1
    have cTc1 := Tc.cells.2
    have zTc := Tc.lt
    go_wp2
    replace U0 := U0.drew
    replace Tv := Tv.drew
    replace sv := sv.drew
    replace Ta := Ta.drew
    replace sa := sa.drew
    replace Td := Td.drew
    replace sd := sd.drew
    replace Tb := Tb.drew
    replace sb := sb.drew
    replace Tc := Tc.drew
    replace sc := sc.drew
    replace cTv0 := Tv.cells.1
    replace cTv1 := Tv.cells.2.1
    replace cTv2 := Tv.cells.2.2
    replace zTv := Tv.lt
    replace cTa0 := Ta.cells.1
    replace cTa1 := Ta.cells.2
    replace zTa := Ta.lt
    replace cTd0 := Td.cells.1
    replace cTd1 := Td.cells.2
    replace zTd := Td.lt
    replace cTb0 := Tb.cells.1
    replace cTb1 := Tb.cells.2
    replace zTb := Tb.lt
    replace cTc0 := Tc.cells.1
    replace cTc1 := Tc.cells.2
    replace zTc := Tc.lt
    go_region_held3 (fun w' => (w'.cell? ⟨g, 0, none⟩ = some (.bool nv) ∧ w'.cell? ⟨g, 1, none⟩ = some (.slice av lv cv) ∧ w'.cell? ⟨g, 2, none⟩ = some (.int .i64 ev)) ∧ (w'.cell? ⟨w.heap.size, 0, none⟩ = some (.bool na) ∧ w'.cell? ⟨w.heap.size, 1, none⟩ = some (.slice aa la ca)) ∧ (w'.cell? ⟨w.heap.size + 1 + 1, 0, none⟩ = some (.bool false) ∧ w'.cell? ⟨w.heap.size + 1 + 1, 1, none⟩ = some (.slice ab lb cb)) ∧ (w'.cell? ⟨w.heap.size + 1 + 1 + 1, 0, none⟩ = some (.bool false) ∧ w'.cell? ⟨w.heap.size + 1 + 1 + 1, 1, none⟩ = some (.slice ac lc cc)) ∧ (w'.cell? ⟨w.heap.size + 1, 0, none⟩ = some (.bool nd) ∧ w'.cell? ⟨w.heap.size + 1, 1, none⟩ = some (.slice ad ld cd))) (first | with_reducible exact ⟨⟨cTv0, cTv1, cTv2⟩, ⟨cTa0, cTa1⟩, ⟨cTb0, cTb1⟩, ⟨cTc0, cTc1⟩, ⟨cTd0, cTd1⟩⟩ | exact ⟨⟨cTv0, cTv1, cTv2⟩, ⟨cTa0, cTa1⟩, ⟨cTb0, cTb1⟩, ⟨cTc0, cTc1⟩, ⟨cTd0, cTd1⟩⟩) (first | (go_at_call 65; (with_reducible refine (lawVal_any _ _ _ _ _).mono ?_); rintro e wq ⟨rfl, bq⟩; replace U0 := U0.trans (bq.mono U0.size); replace Tv := Tv.below bq; replace sv := sv.below bq; replace Ta := Ta.below bq; replace sa := sa.below bq; replace Td := Td.below bq; replace sd := sd.below bq; replace Tb := Tb.below bq; replace sb := sb.below bq; replace Tc := Tc.below bq; replace sc := sc.below bq; replace cTv0 := Tv.cells.1; replace cTv1 := Tv.cells.2.1; replace cTv2 := Tv.cells.2.2; replace zTv := Tv.lt; replace cTa0 := Ta.cells.1; replace cTa1 := Ta.cells.2; replace zTa := Ta.lt; replace cTd0 := Td.cells.1; replace cTd1 := Td.cells.2; replace zTd := Td.lt; replace cTb0 := Tb.cells.1; replace cTb1 := Tb.cells.2; replace zTb := Tb.lt; replace cTc0 := Tc.cells.1; replace cTc1 := Tc.cells.2; replace zTc := Tc.lt; (try replace sp := sp.below bq); (try replace sq := sq.below bq); (try replace st := st.below bq); (try replace sm := sm.below bq); (try replace su := su.below bq); (try replace sr := sr.below bq); (try replace sy := sy.below bq); clear bq) | (go_at_call 71; (first | ((with_reducible refine (Pp.out _ _ _ _ _ _ _ sa sb).mono ?_); rintro e wq ⟨pp1, pp2, pp3, rfl, sp, bq⟩; replace U0 := U0.trans (bq.mono U0.size); replace Tv := Tv.below bq; replace sv := sv.below bq; replace Ta := Ta.below bq; replace sa := sa.below bq; replace Td := Td.below bq; replace sd := sd.below bq; replace Tb := Tb.below bq; replace sb := sb.below bq; replace Tc := Tc.below bq; replace sc := sc.below bq; replace cTv0 := Tv.cells.1; replace cTv1 := Tv.cells.2.1; replace cTv2 := Tv.cells.2.2; replace zTv := Tv.lt; replace cTa0 := Ta.cells.1; replace cTa1 := Ta.cells.2; replace zTa := Ta.lt; replace cTd0 := Td.cells.1; replace cTd1 := Td.cells.2; replace zTd := Td.lt; replace cTb0 := Tb.cells.1; replace cTb1 := Tb.cells.2; replace zTb := Tb.lt; replace cTc0 := Tc.cells.1; replace cTc1 := Tc.cells.2; replace zTc := Tc.lt; (try replace sq := sq.below bq); (try replace st := st.below bq); (try replace sm := sm.below bq); (try replace su := su.below bq); (try replace sr := sr.below bq); (try replace sy := sy.below bq); clear bq) | ((with_reducible refine (Pq.out _ _ _ _ _ _ _ sa sc).mono ?_); rintro e wq ⟨qq1, qq2, qq3, rfl, sq, bq⟩; replace U0 := U0.trans (bq.mono U0.size); replace Tv := Tv.below bq; replace sv := sv.below bq; replace Ta := Ta.below bq; replace sa := sa.below bq; replace Td := Td.below bq; replace sd := sd.below bq; replace Tb := Tb.below bq; replace sb := sb.below bq; replace Tc := Tc.below bq; replace sc := sc.below bq; replace cTv0 := Tv.cells.1; replace cTv1 := Tv.cells.2.1; replace cTv2 := Tv.cells.2.2; replace zTv := Tv.lt; replace cTa0 := Ta.cells.1; replace cTa1 := Ta.cells.2; replace zTa := Ta.lt; replace cTd0 := Td.cells.1; replace cTd1 := Td.cells.2; replace zTd := Td.lt; replace cTb0 := Tb.cells.1; replace cTb1 := Tb.cells.2; replace zTb := Tb.lt; replace cTc0 := Tc.cells.1; replace cTc1 := Tc.cells.2; replace zTc := Tc.lt; (try replace sp := sp.below bq); (try replace st := st.below bq); (try replace sm := sm.below bq); (try replace su := su.below bq); (try replace sr := sr.below bq); (try replace sy := sy.below bq); clear bq) | ((with_reducible refine (Pu.out _ _ _ _ _ _ _ sm sb).mono ?_); rintro e wq ⟨uu1, uu2, uu3, rfl, su, bq⟩; replace U0 := U0.trans (bq.mono U0.size); replace Tv := Tv.below bq; replace sv := sv.below bq; replace Ta := Ta.below bq; replace sa := sa.below bq; replace Td := Td.below bq; replace sd := sd.below bq; replace Tb := Tb.below bq; replace sb := sb.below bq; replace Tc := Tc.below bq; replace sc := sc.below bq; replace cTv0 := Tv.cells.1; replace cTv1 := Tv.cells.2.1; replace cTv2 := Tv.cells.2.2; replace zTv := Tv.lt; replace cTa0 := Ta.cells.1; replace cTa1 := Ta.cells.2; replace zTa := Ta.lt; replace cTd0 := Td.cells.1; replace cTd1 := Td.cells.2; replace zTd := Td.lt; replace cTb0 := Tb.cells.1; replace cTb1 := Tb.cells.2; replace zTb := Tb.lt; replace cTc0 := Tc.cells.1; replace cTc1 := Tc.cells.2; replace zTc := Tc.lt; (try replace sp := sp.below bq); (try replace sq := sq.below bq); (try replace st := st.below bq); (try replace sm := sm.below bq); (try replace sr := sr.below bq); (try replace sy := sy.below bq); clear bq) | ((with_reducible refine (Pr.out _ _ _ _ _ _ _ sd sb).mono ?_); rintro e wq ⟨rr1, rr2, rr3, rfl, sr, bq⟩; replace U0 := U0.trans (bq.mono U0.size); replace Tv := Tv.below bq; replace sv := sv.below bq; replace Ta := Ta.below bq; replace sa := sa.below bq; replace Td := Td.below bq; replace sd := sd.below bq; replace Tb := Tb.below bq; replace sb := sb.below bq; replace Tc := Tc.below bq; replace sc := sc.below bq; replace cTv0 := Tv.cells.1; replace cTv1 := Tv.cells.2.1; replace cTv2 := Tv.cells.2.2; replace zTv := Tv.lt; replace cTa0 := Ta.cells.1; replace cTa1 := Ta.cells.2; replace zTa := Ta.lt; replace cTd0 := Td.cells.1; replace cTd1 := Td.cells.2; replace zTd := Td.lt; replace cTb0 := Tb.cells.1; replace cTb1 := Tb.cells.2; replace zTb := Tb.lt; replace cTc0 := Tc.cells.1; replace cTc1 := Tc.cells.2; replace zTc := Tc.lt; (try replace sp := sp.below bq); (try replace sq := sq.below bq); (try replace st := st.below bq); (try replace sm := sm.below bq); (try replace su := su.below bq); (try replace sy := sy.below bq); clear bq))) | (go_at_call 68; (first | ((with_reducible refine (Tt.out _ _ _ _ _ _ _ sp sq).mono ?_); rintro e wq ⟨tt1, tt2, tt3, rfl, st, bq⟩; replace U0 := U0.trans (bq.mono U0.size); replace Tv := Tv.below bq; replace sv := sv.below bq; replace Ta := Ta.below bq; replace sa := sa.below bq; replace Td := Td.below bq; replace sd := sd.below bq; replace Tb := Tb.below bq; replace sb := sb.below bq; replace Tc := Tc.below bq; replace sc := sc.below bq; replace cTv0 := Tv.cells.1; replace cTv1 := Tv.cells.2.1; replace cTv2 := Tv.cells.2.2; replace zTv := Tv.lt; replace cTa0 := Ta.cells.1; replace cTa1 := Ta.cells.2; replace zTa := Ta.lt; replace cTd0 := Td.cells.1; replace cTd1 := Td.cells.2; replace zTd := Td.lt; replace cTb0 := Tb.cells.1; replace cTb1 := Tb.cells.2; replace zTb := Tb.lt; replace cTc0 := Tc.cells.1; replace cTc1 := Tc.cells.2; replace zTc := Tc.lt; (try replace sp := sp.below bq); (try replace sq := sq.below bq); (try replace sm := sm.below bq); (try replace su := su.below bq); (try replace sr := sr.below bq); (try replace sy := sy.below bq); clear bq) | ((with_reducible refine (Tm.out _ _ _ _ _ _ _ sa sd).mono ?_); rintro e wq ⟨mm1, mm2, mm3, rfl, sm, bq⟩; replace U0 := U0.trans (bq.mono U0.size); replace Tv := Tv.below bq; replace sv := sv.below bq; replace Ta := Ta.below bq; replace sa := sa.below bq; replace Td := Td.below bq; replace sd := sd.below bq; replace Tb := Tb.below bq; replace sb := sb.below bq; replace Tc := Tc.below bq; replace sc := sc.below bq; replace cTv0 := Tv.cells.1; replace cTv1 := Tv.cells.2.1; replace cTv2 := Tv.cells.2.2; replace zTv := Tv.lt; replace cTa0 := Ta.cells.1; replace cTa1 := Ta.cells.2; replace zTa := Ta.lt; replace cTd0 := Td.cells.1; replace cTd1 := Td.cells.2; replace zTd := Td.lt; replace cTb0 := Tb.cells.1; replace cTb1 := Tb.cells.2; replace zTb := Tb.lt; replace cTc0 := Tc.cells.1; replace cTc1 := Tc.cells.2; replace zTc := Tc.lt; (try replace sp := sp.below bq); (try replace sq := sq.below bq); (try replace st := st.below bq); (try replace su := su.below bq); (try replace sr := sr.below bq); (try replace sy := sy.below bq); clear bq) | ((with_reducible refine (Ty.out _ _ _ _ _ _ _ sp sr).mono ?_); rintro e wq ⟨yy1, yy2, yy3, rfl, sy, bq⟩; replace U0 := U0.trans (bq.mono U0.size); replace Tv := Tv.below bq; replace sv := sv.below bq; replace Ta := Ta.below bq; replace sa := sa.below bq; replace Td := Td.below bq; replace sd := sd.below bq; replace Tb := Tb.below bq; replace sb := sb.below bq; replace Tc := Tc.below bq; replace sc := sc.below bq; replace cTv0 := Tv.cells.1; replace cTv1 := Tv.cells.2.1; replace cTv2 := Tv.cells.2.2; replace zTv := Tv.lt; replace cTa0 := Ta.cells.1; replace cTa1 := Ta.cells.2; replace zTa := Ta.lt; replace cTd0 := Td.cells.1; replace cTd1 := Td.cells.2; replace zTd := Td.lt; replace cTb0 := Tb.cells.1; replace cTb1 := Tb.cells.2; replace zTb := Tb.lt; replace cTc0 := Tc.cells.1; replace cTc1 := Tc.cells.2; replace zTc := Tc.lt; (try replace sp := sp.below bq); (try replace sq := sq.below bq); (try replace st := st.below bq); (try replace sm := sm.below bq); (try replace su := su.below bq); (try replace sr := sr.below bq); clear bq))) | (go_at_call 66; (first | ((with_reducible refine (A1.out _ _ _ _ _ _ _ sv st).mono ?_); rintro e wq ⟨rfl, bq⟩; clear st sp sq; replace U0 := U0.trans (bq.mono U0.size); replace Tv := Tv.below bq; replace sv := sv.below bq; replace Ta := Ta.below bq; replace sa := sa.below bq; replace Td := Td.below bq; replace sd := sd.below bq; replace Tb := Tb.below bq; replace sb := sb.below bq; replace Tc := Tc.below bq; replace sc := sc.below bq; replace cTv0 := Tv.cells.1; replace cTv1 := Tv.cells.2.1; replace cTv2 := Tv.cells.2.2; replace zTv := Tv.lt; replace cTa0 := Ta.cells.1; replace cTa1 := Ta.cells.2; replace zTa := Ta.lt; replace cTd0 := Td.cells.1; replace cTd1 := Td.cells.2; replace zTd := Td.lt; replace cTb0 := Tb.cells.1; replace cTb1 := Tb.cells.2; replace zTb := Tb.lt; replace cTc0 := Tc.cells.1; replace cTc1 := Tc.cells.2; replace zTc := Tc.lt; clear bq) | ((with_reducible refine (A2.out _ _ _ _ _ _ _ su sy).mono ?_); rintro e wq ⟨rfl, bq⟩; clear su sy sp sr sm; replace U0 := U0.trans (bq.mono U0.size); replace Tv := Tv.below bq; replace sv := sv.below bq; replace Ta := Ta.below bq; replace sa := sa.below bq; replace Td := Td.below bq; replace sd := sd.below bq; replace Tb := Tb.below bq; replace sb := sb.below bq; replace Tc := Tc.below bq; replace sc := sc.below bq; replace cTv0 := Tv.cells.1; replace cTv1 := Tv.cells.2.1; replace cTv2 := Tv.cells.2.2; replace zTv := Tv.lt; replace cTa0 := Ta.cells.1; replace cTa1 := Ta.cells.2; replace zTa := Ta.lt; replace cTd0 := Td.cells.1; replace cTd1 := Td.cells.2; replace zTd := Td.lt; replace cTb0 := Tb.cells.1; replace cTb1 := Tb.cells.2; replace zTb := Tb.lt; replace cTc0 := Tc.cells.1; replace cTc1 := Tc.cells.2; replace zTc := Tc.lt; clear bq))))
    go_wp2_with fail
    (with_reducible refine (lawVal_any _ _ _ _ _).mono ?_)
    rintro e w1 ⟨rfl, b1⟩
    replace U0 := U0.trans (b1.mono U0.size)
    replace Tv := Tv.below b1
    replace sv := sv.below b1
    replace Ta := Ta.below b1
    replace sa := sa.below b1
    replace Td := Td.below b1
    replace sd := sd.below b1
    replace Tb := Tb.below b1
    replace sb := sb.below b1
    replace Tc := Tc.below b1
    replace sc := sc.below b1
    replace cTv0 := Tv.cells.1
    replace cTv1 := Tv.cells.2.1
    replace cTv2 := Tv.cells.2.2
    replace zTv := Tv.lt
    replace cTa0 := Ta.cells.1
    replace cTa1 := Ta.cells.2
    replace zTa := Ta.lt
    replace cTd0 := Td.cells.1
    replace cTd1 := Td.cells.2
    replace zTd := Td.lt
    replace cTb0 := Tb.cells.1
    replace cTb1 := Tb.cells.2
    replace zTb := Tb.lt
    replace cTc0 := Tc.cells.1
    replace cTc1 := Tc.cells.2
    replace zTc := Tc.lt
    clear b1
    go_wp2_with fail
    (with_reducible refine (O1.out _).mono ?_)
    rintro e w2 ⟨a1, l1, c1, rfl, s1, b2⟩
    replace U0 := U0.trans (b2.mono U0.size)
    replace Tv := Tv.below b2
    replace sv := sv.below b2
    replace Ta := Ta.below b2
    replace sa := sa.below b2
    replace Td := Td.below b2
    replace sd := sd.below b2
    replace Tb := Tb.below b2
    replace sb := sb.below b2
    replace Tc := Tc.below b2
    replace sc := sc.below b2
    replace cTv0 := Tv.cells.1
    replace cTv1 := Tv.cells.2.1
    replace cTv2 := Tv.cells.2.2
    replace zTv := Tv.lt
    replace cTa0 := Ta.cells.1
    replace cTa1 := Ta.cells.2
    replace zTa := Ta.lt
    replace cTd0 := Td.cells.1
    replace cTd1 := Td.cells.2
    replace zTd := Td.lt
    replace cTb0 := Tb.cells.1
    replace cTb1 := Tb.cells.2
    replace zTb := Tb.lt
    replace cTc0 := Tc.cells.1
    replace cTc1 := Tc.cells.2
    replace zTc := Tc.lt
    clear b2
    go_wp2_with fail
    (with_reducible refine (lawVal_any _ _ _ _ _).mono ?_)
    rintro e w3 ⟨rfl, b3⟩
    replace U0 := U0.trans (b3.mono U0.size)
    replace Tv := Tv.below b3
    replace sv := sv.below b3
    replace Ta := Ta.below b3
    replace sa := sa.below b3
    replace Td := Td.below b3
    replace sd := sd.below b3
    replace Tb := Tb.below b3
    replace sb := sb.below b3
    replace Tc := Tc.below b3
    replace sc := sc.below b3
    replace s1 := s1.below b3
    replace cTv0 := Tv.cells.1
    replace cTv1 := Tv.cells.2.1
    replace cTv2 := Tv.cells.2.2
    replace zTv := Tv.lt
    replace cTa0 := Ta.cells.1
    replace cTa1 := Ta.cells.2
    replace zTa := Ta.lt
    replace cTd0 := Td.cells.1
    replace cTd1 := Td.cells.2
    replace zTd := Td.lt
    replace cTb0 := Tb.cells.1
    replace cTb1 := Tb.cells.2
    replace zTb := Tb.lt
    replace cTc0 := Tc.cells.1
    replace cTc1 := Tc.cells.2
    replace zTc := Tc.lt
    clear b3
    go_wp2_with fail
    (with_reducible refine (Po.out _ _ _ _ _ _ _ (by exact sa) (by exact s1)).mono ?_)
    rintro e w4 ⟨ao, lo, co, rfl, so, b4⟩
    replace U0 := U0.trans (b4.mono U0.size)
    replace Tv := Tv.below b4
    replace sv := sv.below b4
    replace Ta := Ta.below b4
    replace sa := sa.below b4
    replace Td := Td.below b4
    replace sd := sd.below b4
    replace Tb := Tb.below b4
    replace sb := sb.below b4
    replace Tc := Tc.below b4
    replace sc := sc.below b4
    replace s1 := s1.below b4
    replace cTv0 := Tv.cells.1
    replace cTv1 := Tv.cells.2.1
    replace cTv2 := Tv.cells.2.2
    replace zTv := Tv.lt
    replace cTa0 := Ta.cells.1
    replace cTa1 := Ta.cells.2
    replace zTa := Ta.lt
    replace cTd0 := Td.cells.1
    replace cTd1 := Td.cells.2
    replace zTd := Td.lt
    replace cTb0 := Tb.cells.1
    replace cTb1 := Tb.cells.2
    replace zTb := Tb.lt
    replace cTc0 := Tc.cells.1
    replace cTc1 := Tc.cells.2
    replace zTc := Tc.lt
    clear b4
    go_wp2
    replace U0 := U0.alloc U0.size (.cells #[.bool na, .slice ao lo co, .int .i64 0] 38)
    replace Tv := Tv.alloc (.cells #[.bool na, .slice ao lo co, .int .i64 0] 38)
    replace sv := sv.alloc (.cells #[.bool na, .slice ao lo co, .int .i64 0] 38)
    replace Ta := Ta.alloc (.cells #[.bool na, .slice ao lo co, .int .i64 0] 38)
    replace sa := sa.alloc (.cells #[.bool na, .slice ao lo co, .int .i64 0] 38)
    replace Td := Td.alloc (.cells #[.bool na, .slice ao lo co, .int .i64 0] 38)
    replace sd := sd.alloc (.cells #[.bool na, .slice ao lo co, .int .i64 0] 38)
    replace Tb := Tb.alloc (.cells #[.bool na, .slice ao lo co, .int .i64 0] 38)
    replace sb := sb.alloc (.cells #[.bool na, .slice ao lo co, .int .i64 0] 38)
    replace Tc := Tc.alloc (.cells #[.bool na, .slice ao lo co, .int .i64 0] 38)
    replace sc := sc.alloc (.cells #[.bool na, .slice ao lo co, .int .i64 0] 38)
    replace s1 := s1.alloc (.cells #[.bool na, .slice ao lo co, .int .i64 0] 38)
    replace so := so.alloc (.cells #[.bool na, .slice ao lo co, .int .i64 0] 38)
    replace cTv0 := Tv.cells.1
    replace cTv1 := Tv.cells.2.1
    replace cTv2 := Tv.cells.2.2
    replace zTv := Tv.lt
    replace cTa0 := Ta.cells.1
    replace cTa1 := Ta.cells.2
    replace zTa := Ta.lt
    replace cTd0 := Td.cells.1
    replace cTd1 := Td.cells.2
    replace zTd := Td.lt
    replace cTb0 := Tb.cells.1
    replace cTb1 := Tb.cells.2
    replace zTb := Tb.lt
    replace cTc0 := Tc.cells.1
    replace cTc1 := Tc.cells.2
    replace zTc := Tc.lt
    have To := Box3.at w4 (w4.heap.size) (by first | rfl | simp) na ao lo co 0
    have cTo0 := To.cells.1
    have cTo1 := To.cells.2.1
    have cTo2 := To.cells.2.2
    have zTo := To.lt
    replace U0 := U0.drew
    replace Tv := Tv.drew
    replace sv := sv.drew
    replace Ta := Ta.drew
    replace sa := sa.drew
    replace Td := Td.drew
    replace sd := sd.drew
    replace Tb := Tb.drew
    replace sb := sb.drew
    replace Tc := Tc.drew
    replace sc := sc.drew
    replace s1 := s1.drew
    replace so := so.drew
    replace To := To.drew
    replace cTv0 := Tv.cells.1
    replace cTv1 := Tv.cells.2.1
    replace cTv2 := Tv.cells.2.2
    replace zTv := Tv.lt
    replace cTa0 := Ta.cells.1
    replace cTa1 := Ta.cells.2
    replace zTa := Ta.lt
    replace cTd0 := Td.cells.1
    replace cTd1 := Td.cells.2
    replace zTd := Td.lt
    replace cTb0 := Tb.cells.1
    replace cTb1 := Tb.cells.2
    replace zTb := Tb.lt
    replace cTc0 := Tc.cells.1
    replace cTc1 := Tc.cells.2
    replace zTc := Tc.lt
    replace cTo0 := To.cells.1
    replace cTo1 := To.cells.2.1
    replace cTo2 := To.cells.2.2
    replace zTo := To.lt
    go_region_held3 (fun w' => (w'.cell? ⟨w4.heap.size, 0, none⟩ = some (.bool na) ∧ w'.cell? ⟨w4.heap.size, 1, none⟩ = some (.slice ao lo co) ∧ w'.cell? ⟨w4.heap.size, 2, none⟩ = some (.int .i64 0)) ∧ (w'.cell? ⟨w.heap.size, 0, none⟩ = some (.bool na) ∧ w'.cell? ⟨w.heap.size, 1, none⟩ = some (.slice aa la ca))) (first | with_reducible exact ⟨⟨cTo0, cTo1, cTo2⟩, ⟨cTa0, cTa1⟩⟩ | exact ⟨⟨cTo0, cTo1, cTo2⟩, ⟨cTa0, cTa1⟩⟩) (first | (go_at_call 65; (with_reducible refine (lawVal_any _ _ _ _ _).mono ?_); rintro e wq ⟨rfl, bq⟩; replace U0 := U0.trans (bq.mono U0.size); replace Tv := Tv.below bq; replace sv := sv.below bq; replace Ta := Ta.below bq; replace sa := sa.below bq; replace Td := Td.below bq; replace sd := sd.below bq; replace Tb := Tb.below bq; replace sb := sb.below bq; replace Tc := Tc.below bq; replace sc := sc.below bq; replace s1 := s1.below bq; replace so := so.below bq; replace To := To.below bq; replace cTv0 := Tv.cells.1; replace cTv1 := Tv.cells.2.1; replace cTv2 := Tv.cells.2.2; replace zTv := Tv.lt; replace cTa0 := Ta.cells.1; replace cTa1 := Ta.cells.2; replace zTa := Ta.lt; replace cTd0 := Td.cells.1; replace cTd1 := Td.cells.2; replace zTd := Td.lt; replace cTb0 := Tb.cells.1; replace cTb1 := Tb.cells.2; replace zTb := Tb.lt; replace cTc0 := Tc.cells.1; replace cTc1 := Tc.cells.2; replace zTc := Tc.lt; replace cTo0 := To.cells.1; replace cTo1 := To.cells.2.1; replace cTo2 := To.cells.2.2; replace zTo := To.lt; (try replace sk := sk.below bq); (try replace sj := sj.below bq); (try replace s0 := s0.below bq); clear bq) | (go_at_call 69; (first | ((with_reducible refine (O0.out _).mono ?_); rintro e wq ⟨a0, l0, c0, rfl, s0, bq⟩; replace U0 := U0.trans (bq.mono U0.size); replace Tv := Tv.below bq; replace sv := sv.below bq; replace Ta := Ta.below bq; replace sa := sa.below bq; replace Td := Td.below bq; replace sd := sd.below bq; replace Tb := Tb.below bq; replace sb := sb.below bq; replace Tc := Tc.below bq; replace sc := sc.below bq; replace s1 := s1.below bq; replace so := so.below bq; replace To := To.below bq; replace cTv0 := Tv.cells.1; replace cTv1 := Tv.cells.2.1; replace cTv2 := Tv.cells.2.2; replace zTv := Tv.lt; replace cTa0 := Ta.cells.1; replace cTa1 := Ta.cells.2; replace zTa := Ta.lt; replace cTd0 := Td.cells.1; replace cTd1 := Td.cells.2; replace zTd := Td.lt; replace cTb0 := Tb.cells.1; replace cTb1 := Tb.cells.2; replace zTb := Tb.lt; replace cTc0 := Tc.cells.1; replace cTc1 := Tc.cells.2; replace zTc := Tc.lt; replace cTo0 := To.cells.1; replace cTo1 := To.cells.2.1; replace cTo2 := To.cells.2.2; replace zTo := To.lt; clear bq) | ((with_reducible refine (O1.out _).mono ?_); rintro e wq ⟨aj, lj, cj, rfl, sj, bq⟩; replace U0 := U0.trans (bq.mono U0.size); replace Tv := Tv.below bq; replace sv := sv.below bq; replace Ta := Ta.below bq; replace sa := sa.below bq; replace Td := Td.below bq; replace sd := sd.below bq; replace Tb := Tb.below bq; replace sb := sb.below bq; replace Tc := Tc.below bq; replace sc := sc.below bq; replace s1 := s1.below bq; replace so := so.below bq; replace To := To.below bq; replace cTv0 := Tv.cells.1; replace cTv1 := Tv.cells.2.1; replace cTv2 := Tv.cells.2.2; replace zTv := Tv.lt; replace cTa0 := Ta.cells.1; replace cTa1 := Ta.cells.2; replace zTa := Ta.lt; replace cTd0 := Td.cells.1; replace cTd1 := Td.cells.2; replace zTd := Td.lt; replace cTb0 := Tb.cells.1; replace cTb1 := Tb.cells.2; replace zTb := Tb.lt; replace cTc0 := Tc.cells.1; replace cTc1 := Tc.cells.2; replace zTc := Tc.lt; replace cTo0 := To.cells.1; replace cTo1 := To.cells.2.1; replace cTo2 := To.cells.2.2; replace zTo := To.lt; (try replace sk := sk.below bq); clear bq))) | (go_at_call 71; (with_reducible refine (Pz.out _ _ _ _ _ _ _ sa s0).mono ?_); rintro e wq ⟨ak, lk, ck, rfl, sk, bq⟩; clear s0; replace U0 := U0.trans (bq.mono U0.size); replace Tv := Tv.below bq; replace sv := sv.below bq; replace Ta := Ta.below bq; replace sa := sa.below bq; replace Td := Td.below bq; replace sd := sd.below bq; replace Tb := Tb.below bq; replace sb := sb.below bq; replace Tc := Tc.below bq; replace sc := sc.below bq; replace s1 := s1.below bq; replace so := so.below bq; replace To := To.below bq; replace cTv0 := Tv.cells.1; replace cTv1 := Tv.cells.2.1; replace cTv2 := Tv.cells.2.2; replace zTv := Tv.lt; replace cTa0 := Ta.cells.1; replace cTa1 := Ta.cells.2; replace zTa := Ta.lt; replace cTd0 := Td.cells.1; replace cTd1 := Td.cells.2; replace zTd := Td.lt; replace cTb0 := Tb.cells.1; replace cTb1 := Tb.cells.2; replace zTb := Tb.lt; replace cTc0 := Tc.cells.1; replace cTc1 := Tc.cells.2; replace zTc := Tc.lt; replace cTo0 := To.cells.1; replace cTo1 := To.cells.2.1; replace cTo2 := To.cells.2.2; replace zTo := To.lt; clear bq) | (go_at_call 27; (first | ((with_reducible refine (Sa.out _ _ _ _ _ _ _ so sa).mono ?_); rintro e wq ⟨rfl, bq⟩; replace U0 := U0.trans (bq.mono U0.size); replace Tv := Tv.below bq; replace sv := sv.below bq; replace Ta := Ta.below bq; replace sa := sa.below bq; replace Td := Td.below bq; replace sd := sd.below bq; replace Tb := Tb.below bq; replace sb := sb.below bq; replace Tc := Tc.below bq; replace sc := sc.below bq; replace s1 := s1.below bq; replace so := so.below bq; replace To := To.below bq; replace cTv0 := Tv.cells.1; replace cTv1 := Tv.cells.2.1; replace cTv2 := Tv.cells.2.2; replace zTv := Tv.lt; replace cTa0 := Ta.cells.1; replace cTa1 := Ta.cells.2; replace zTa := Ta.lt; replace cTd0 := Td.cells.1; replace cTd1 := Td.cells.2; replace zTd := Td.lt; replace cTb0 := Tb.cells.1; replace cTb1 := Tb.cells.2; replace zTb := Tb.lt; replace cTc0 := Tc.cells.1; replace cTc1 := Tc.cells.2; replace zTc := Tc.lt; replace cTo0 := To.cells.1; replace cTo1 := To.cells.2.1; replace cTo2 := To.cells.2.2; replace zTo := To.lt; clear bq) | ((with_reducible refine (S1.out _ _ _ _ _ _ _ sk sj).mono ?_); rintro e wq ⟨rfl, bq⟩; replace U0 := U0.trans (bq.mono U0.size); replace Tv := Tv.below bq; replace sv := sv.below bq; replace Ta := Ta.below bq; replace sa := sa.below bq; replace Td := Td.below bq; replace sd := sd.below bq; replace Tb := Tb.below bq; replace sb := sb.below bq; replace Tc := Tc.below bq; replace sc := sc.below bq; replace s1 := s1.below bq; replace so := so.below bq; replace To := To.below bq; replace cTv0 := Tv.cells.1; replace cTv1 := Tv.cells.2.1; replace cTv2 := Tv.cells.2.2; replace zTv := Tv.lt; replace cTa0 := Ta.cells.1; replace cTa1 := Ta.cells.2; replace zTa := Ta.lt; replace cTd0 := Td.cells.1; replace cTd1 := Td.cells.2; replace zTd := Td.lt; replace cTb0 := Tb.cells.1; replace cTb1 := Tb.cells.2; replace zTb := Tb.lt; replace cTc0 := Tc.cells.1; replace cTc1 := Tc.cells.2; replace zTc := Tc.lt; replace cTo0 := To.cells.1; replace cTo1 := To.cells.2.1; replace cTo2 := To.cells.2.2; replace zTo := To.lt; clear bq))))
    all_goals go_wp2
    all_goals go_ret
    all_goals exact ⟨rfl, U0⟩

theorem numPowers_any (na : Bool) (aa : Option Addr) (la ca : Nat) (xa : List Int) (nd : Bool) (ad : Option Addr) (ld cd : Nat) (xd : List Int) (nb : Bool) (ab : Option Addr) (lb cb : Nat) (xb : List Int) (nc : Bool) (ac : Option Addr) (lc cc : Nat) (xc : List Int) (w : World) (ht : Tab w) (sa : Sl w aa la ca xa) (sd : Sl w ad ld cd xd) (sb : Sl w ab lb cb xb) (sc : Sl w ac lc cc xc) : Calls Tryz.prog 10 #[.agg #[.bool na, .slice aa la ca], .agg #[.bool nd, .slice ad ld cd], .agg #[.bool nb, .slice ab lb cb], .agg #[.bool nc, .slice ac lc cc]] w (RetBool true w) := by
  cases hr : (!(wrong ⟨na, aa, la, ca, xa⟩ || (wrong ⟨nb, ab, lb, cb, xb⟩ || (wrong ⟨nc, ac, lc, cc, xc⟩ || wrong ⟨nd, ad, ld, cd, xd⟩))))
  · exact powers_wrong na aa la ca xa nd ad ld cd xd nb ab lb cb xb nc ac lc cc xc w ht sa sd sb sc hr
  · have h := hr
    simp only [Bool.not_eq_true', Bool.or_eq_false_iff] at h
    obtain ⟨a, Na⟩ := wrong_no sa h.1
    obtain ⟨b, Nb⟩ := wrong_no sb h.2.1
    obtain ⟨c, Nc⟩ := wrong_no sc h.2.2.1
    obtain ⟨d, Nd⟩ := wrong_no sd h.2.2.2
    cases hnb : nb
    · cases hnc : nc
      · subst hnb; subst hnc
        exact powers_right na aa la ca xa nd ad ld cd xd false ab lb cb xb false ac lc cc xc w ht sa sd sb sc a b c d Na Nb Nc Nd (by have := Nb.2.1; simp at this; omega) (by have := Nc.2.1; simp at this; omega) rfl rfl hr
      · subst hnb; subst hnc
        exact powers_negc na aa la ca xa nd ad ld cd xd false ab lb cb xb true ac lc cc xc w ht sa sd sb sc hr rfl rfl
    · subst hnb
      exact powers_negb na aa la ca xa nd ad ld cd xd true ab lb cb xb nc ac lc cc xc w ht sa sd sb sc hr rfl
end Go.Proofs.YtkcjjdiklodofaaGreatDoor

/- NumPowers: for every input the law answers true, and each argument reads afterwards as it read before. Condition: the table of the powers of ten lies as the program's text lays it (tied by the card). -/
namespace Go.Proofs.YtkcjjdiklodofaaGreatDoor.lawNumPowers
open Go.ChangeShapes Go.WideShapes Go.ChangeAt Go.RowKit

theorem door_met (os : Os) (args : Array Value) : laidMetH Tryz.prog Rows.numPowersRow.laid ((World.doorLaid Tryz.prog 24 os).forCall (fun _ _ => 0) ⟨#[], args, []⟩).memory :=
  laidMetH_of_parts3 (fuel := 8) (laidMet_of_run' 8 (by kernel_rfl) (by kernel_rfl)) (by kernel_rfl) (by kernel_rfl)

set_option maxRecDepth 100000 in
theorem lifted (os : Os) (started : os.Started) (H : Type) (enc : TypeId × Value → H) :
    ReturnsInHanded {} Tryz.checked os 10 .any (fun w args => (Rows.numPowersSpec.pre enc Tryz.prog Tryz.f10 [] false w args ∧ laidMetH Tryz.prog Rows.numPowersRow.laid w) ∧ sizedMet enc Tryz.prog Tryz.f10 (OpenSpec.ofChange Rows.numPowersSpec) false w args)
      (Rows.numPowersSpec.post enc Tryz.prog Tryz.f10 false true false false) := by
  refine returnsInHanded_of_change_and (C := Tryz.checked) (X := fun w _ => laidMetH Tryz.prog Rows.numPowersRow.laid w) (fun _ _ _ hh h => h.of_heap hh) lift_own started (by kernel_rfl) Tryz.func10
    (ChangeSpec.witness_shaped (enc := enc) (C := Tryz.checked) (os := os) (X := fun w _ => laidMetH Tryz.prog Rows.numPowersRow.laid w) false (World.doorLaid Tryz.prog 24 os) #[.agg #[.bool false, .slice none 0 0], .agg #[.bool false, .slice none 0 0], .agg #[.bool false, .slice none 0 0], .agg #[.bool false, .slice none 0 0]] 8 rfl (World.shaped_of_RefB (by kernel_rfl) (by kernel_rfl)) (by kernel_rfl) (by kernel_rfl) (by kernel_rfl) (door_met os _)) ?_
  intro W base args ds gs before hval0 hW _ _ hL _
  have hval : ∀ (j : Nat) t v, Tryz.f10.params[j]? = some t → args[j]? = some v → Value.okWide Tryz.prog W .any base t v := hval0
  have hW' := hW
  obtain ⟨p, q, hA0, hV, rfl, hfz, hnd⟩ := hW
  have hA : DataW.TrodAll enc Tryz.prog W 0 (fun _ => true) true Tryz.f10.params.toList args.toList ds p := hA0
  rw [Tryz.params10] at hA hval
  clear hA0 hval0
  obtain ⟨v0, vs0, d0, ds0, p0, q0, hargs, rfl, rfl, h0, r0⟩ := trodAll_cons hA
  obtain ⟨v1, vs1, d1, ds1, p1, q1, rfl, rfl, rfl, h1, r1⟩ := trodAll_cons r0
  obtain ⟨v2, vs2, d2, ds2, p2, q2, rfl, rfl, rfl, h2, r2⟩ := trodAll_cons r1
  obtain ⟨v3, vs3, d3, ds3, p3, q3, rfl, rfl, rfl, h3, r3⟩ := trodAll_cons r2
  obtain ⟨rfl, rfl, rfl⟩ := trodAll_nil r3
  obtain rfl : args = #[v0, v1, v2, v3] := by cases args; simp_all
  obtain ⟨rfl, rfl⟩ := trodVars_none hV
  obtain ⟨n0, ao0, len0, cap0, xs0, rfl, s0⟩ := open_I (hval 0 24 v0 rfl rfl) h0
  obtain ⟨n1, ao1, len1, cap1, xs1, rfl, s1⟩ := open_I (hval 1 24 v1 rfl rfl) h1
  obtain ⟨n2, ao2, len2, cap2, xs2, rfl, s2⟩ := open_I (hval 2 24 v2 rfl rfl) h2
  obtain ⟨n3, ao3, len3, cap3, xs3, rfl, s3⟩ := open_I (hval 3 24 v3 rfl rfl) h3
  simp only [List.append_nil] at hW'
  refine (numPowers_any n0 ao0 len0 cap0 xs0 n1 ao1 len1 cap1 xs1 n2 ao2 len2 cap2 xs2 n3 ao3 len3 cap3 xs3 W (lift_tab hL) s0 s1 s2 s3).mono fun e W' ⟨he, hg⟩ => ?_
  subst he
  have hlt : ∀ x ∈ p0 ++ (p1 ++ (p2 ++ (p3))), x.block < W.heap.size := fun x hx => hW'.lt x hx
  have in0 : ∀ x ∈ p0, x ∈ p0 ++ (p1 ++ (p2 ++ (p3))) := fun x hx => by simp [hx]
  have in1 : ∀ x ∈ p1, x ∈ p0 ++ (p1 ++ (p2 ++ (p3))) := fun x hx => by simp [hx]
  have in2 : ∀ x ∈ p2, x ∈ p0 ++ (p1 ++ (p2 ++ (p3))) := fun x hx => by simp [hx]
  have in3 : ∀ x ∈ p3, x ∈ p0 ++ (p1 ++ (p2 ++ (p3))) := fun x hx => by simp [hx]
  exact ⟨_, rfl, post_of_below (pv := []) hW' (fun _ _ _ => (trodAll_cons_mk (shut_bool Tryz.underlying4 _) trodAll_mk0)) (fun sp hsp => (trodAll_cons_mk (again_I h0 hg (fun x hx => hlt x (in0 x hx)) (fun x hx => hsp x (in0 x hx))) (trodAll_cons_mk (again_I h1 hg (fun x hx => hlt x (in1 x hx)) (fun x hx => hsp x (in1 x hx))) (trodAll_cons_mk (again_I h2 hg (fun x hx => hlt x (in2 x hx)) (fun x hx => hsp x (in2 x hx))) (trodAll_cons_mk (again_I h3 hg (fun x hx => hlt x (in3 x hx)) (fun x hx => hsp x (in3 x hx))) trodAll_mk0))))) (fun _ _ => rfl) (by simp)
    hg (ok_one (by kernel_rfl) rfl (okWide_bool_mk Tryz.underlying4 _))⟩

theorem over : Rows.numPowersRow.holds Tryz.pinned (OpenSpec.ofChange Rows.numPowersSpec) :=
  OpenClaim.holds_of_wide 10 Tryz.f10 rfl rfl rfl rfl rfl rfl rfl ⟨rfl, rfl, rfl, rfl, rfl⟩ rfl rfl rfl rfl rfl (by kernel_rfl) Tryz.func10 (by kernel_rfl)
    (of_decide_eq_true (by kernel_rfl)) (by unfold Func.isWrapper; first | (rw [if_pos (by decide +kernel)]; kernel_rfl) | (rw [if_neg (by decide +kernel)]; exact ⟨rfl, rfl⟩))
    (fun os started H enc _ => lifted os started H enc)

theorem plain (f : FuncId) (fn : Func) (hf : Tryz.pinned.checked.prog.funcNamed "foregone/foregonelaw01.NumPowers" = some f) (hfn : Tryz.pinned.checked.prog.funcs[f]? = some fn) :
    false = Tryz.pinned.checked.prog.looks [] ∧ ∀ (j : Nat) t, fn.params[j]? = some t → Tryz.pinned.checked.prog.wantsStandIn t = false := by
  obtain rfl : f = 10 := Option.some.inj ((show Tryz.prog.funcNamed "foregone/foregonelaw01.NumPowers" = some 10 by kernel_rfl).symm.trans hf) |>.symm
  obtain rfl : fn = Tryz.f10 := (Option.some.inj (Tryz.func10.symm.trans hfn)).symm
  refine ⟨by kernel_rfl, fun j t ht => ?_⟩
  rw [Tryz.params10] at ht
  have hm : t ∈ [24] := by simpa using Array.mem_of_getElem? ht
  have hall : ([24].all fun u => !Tryz.prog.wantsStandIn u) = true := by kernel_rfl
  exact (show Tryz.prog.wantsStandIn t = false by simpa using List.all_eq_true.1 hall t hm)

theorem card : Rows.NumPowersCardSaid :=
  Claim7.holds_tied_plain_at .later [] _ _ _ _ over (fun _ h => by cases h) (by kernel_rfl) (fun _ h => by cases h) numPowers_row_tie rfl ⟨rfl, rfl⟩ (by kernel_rfl) rfl plain (by kernel_rfl)
end Go.Proofs.YtkcjjdiklodofaaGreatDoor.lawNumPowers

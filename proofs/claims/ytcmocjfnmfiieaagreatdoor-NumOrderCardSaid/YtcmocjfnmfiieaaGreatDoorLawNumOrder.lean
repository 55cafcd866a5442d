/- NumOrder: for every input the law answers true, and each argument reads afterwards as it read before. Condition: the table of the powers of ten lies as the program's text lays it (tied by the card). -/
import Derived.Orders
import Derived.RegionTactic
import Derived.Deep.RegionHeld
import Derived.WalkKit
import Derived.Test.YtcmocjfnmfiieaaGreatDoorProg
import Derived.Deep.DeepCutAuto
import Derived.Test.YtcmocjfnmfiieaaGreatDoorK8
set_option linter.all false

/- The closure of NumPowers; right at four data. -/
namespace Go.Proofs.YtcmocjfnmfiieaaGreatDoor
open Go.RowKit

def powerR (p q : Int × Int) : Int × Int := if p.2 = 0 ∧ q.2 = 0 then fitR (p.1 ^ q.1.natAbs) else (0, 2)

set_option maxHeartbeats 1000000 in
theorem lawPower_ok (n1 : Bool) (ax : Option Addr) (la ca : Nat) (xs : List Int) (n2 : Bool) (ay : Option Addr) (lb cb : Nat) (ys : List Int) (n3 : Bool) (zs : List Int) (e3 : Int) (hzl : zs.getLast? ≠ some 0) (w : World) (hx : Sl w ax la ca xs) (hy : Sl w ay lb cb ys)
    (hc : ∀ w, Sl w ax la ca xs → Sl w ay lb cb ys → Calls Tryz.prog 54 #[.agg #[.bool n1, .slice ax la ca], .agg #[.bool n2, .slice ay lb cb]] w (RetPE n3 zs e3 w)) :
    Calls Tryz.prog 71 #[.agg #[.bool n1, .slice ax la ca, .int .i64 0], .agg #[.bool n2, .slice ay lb cb, .int .i64 0]] w (RetQ n3 zs e3 w) := by
  have Hc := Lib.hid hc
  have Hzl := Lib.hid hzl
  clear hc hzl
  go_enter Tryz.func71, Tryz.ntmps71
  go_wp2_with fail
  (with_reducible refine (Hc.out _ (by exact ((hx.alloc _).alloc _).alloc _) (by exact ((hy.alloc _).alloc _).alloc _)).mono ?_)
  rintro e w1 ⟨a1, l1, c1, rfl, s1, b1⟩
  obtain ⟨_, _, hC, hz, hbb⟩ := kept3 _ _ _ _ b1
  clear b1
  go_wp2_with fail
  (with_reducible refine (got_any _ _ _ _ _ _).mono ?_)
  rintro e w2 ⟨rfl, b2⟩
  have hC2 : Box3 w2 (w.heap.size + 1 + 1) false none 0 0 0 := (b2.block _ (Array.getElem?_eq_some_iff.1 hC).1).trans hC
  obtain ⟨f0, f1, f2⟩ := hC2.cells
  obtain ⟨g0, g1, g2⟩ := hC2.froz
  have hsz := hC2.lt
  have s2 := s1.below b2
  have hb2 := hbb.trans (b2.mono hbb.size)
  have HC := Lib.hid hC2
  clear hC hC2 b2 hbb s1
  go_wp2
  refine bodyPost_ret (v := .agg #[.bool n3, .slice a1 l1 c1, .int .i64 e3]) (by simp [results, Tryz.results71, go_sem, f0, f1, f2]) rfl ?_
  refine ⟨a1, l1, c1, rfl, ?_, ((hb2.setCell (by simp; omega) _).setCell (by simp; omega) _).setCell (by simp; omega) _⟩
  exact s2.pair Hzl.out HC.out _ _ _ _ _

set_option maxHeartbeats 1000000 in
theorem lawPower_bad (n1 : Bool) (ax : Option Addr) (la ca : Nat) (e1 : Int) (n2 : Bool) (ay : Option Addr) (lb cb : Nat) (e2 : Int) (w : World) (h : ¬ (e1 = 0 ∧ e2 = 0)) :
    Calls Tryz.prog 71 #[.agg #[.bool n1, .slice ax la ca, .int .i64 e1], .agg #[.bool n2, .slice ay lb cb, .int .i64 e2]] w (RetQ false [] 2 w) := by
  have hb : ∀ o p q : Obj, Below w.heap.size w (((w.alloc o).alloc p).alloc q) := fun o p q => below3 w o p q
  by_cases h1 : e1 = 0
  · have h2 : e2 ≠ 0 := fun h' => h ⟨h1, h'⟩
    subst h1
    have hq : (e2 != 0) = true := by simpa using h2
    clear h h2
    go_enter Tryz.func71, Tryz.ntmps71
    go_wp2
    refine bodyPost_ret (v := .agg #[.bool false, .slice none 0 0, .int .i64 2]) (by simp [results, Tryz.results71, go_sem]) rfl ?_
    exact ⟨_, _, _, rfl, Sl.nil _, hb _ _ _⟩
  · have hq : (e1 != 0) = true := by simpa using h1
    clear h h1
    go_enter Tryz.func71, Tryz.ntmps71
    go_wp2
    refine bodyPost_ret (v := .agg #[.bool false, .slice none 0 0, .int .i64 2]) (by simp [results, Tryz.results71, go_sem]) rfl ?_
    exact ⟨_, _, _, rfl, Sl.nil _, hb _ _ _⟩

theorem lawPower_any {x y z e1 e2 e3 : Int} {n1 n2 n3 : Bool} {xs ys zs : List Int} (hx : Num x n1 xs) (hy : Num y n2 ys) (hz : Num z n3 zs) (hy0 : e2 = 0 → 0 ≤ y) (he : powerR (x, e1) (y, e2) = (z, e3)) (ax : Option Addr) (la ca : Nat) (ay : Option Addr) (lb cb : Nat) (w : World) (sx : Sl w ax la ca xs) (sy : Sl w ay lb cb ys) :
    Calls Tryz.prog 71 #[.agg #[.bool n1, .slice ax la ca, .int .i64 e1], .agg #[.bool n2, .slice ay lb cb, .int .i64 e2]] w (RetQ n3 zs e3 w) := by
  obtain ⟨h1, rfl, rfl⟩ := hx
  obtain ⟨h2, rfl, rfl⟩ := hy
  obtain ⟨_, rfl, rfl⟩ := hz
  unfold powerR at he
  by_cases h : e1 = 0 ∧ e2 = 0
  · rw [if_pos h] at he
    obtain ⟨rfl, rfl⟩ := h
    refine lawPower_ok _ ax la ca _ _ ay lb cb _ _ _ _ (parts_last _) w sx sy fun w sx sy => ((Pow_ok x y h1 h2 (hy0 rfl) ax la ca ay lb cb w sx sy).mono fun _ _ h => ?_)
    have := h.fit
    rw [he] at this
    exact this
  · rw [if_neg h] at he
    cases he
    have := lawPower_bad (decide (x < 0)) ax la ca e1 (decide (y < 0)) ay lb cb e2 w h
    rw [show decide ((0 : Int) < 0) = false from rfl, show (0 : Int).natAbs = 0 from rfl, parts_zero]
    exact this

theorem right4 (n1 : Bool) (a1 : Option Addr) (l1 c1 : Nat) (x1 : List Int) (n2 : Bool) (a2 : Option Addr) (l2 c2 : Nat) (x2 : List Int) (n3 : Bool) (a3 : Option Addr) (l3 c3 : Nat) (x3 : List Int) (n4 : Bool) (a4 : Option Addr) (l4 c4 : Nat) (x4 : List Int) (w : World) (g : Nat) (hg : w.heap[g]? = some (.cells #[.bool n1, .slice a1 l1 c1, .bool n2, .slice a2 l2 c2, .bool n3, .slice a3 l3 c3, .bool n4, .slice a4 l4 c4] 24 (0, 0)))
    (h1 : Sl w a1 l1 c1 x1) (h2 : Sl w a2 l2 c2 x2) (h3 : Sl w a3 l3 c3 x3) (h4 : Sl w a4 l4 c4 x4) (r : Bool) (hr : (!(wrong ⟨n1, a1, l1, c1, x1⟩ || (wrong ⟨n2, a2, l2, c2, x2⟩ || (wrong ⟨n3, a3, l3, c3, x3⟩ || wrong ⟨n4, a4, l4, c4, x4⟩)))) = r) :
    Calls Tryz.prog 64 #[.slice (some ⟨g, 0, none⟩) 4 4] w (RetBool r w) := by
  have := right_any g [⟨n1, a1, l1, c1, x1⟩, ⟨n2, a2, l2, c2, x2⟩, ⟨n3, a3, l3, c3, x3⟩, ⟨n4, a4, l4, c4, x4⟩] w hg (by
    intro d hd
    simp only [List.mem_cons, List.not_mem_nil, or_false] at hd
    rcases hd with rfl | rfl | rfl | rfl
    · exact h1
    · exact h2
    · exact h3
    · exact h4) (by simp)
  rw [show List.any [(⟨n1, a1, l1, c1, x1⟩ : Dat), ⟨n2, a2, l2, c2, x2⟩, ⟨n3, a3, l3, c3, x3⟩, ⟨n4, a4, l4, c4, x4⟩] wrong = (wrong ⟨n1, a1, l1, c1, x1⟩ || (wrong ⟨n2, a2, l2, c2, x2⟩ || (wrong ⟨n3, a3, l3, c3, x3⟩ || wrong ⟨n4, a4, l4, c4, x4⟩))) by simp, hr] at this
  exact this

/-! What results mean, where there are any. -/
theorem fitR_zero {z v : Int} (h : fitR z = (v, 0)) : v = z := by
  by_cases hl : Lim z
  · rw [fitR_ok hl] at h; cases h; rfl
  · rw [fitR_no hl] at h; cases h
theorem sumR_lim (p q : Int × Int) : Lim (sumR p q).1 := by
  unfold sumR; split
  · exact fitR_lim _
  · exact Lim.zero
theorem timesR_lim (p q : Int × Int) : Lim (timesR p q).1 := by
  unfold timesR; split
  · exact fitR_lim _
  · exact Lim.zero
theorem powerR_lim (p q : Int × Int) : Lim (powerR p q).1 := by
  unfold powerR; split
  · exact fitR_lim _
  · exact Lim.zero
theorem sumR_zero {x e1 y e2 v : Int} (h : sumR (x, e1) (y, e2) = (v, 0)) : e1 = 0 ∧ e2 = 0 ∧ v = x + y := by
  unfold sumR at h; split at h
  · rename_i hh; exact ⟨hh.1, hh.2, fitR_zero h⟩
  · cases h
theorem timesR_zero {x e1 y e2 v : Int} (h : timesR (x, e1) (y, e2) = (v, 0)) : e1 = 0 ∧ e2 = 0 ∧ v = x * y := by
  unfold timesR at h; split at h
  · rename_i hh; exact ⟨hh.1, hh.2, fitR_zero h⟩
  · cases h
theorem powerR_zero {x e1 y e2 v : Int} (h : powerR (x, e1) (y, e2) = (v, 0)) : e1 = 0 ∧ e2 = 0 ∧ v = x ^ y.natAbs := by
  unfold powerR at h; split at h
  · rename_i hh; exact ⟨hh.1, hh.2, fitR_zero h⟩
  · cases h
end Go.Proofs.YtcmocjfnmfiieaaGreatDoor

/- A pair's box that a drawn region makes: what a store into it leaves as it was. -/
namespace Go.Proofs.YtcmocjfnmfiieaaGreatDoor
open Go.RowKit

/-- Block g holds the zero pair: just made. -/
def Zr (w : World) (g : Nat) : Prop := w.heap[g]? = some (.cells #[.bool false, .slice none 0 0, .int .i64 0] 38 (0, 0))
theorem Zr.cells {w : World} {g : Nat} (h : Zr w g) : w.cell? ⟨g, 0, none⟩ = some (.bool false) ∧ w.cell? ⟨g, 1, none⟩ = some (.slice none 0 0) ∧ w.cell? ⟨g, 2, none⟩ = some (.int .i64 0) := Box3.cells h
theorem Zr.froz {w : World} {g : Nat} (h : Zr w g) : w.frozen? ⟨g, 0, none⟩ = false ∧ w.frozen? ⟨g, 1, none⟩ = false ∧ w.frozen? ⟨g, 2, none⟩ = false := Box3.froz h
theorem Zr.below {w w' : World} {g : Nat} (h : Zr w g) (hb : Below w.heap.size w w') : Zr w' g := Box3.below h hb
theorem Zr.alloc {w : World} {g : Nat} (h : Zr w g) (o : Obj) : Zr (w.alloc o) g := h.below ((Below.refl _ _).alloc (Nat.le_refl _) o)
theorem Zr.new {w w' : World} (hb : Below (w.alloc (.cells #[.bool false, .slice none 0 0, .int .i64 0] 38)).heap.size (w.alloc (.cells #[.bool false, .slice none 0 0, .int .i64 0] 38)) w') : Zr w' w.heap.size := (kept1 _ _ hb).1
theorem Zr.newD {w w' : World} (hb : Below (w.alloc (.cells #[.bool false, .slice none 0 0, .int .i64 0] 38)).drew.heap.size (w.alloc (.cells #[.bool false, .slice none 0 0, .int .i64 0] 38)).drew w') : Zr w' w.heap.size := (kept1 _ _ (Below.undrew hb)).1
theorem Zr.newA {w w' : World} {o : Obj} (hb : Below ((w.alloc o).alloc (.cells #[.bool false, .slice none 0 0, .int .i64 0] 38)).heap.size ((w.alloc o).alloc (.cells #[.bool false, .slice none 0 0, .int .i64 0] 38)) w') : Zr w' (w.heap.size + 1) := (kept2 _ _ _ hb).2.1
theorem Zr.newAD {w w' : World} {o : Obj} (hb : Below ((w.alloc o).alloc (.cells #[.bool false, .slice none 0 0, .int .i64 0] 38)).drew.heap.size ((w.alloc o).alloc (.cells #[.bool false, .slice none 0 0, .int .i64 0] 38)).drew w') : Zr w' (w.heap.size + 1) := Zr.newA (Below.undrew hb)
theorem alloc_le {B : Nat} {w : World} {o : Obj} (h : B ≤ (w.alloc o).heap.size) : B ≤ w.heap.size + 1 := by simpa using h
theorem BoxI.ne {w : World} {a g : Nat} {n : Bool} {ao : Option Addr} {l c : Nat} (h : BoxI w a n ao l c) (z : Zr w g) : a ≠ g := by
  rintro rfl
  have e := h.symm.trans z
  injection e with e
  injection e with e
  have := congrArg Array.size e
  simp at this
theorem heap_set3 {w : World} {a g : Nat} (h : a ≠ g) (u v x : Value) : (((w.setCell ⟨g, 0, none⟩ u).setCell ⟨g, 1, none⟩ v).setCell ⟨g, 2, none⟩ x).heap[a]? = w.heap[a]? := by
  rw [Below.heap_setCell _ _ _ _ h, Below.heap_setCell _ _ _ _ h, Below.heap_setCell _ _ _ _ h]
theorem BoxI.set3 {w : World} {a g : Nat} {n : Bool} {ao : Option Addr} {l c : Nat} (h : BoxI w a n ao l c) (z : Zr w g) (u v x : Value) : BoxI (((w.setCell ⟨g, 0, none⟩ u).setCell ⟨g, 1, none⟩ v).setCell ⟨g, 2, none⟩ x) a n ao l c :=
  (heap_set3 (h.ne z) u v x).trans h
theorem Below.set3 {B : Nat} {a w : World} (h : Below B a w) {g : Nat} (hg : B ≤ g) (u v x : Value) : Below B a (((w.setCell ⟨g, 0, none⟩ u).setCell ⟨g, 1, none⟩ v).setCell ⟨g, 2, none⟩ x) :=
  ((h.setCell hg u).setCell hg v).setCell hg x
/-- The law's same at a pair and itself. -/
theorem pairSelfQ {z : Int} {n : Bool} {xs : List Int} (hz : Num z n xs) (er : Int) (ax : Option Addr) (la ca : Nat) (ay : Option Addr) (lb cb : Nat) (w : World) (hx : Sl w ax la ca xs) (hy : Sl w ay lb cb xs) :
    Calls Tryz.prog 27 #[.agg #[.bool n, .slice ax la ca, .int .i64 er], .agg #[.bool n, .slice ay lb cb, .int .i64 er]] w (RetBool true w) := by
  obtain ⟨_, rfl, rfl⟩ := hz
  have h := lawSame_any (decide (z < 0)) ax la ca (parts z.natAbs) er (decide (z < 0)) ay lb cb (parts z.natAbs) er w hx hy
  rwa [sameI_num, show (decide (er = er) && decide (z = z)) = true by simp] at h
theorem Num.last {z : Int} {n : Bool} {xs : List Int} (h : Num z n xs) : xs.getLast? ≠ some 0 := by
  rw [h.2.2]; exact parts_last _
end Go.Proofs.YtcmocjfnmfiieaaGreatDoor

/- Neg. -/
namespace Go.Proofs.YtcmocjfnmfiieaaGreatDoor
open Go.RowKit

set_option maxHeartbeats 1000000 in
theorem Neg_bad (neg : Bool) (ao : Option Addr) (len cap : Nat) (xs : List Int) (w : World) (hs : Sl w ao len cap xs) (hno : okInt neg xs = false) :
    Calls Tryz.prog 42 #[.agg #[.bool neg, .slice ao len cap]] w (RetE 0 10 w) := by
  have hch := fun w (h : Sl w ao len cap xs) => check_any neg ao len cap xs w h
  rw [hno] at hch
  have Hch := Lib.hid hch
  clear hch hno
  go_enter Tryz.func42, Tryz.ntmps42
  go_wp2_with fail
  refine (Hch.out _ ((hs.alloc _).alloc _)).mono ?_
  rintro e w1 ⟨rfl, hb⟩
  obtain ⟨hA, hR, hz, hbb⟩ := kept2 _ _ _ hb
  obtain ⟨f1, f2, f3, f4, f5⟩ := box2 hR
  clear hA hR hb
  simp only [errOf]
  go_wp2
  refine bodyPost_ret (v := .tuple #[.agg #[.bool false, .slice none 0 0], .int .i64 10]) (by simp [results, Tryz.results42, go_sem, f1, f2]) rfl ?_
  exact ⟨none, 0, 0, rfl, by simp only [Int.natAbs_zero]; rw [parts_zero]; exact Sl.nil _, (hbb.setCell (by simp) _).setCell (by simp) _⟩

set_option maxHeartbeats 1000000 in
theorem Neg_ok (x : Int) (hl : Lim x) (ao : Option Addr) (len cap : Nat) (w : World) (hs : Sl w ao len cap (parts x.natAbs)) :
    Calls Tryz.prog 42 #[.agg #[.bool (decide (x < 0)), .slice ao len cap]] w (RetE (-x) 0 w) := by
  have hok : okInt (decide (x < 0)) (parts x.natAbs) = true := (okInt_iff _ _).2 ⟨x, hl, rfl, rfl⟩
  have hlen : len ≤ 40 := by have := hs.length; unfold Lim at hl; omega
  have hch := fun w (h : Sl w ao len cap (parts x.natAbs)) => check_any (decide (x < 0)) ao len cap (parts x.natAbs) w h
  rw [hok] at hch
  have hop := fun w h => opp_any x ao len cap w h (by omega)
  generalize hsx : decide (x < 0) = sx at *
  generalize hsz : decide (-x < 0) = sz at *
  have Hsz := Lib.hid hsz
  have Hch := Lib.hid hch
  have Hop := Lib.hid hop
  clear hch hok hop hsx hsz hl
  go_enter Tryz.func42, Tryz.ntmps42
  go_wp2_with fail
  refine (Hch.out _ ((hs.alloc _).alloc _)).mono ?_
  rintro e w1 ⟨rfl, hb⟩
  have hs1 := ((hs.alloc _).alloc _).below hb
  obtain ⟨hA, hR, hz, hbb⟩ := kept2 _ _ _ hb
  obtain ⟨k1, k2, k3, k4, k5⟩ := box2 hA
  have HR := Lib.hid hR
  clear hA hR hb
  simp only [errOf]
  go_wp2_with fail
  refine (Hop.out _ (by exact hs1)).mono ?_
  rintro e w2 ⟨ao2, len2, cap2, rfl, hs2, hb2⟩
  rw [Hsz.out]
  obtain ⟨f1, f2, f3, f4, f5⟩ := box2 (w := w2) (g := w.heap.size + 1) (by rw [hb2.block _ (by first | omega | (simp; omega))]; exact HR.out)
  go_wp2
  refine bodyPost_ret (v := .tuple #[.agg #[.bool sz, .slice ao2 len2 cap2], .int .i64 0]) (by simp [results, Tryz.results42, go_sem, f1, f2]) rfl ?_
  exact ⟨ao2, len2, cap2, by rw [Hsz.out], hs2.store2 f1 f2 _ _, (((hbb.trans (hb2.mono (by omega))).setCell (by simp) _).setCell (by simp) _)⟩
end Go.Proofs.YtcmocjfnmfiieaaGreatDoor

/- Fractions: Cross at named numbers, right at seven data, and what NumFractions leans on of integers. -/
namespace Go.Proofs.YtcmocjfnmfiieaaGreatDoor
open Go.RowKit

theorem crossQ {x y z u v : Int} {n1 n2 n3 n4 : Bool} {x1 x2 x3 x4 : List Int} (hx : Num x n1 x1) (hy : Num y n2 x2) (hz : Num z n3 x3) (hu : Num u n4 x4) (py : 0 < y) (pu : 0 < u) (hv : cmp3 (x * u) (z * y) = v)
    (a1 : Option Addr) (l1 c1 : Nat) (a2 : Option Addr) (l2 c2 : Nat) (a3 : Option Addr) (l3 c3 : Nat) (a4 : Option Addr) (l4 c4 : Nat) (w : World) (h1 : Sl w a1 l1 c1 x1) (h2 : Sl w a2 l2 c2 x2) (h3 : Sl w a3 l3 c3 x3) (h4 : Sl w a4 l4 c4 x4) :
    Calls Tryz.prog 58 #[.agg #[.bool n1, .slice a1 l1 c1], .agg #[.bool n2, .slice a2 l2 c2], .agg #[.bool n3, .slice a3 l3 c3], .agg #[.bool n4, .slice a4 l4 c4]] w (RetII v 0 w) := by
  obtain ⟨k1, rfl, rfl⟩ := hx
  obtain ⟨k2, rfl, rfl⟩ := hy
  obtain ⟨k3, rfl, rfl⟩ := hz
  obtain ⟨k4, rfl, rfl⟩ := hu
  subst hv
  exact cross_ok x y z u k1 k2 k3 k4 a1 l1 c1 a2 l2 c2 a3 l3 c3 a4 l4 c4 w h1 h2 h3 h4 py pu
theorem right7 (n1 : Bool) (a1 : Option Addr) (l1 c1 : Nat) (x1 : List Int) (n2 : Bool) (a2 : Option Addr) (l2 c2 : Nat) (x2 : List Int) (n3 : Bool) (a3 : Option Addr) (l3 c3 : Nat) (x3 : List Int) (n4 : Bool) (a4 : Option Addr) (l4 c4 : Nat) (x4 : List Int) (n5 : Bool) (a5 : Option Addr) (l5 c5 : Nat) (x5 : List Int) (n6 : Bool) (a6 : Option Addr) (l6 c6 : Nat) (x6 : List Int) (n7 : Bool) (a7 : Option Addr) (l7 c7 : Nat) (x7 : List Int) (w : World) (g : Nat)
    (hg : w.heap[g]? = some (.cells #[.bool n1, .slice a1 l1 c1, .bool n2, .slice a2 l2 c2, .bool n3, .slice a3 l3 c3, .bool n4, .slice a4 l4 c4, .bool n5, .slice a5 l5 c5, .bool n6, .slice a6 l6 c6, .bool n7, .slice a7 l7 c7] 24 (0, 0)))
    (h1 : Sl w a1 l1 c1 x1) (h2 : Sl w a2 l2 c2 x2) (h3 : Sl w a3 l3 c3 x3) (h4 : Sl w a4 l4 c4 x4) (h5 : Sl w a5 l5 c5 x5) (h6 : Sl w a6 l6 c6 x6) (h7 : Sl w a7 l7 c7 x7) (r : Bool)
    (hr : (!(wrong ⟨n1, a1, l1, c1, x1⟩ || (wrong ⟨n2, a2, l2, c2, x2⟩ || (wrong ⟨n3, a3, l3, c3, x3⟩ || (wrong ⟨n4, a4, l4, c4, x4⟩ || (wrong ⟨n5, a5, l5, c5, x5⟩ || (wrong ⟨n6, a6, l6, c6, x6⟩ || wrong ⟨n7, a7, l7, c7, x7⟩))))))) = r) :
    Calls Tryz.prog 64 #[.slice (some ⟨g, 0, none⟩) 7 7] w (RetBool r w) := by
  have := right_any g [⟨n1, a1, l1, c1, x1⟩, ⟨n2, a2, l2, c2, x2⟩, ⟨n3, a3, l3, c3, x3⟩, ⟨n4, a4, l4, c4, x4⟩, ⟨n5, a5, l5, c5, x5⟩, ⟨n6, a6, l6, c6, x6⟩, ⟨n7, a7, l7, c7, x7⟩] w hg (by
    intro d hd
    simp only [List.mem_cons, List.not_mem_nil, or_false] at hd
    rcases hd with rfl | rfl | rfl | rfl | rfl | rfl | rfl
    · exact h1
    · exact h2
    · exact h3
    · exact h4
    · exact h5
    · exact h6
    · exact h7) (by simp)
  rw [show List.any [(⟨n1, a1, l1, c1, x1⟩ : Dat), ⟨n2, a2, l2, c2, x2⟩, ⟨n3, a3, l3, c3, x3⟩, ⟨n4, a4, l4, c4, x4⟩, ⟨n5, a5, l5, c5, x5⟩, ⟨n6, a6, l6, c6, x6⟩, ⟨n7, a7, l7, c7, x7⟩] wrong = (wrong ⟨n1, a1, l1, c1, x1⟩ || (wrong ⟨n2, a2, l2, c2, x2⟩ || (wrong ⟨n3, a3, l3, c3, x3⟩ || (wrong ⟨n4, a4, l4, c4, x4⟩ || (wrong ⟨n5, a5, l5, c5, x5⟩ || (wrong ⟨n6, a6, l6, c6, x6⟩ || wrong ⟨n7, a7, l7, c7, x7⟩)))))) by simp, hr] at this
  exact this

theorem cmp3_cases {x y v : Int} (h : cmp3 x y = v) : (v = -1 ∧ x < y) ∨ (v = 0 ∧ x = y) ∨ (v = 1 ∧ y < x) := by
  unfold cmp3 at h
  by_cases h1 : x < y
  · rw [if_pos h1] at h; exact .inl ⟨h.symm, h1⟩
  · rw [if_neg h1] at h
    by_cases h2 : x = y
    · rw [if_pos h2] at h; exact .inr (.inl ⟨h.symm, h2⟩)
    · rw [if_neg h2] at h; exact .inr (.inr ⟨h.symm, by omega⟩)
theorem cmp3_lt {x y : Int} (h : x < y) : cmp3 x y = -1 := if_pos h
theorem cmp3_gt {x y : Int} (h : y < x) : cmp3 x y = 1 := by unfold cmp3; rw [if_neg (by omega), if_neg (by omega)]
theorem pos_of {z v : Int} (h : cmp3 z 0 = v) (hq : decide (v ≤ 0) = false) : 0 < z := by
  have := of_decide_eq_false hq
  rcases cmp3_cases h with ⟨h1, h2⟩ | ⟨h1, h2⟩ | ⟨h1, h2⟩ <;> omega
theorem pos_sign {z v : Int} (h : cmp3 z 0 = v) (hq : 0 < v) : 0 < z := by
  rcases cmp3_cases h with ⟨h1, h2⟩ | ⟨h1, h2⟩ | ⟨h1, h2⟩ <;> omega
theorem frac_order {a b c d e f x y z v : Int} (pb : 0 < b) (pd : 0 < d) (pf : 0 < f) (hx : cmp3 (a * d) (c * b) = x) (hy : cmp3 (c * b) (a * d) = y) (hz : cmp3 (c * f) (e * d) = z) (hv : cmp3 (a * f) (e * b) = v) :
    (x = -1 ∨ x = 0 ∨ x = 1) ∧ y = -x ∧ (x ≤ 0 → z ≤ 0 → v ≤ 0) := by
  refine ⟨?_, ?_, fun h1 h2 => ?_⟩
  · rcases cmp3_cases hx with ⟨h1, _⟩ | ⟨h1, _⟩ | ⟨h1, _⟩ <;> simp [h1]
  · rcases cmp3_cases hx with ⟨h1, h2⟩ | ⟨h1, h2⟩ | ⟨h1, h2⟩ <;> rcases cmp3_cases hy with ⟨h3, h4⟩ | ⟨h3, h4⟩ | ⟨h3, h4⟩ <;> omega
  · have k1 : a * d ≤ c * b := by rcases cmp3_cases hx with ⟨h3, h4⟩ | ⟨h3, h4⟩ | ⟨h3, h4⟩ <;> omega
    have k2 : c * f ≤ e * d := by rcases cmp3_cases hz with ⟨h3, h4⟩ | ⟨h3, h4⟩ | ⟨h3, h4⟩ <;> omega
    have k3 : a * d * f ≤ c * b * f := Int.mul_le_mul_of_nonneg_right k1 (by omega)
    have k4 : c * f * b ≤ e * d * b := Int.mul_le_mul_of_nonneg_right k2 (by omega)
    have k5 : (a * f) * d ≤ (e * b) * d := by
      have e1 : a * d * f = (a * f) * d := by ac_rfl
      have e2 : c * b * f = c * f * b := by ac_rfl
      have e3 : e * d * b = (e * b) * d := by ac_rfl
      rw [e1, e2] at k3; rw [e3] at k4; omega
    have k6 : a * f ≤ e * b := Int.le_of_mul_le_mul_right k5 pd
    rcases cmp3_cases hv with ⟨h3, h4⟩ | ⟨h3, h4⟩ | ⟨h3, h4⟩ <;> omega
theorem frac_pos {a b k p q ep eq : Int} (pb : 0 < b) (hp : timesR (a, 0) (k, 0) = (p, ep)) (hq : timesR (b, 0) (k, 0) = (q, eq)) (h : ep = 0 ∧ eq = 0 ∧ 0 < k) : 0 < q := by
  have _ := hp
  obtain ⟨_, rfl, hk⟩ := h
  obtain ⟨_, _, rfl⟩ := timesR_zero hq
  exact Int.mul_pos pb hk
theorem cmp3_scale {x y k v : Int} (hk : 0 < k) (h : cmp3 x y = v) : cmp3 (x * k) (y * k) = v := by
  rcases cmp3_cases h with ⟨rfl, h2⟩ | ⟨rfl, h2⟩ | ⟨rfl, h2⟩
  · exact cmp3_lt (Int.mul_lt_mul_of_pos_right h2 hk)
  · rw [h2]; exact cmp3_self _
  · exact cmp3_gt (Int.mul_lt_mul_of_pos_right h2 hk)
theorem frac_more {a b c d k p q ep eq x : Int} (pb : 0 < b) (pd : 0 < d) (hp : timesR (a, 0) (k, 0) = (p, ep)) (hq : timesR (b, 0) (k, 0) = (q, eq)) (h : ep = 0 ∧ eq = 0 ∧ 0 < k) (hx : cmp3 (a * d) (c * b) = x) : cmp3 (p * d) (c * q) = x := by
  have _ := pb; have _ := pd
  obtain ⟨rfl, rfl, hk⟩ := h
  obtain ⟨_, _, rfl⟩ := timesR_zero hp
  obtain ⟨_, _, rfl⟩ := timesR_zero hq
  rw [show a * k * d = a * d * k by ac_rfl, show c * (b * k) = c * b * k by ac_rfl]
  exact cmp3_scale hk hx
theorem flq_pos (a : Int) {b : Int} (pb : 0 < b) : flq a b * b ≤ a ∧ a < (flq a b + 1) * b := by
  unfold flq; rw [if_pos pb]
  have h1 := Int.mul_ediv_add_emod a b
  have h2 := Int.emod_nonneg a (by omega : b ≠ 0)
  have h3 := Int.emod_lt_of_pos a pb
  have h4 : b * (a / b) = a / b * b := Int.mul_comm _ _
  rw [Int.add_mul]
  omega
theorem quo_num {a b : Int} {n : Bool} {xs : List Int} (ha : Num a n xs) (pb : 0 < b) : ∃ m ys, Num (flq a b) m ys := by
  refine ⟨_, _, lim_mono ?_ ha.1, rfl, rfl⟩
  obtain ⟨h1, h2⟩ := flq_pos a pb
  generalize flq a b = q at *
  rcases Int.lt_or_le q 0 with h | h
  · have h3 : (q + 1) * b ≤ q + 1 := by
      have : (q + 1) * b ≤ (q + 1) * 1 := Int.mul_le_mul_of_nonpos_left (by omega) (by omega)
      omega
    omega
  · have h3 : q ≤ q * b := by
      have : q * 1 ≤ q * b := Int.mul_le_mul_of_nonneg_left (by omega) h
      omega
    omega
theorem frac_quo {a b c d x m : Int} (pb : 0 < b) (pd : 0 < d) (hx : cmp3 (a * d) (c * b) = x) (hm : cmp3 (flq a b) (flq c d) = m) : m ≠ 0 → m = x := by
  intro h0
  obtain ⟨h1, h2⟩ := flq_pos a pb
  obtain ⟨h3, h4⟩ := flq_pos c pd
  generalize flq a b = q at *
  generalize flq c d = r at *
  have key : ∀ {a b c d q r : Int}, 0 < b → 0 < d → a < (q + 1) * b → r * d ≤ c → q < r → a * d < c * b := by
    intro a b c d q r pb pd h2 h3 h
    have k1 : a * d < (q + 1) * b * d := Int.mul_lt_mul_of_pos_right h2 pd
    have k2 : r * d * b ≤ c * b := Int.mul_le_mul_of_nonneg_right h3 (by omega)
    have k3 : (q + 1) * (b * d) ≤ r * (b * d) := Int.mul_le_mul_of_nonneg_right (by omega) (Int.le_of_lt (Int.mul_pos pb pd))
    have e1 : (q + 1) * b * d = (q + 1) * (b * d) := Int.mul_assoc _ _ _
    have e2 : r * d * b = r * (b * d) := by ac_rfl
    rw [e1] at k1; rw [e2] at k2
    omega
  rcases cmp3_cases hm with ⟨rfl, h⟩ | ⟨rfl, h⟩ | ⟨rfl, h⟩
  · rw [← hx]; exact (cmp3_lt (key pb pd h2 h3 h)).symm
  · exact absurd rfl h0
  · rw [← hx]; exact (cmp3_gt (key pd pb h4 h1 h)).symm
end Go.Proofs.YtcmocjfnmfiieaaGreatDoor

/- What NumRing leans on of integers and of the laws' helpers. -/
namespace Go.Proofs.YtcmocjfnmfiieaaGreatDoor
open Go.RowKit

theorem sumR_comm {x y v e : Int} (h : sumR (x, 0) (y, 0) = (v, e)) : sumR (y, 0) (x, 0) = (v, e) := by
  unfold sumR at *; rw [if_pos ⟨rfl, rfl⟩] at *; rw [← h]; simp only [Int.add_comm]
theorem timesR_comm {x y v e : Int} (h : timesR (x, 0) (y, 0) = (v, e)) : timesR (y, 0) (x, 0) = (v, e) := by
  unfold timesR at *; rw [if_pos ⟨rfl, rfl⟩] at *; rw [← h]; simp only [Int.mul_comm]
theorem sum_assoc {a b c v1 e1 v3 e3 v4 e4 v5 e5 : Int} (h1 : sumR (a, 0) (b, 0) = (v1, e1)) (h3 : sumR (v1, e1) (c, 0) = (v3, e3)) (h4 : sumR (b, 0) (c, 0) = (v4, e4)) (h5 : sumR (a, 0) (v4, e4) = (v5, e5)) : e3 ≠ 0 ∨ e5 ≠ 0 ∨ v3 = v5 := by
  by_cases k3 : e3 = 0
  · by_cases k5 : e5 = 0
    · subst k3; subst k5
      obtain ⟨rfl, _, rfl⟩ := sumR_zero h3
      obtain ⟨_, rfl, rfl⟩ := sumR_zero h5
      obtain ⟨_, _, rfl⟩ := sumR_zero h1
      obtain ⟨_, _, rfl⟩ := sumR_zero h4
      exact .inr (.inr (Int.add_assoc _ _ _))
    · exact .inr (.inl k5)
  · exact .inl k3
theorem times_assoc {a b c v1 e1 v3 e3 v4 e4 v5 e5 : Int} (h1 : timesR (a, 0) (b, 0) = (v1, e1)) (h3 : timesR (v1, e1) (c, 0) = (v3, e3)) (h4 : timesR (b, 0) (c, 0) = (v4, e4)) (h5 : timesR (a, 0) (v4, e4) = (v5, e5)) : e3 ≠ 0 ∨ e5 ≠ 0 ∨ v3 = v5 := by
  by_cases k3 : e3 = 0
  · by_cases k5 : e5 = 0
    · subst k3; subst k5
      obtain ⟨rfl, _, rfl⟩ := timesR_zero h3
      obtain ⟨_, rfl, rfl⟩ := timesR_zero h5
      obtain ⟨_, _, rfl⟩ := timesR_zero h1
      obtain ⟨_, _, rfl⟩ := timesR_zero h4
      exact .inr (.inr (Int.mul_assoc _ _ _))
    · exact .inr (.inl k5)
  · exact .inl k3
theorem times_sum {a b c v4 e4 v9 e9 v2 e2 v10 e10 v11 e11 : Int} (h4 : sumR (b, 0) (c, 0) = (v4, e4)) (h9 : timesR (a, 0) (v4, e4) = (v9, e9)) (h2 : timesR (a, 0) (b, 0) = (v2, e2)) (h10 : timesR (a, 0) (c, 0) = (v10, e10)) (h11 : sumR (v2, e2) (v10, e10) = (v11, e11)) : e9 ≠ 0 ∨ e11 ≠ 0 ∨ v9 = v11 := by
  by_cases k3 : e9 = 0
  · by_cases k5 : e11 = 0
    · subst k3; subst k5
      obtain ⟨_, rfl, rfl⟩ := timesR_zero h9
      obtain ⟨_, _, rfl⟩ := sumR_zero h4
      obtain ⟨rfl, rfl, rfl⟩ := sumR_zero h11
      obtain ⟨_, _, rfl⟩ := timesR_zero h2
      obtain ⟨_, _, rfl⟩ := timesR_zero h10
      exact .inr (.inr (Int.mul_add _ _ _))
    · exact .inr (.inl k5)
  · exact .inl k3
theorem sumR_nil {a : Int} {n : Bool} {xs : List Int} (h : Num a n xs) : sumR (a, 0) (0, 0) = (a, 0) := by
  unfold sumR; rw [if_pos ⟨rfl, rfl⟩]; simp only [Int.add_zero]; exact fitR_ok h.1
theorem timesR_one {a : Int} {n : Bool} {xs : List Int} (h : Num a n xs) : timesR (a, 0) (1, 0) = (a, 0) := by
  unfold timesR; rw [if_pos ⟨rfl, rfl⟩]; simp only [Int.mul_one]; exact fitR_ok h.1
theorem timesR_nil (a : Int) : timesR (a, 0) (0, 0) = (0, 0) := by
  unfold timesR; rw [if_pos ⟨rfl, rfl⟩]; simp only [Int.mul_zero]; exact fitR_ok Lim.zero
theorem sumR_neg (a : Int) : sumR (a, 0) (-a, 0) = (0, 0) := by
  unfold sumR; rw [if_pos ⟨rfl, rfl⟩]; simp only [Int.add_right_neg]; exact fitR_ok Lim.zero
theorem sum_sub {a b v e : Int} (h : sumR (a, 0) (b, 0) = (v, e)) (he : e = 0) : v - b = a := by
  subst he
  obtain ⟨_, _, rfl⟩ := sumR_zero h
  omega
theorem neg_num {a : Int} {n : Bool} {xs : List Int} (h : Num a n xs) : ∃ m ys, Num (-a) m ys :=
  ⟨_, _, lim_mono (by omega) h.1, rfl, rfl⟩
theorem negQ {a : Int} {n m : Bool} {xs ys : List Int} (h : Num a n xs) (hm : Num (-a) m ys) (ao : Option Addr) (len cap : Nat) (w : World) (hs : Sl w ao len cap xs) :
    Calls Tryz.prog 42 #[.agg #[.bool n, .slice ao len cap]] w (RetPE m ys 0 w) := by
  obtain ⟨h1, rfl, rfl⟩ := h
  obtain ⟨_, rfl, rfl⟩ := hm
  exact Neg_ok a h1 ao len cap w hs
theorem subQ {x y z : Int} {n1 n2 n3 : Bool} {xs ys zs : List Int} (hx : Num x n1 xs) (hy : Num y n2 ys) (hz : Num z n3 zs) (he : x - y = z) (ax : Option Addr) (la ca : Nat) (ay : Option Addr) (lb cb : Nat) (w : World) (sx : Sl w ax la ca xs) (sy : Sl w ay lb cb ys) :
    Calls Tryz.prog 46 #[.agg #[.bool n1, .slice ax la ca], .agg #[.bool n2, .slice ay lb cb]] w (RetPE n3 zs 0 w) := by
  obtain ⟨h1, rfl, rfl⟩ := hx
  obtain ⟨h2, rfl, rfl⟩ := hy
  obtain ⟨h3, rfl, rfl⟩ := hz
  subst he
  exact (Sub_ok x y h1 h2 ax la ca ay lb cb w sx sy).mono fun _ _ h => h.1 h3
theorem lawValP {n : Bool} {ao : Option Addr} {len cap : Nat} {xs : List Int} {w : World} (hs : Sl w ao len cap xs) :
    Calls Tryz.prog 65 #[.agg #[.bool n, .slice ao len cap]] w (RetQ n xs 0 w) :=
  (lawVal_any n ao len cap w).mono fun _ _ h => ⟨ao, len, cap, h.1, hs.below h.2, h.2⟩
theorem lawGotP {n : Bool} {ao : Option Addr} {len cap : Nat} {xs : List Int} {er : Int} {w : World} (hs : Sl w ao len cap xs) :
    Calls Tryz.prog 28 #[.agg #[.bool n, .slice ao len cap], .int .i64 er] w (RetQ n xs er w) :=
  (got_any n ao len cap er w).mono fun _ _ h => ⟨ao, len, cap, h.1, hs.below h.2, h.2⟩
theorem quo_num' {a b : Int} {n : Bool} {xs : List Int} (ha : Num a n xs) (hb : b ≠ 0) : ∃ m ys, Num (flq a b) m ys := by
  rcases Int.lt_or_gt_of_ne hb with h | h
  · have e : flq a b = flq (-a) (-b) := by
      unfold flq; rw [if_neg (by omega), if_pos (by omega)]
    obtain ⟨m', ys', hn⟩ := neg_num ha
    rw [e]; exact quo_num hn (by omega)
  · exact quo_num ha h
theorem rem_num {a b : Int} {n : Bool} {xs : List Int} (hb' : Num b n xs) (hb : b ≠ 0) : ∃ m ys, Num (flr a b) m ys := by
  refine ⟨_, _, lim_mono ?_ hb'.1, rfl, rfl⟩
  obtain ⟨_, h2, h3⟩ := fl_spec a b hb
  rcases Int.lt_or_gt_of_ne hb with h | h
  · have := h3 h; omega
  · have := h2 h; omega
theorem rem_small (a : Int) {b : Int} (hb : b ≠ 0) : decide ((flr a b).natAbs < b.natAbs) = true := by
  obtain ⟨_, h2, h3⟩ := fl_spec a b hb
  refine decide_eq_true ?_
  rcases Int.lt_or_gt_of_ne hb with h | h
  · have := h3 h; omega
  · have := h2 h; omega
theorem rem_sign {a b : Int} {n m : Bool} {xs ys : List Int} (hb : b ≠ 0) (hr : Num (flr a b) n xs) (hn : Num b m ys) (h0 : flr a b ≠ 0) : (n == m) = true := by
  obtain ⟨_, rfl, _⟩ := hr
  obtain ⟨_, rfl, _⟩ := hn
  obtain ⟨_, h2, h3⟩ := fl_spec a b hb
  rw [beq_iff_eq, decide_eq_decide]
  rcases Int.lt_or_gt_of_ne hb with h | h
  · have := h3 h; omega
  · have := h2 h; omega
theorem div_back {a b v e v' e' : Int} (h1 : timesR (flq a b, 0) (b, 0) = (v, e)) (h2 : sumR (v, e) (flr a b, 0) = (v', e')) : e' ≠ 0 ∨ (0 : Int) ≠ 0 ∨ v' = a := by
  by_cases k : e' = 0
  · subst k
    obtain ⟨rfl, _, rfl⟩ := sumR_zero h2
    obtain ⟨_, _, rfl⟩ := timesR_zero h1
    right; right
    unfold flr
    rw [Int.mul_comm (flq a b) b]; omega
  · exact .inl k
theorem mod0P {x y : Int} {n1 n2 : Bool} {xs ys : List Int} (hx : Num x n1 xs) (hy : Num y n2 ys) (h0 : y = 0) (ax : Option Addr) (la ca : Nat) (ay : Option Addr) (lb cb : Nat) (w : World) (sx : Sl w ax la ca xs) (sy : Sl w ay lb cb ys) :
    Calls Tryz.prog 52 #[.agg #[.bool n1, .slice ax la ca], .agg #[.bool n2, .slice ay lb cb]] w (RetPE false [] 11 w) := by
  obtain ⟨h1, rfl, rfl⟩ := hx
  obtain ⟨h2, rfl, rfl⟩ := hy
  refine (Mod_zero x y h1 h2 h0 ax la ca ay lb cb w sx sy).mono ?_
  rintro e w' ⟨ao, len, cap, rfl, hs, hb⟩
  exact ⟨ao, len, cap, rfl, by rw [show (0 : Int).natAbs = 0 from rfl, parts_zero] at hs; exact hs, hb⟩
end Go.Proofs.YtcmocjfnmfiieaaGreatDoor

/- A region that draws its order, by one relation that each operation keeps, whatever came up before it: a goal an operation, in the place of one for each order. -/
namespace Go.Proofs.YtcmocjfnmfiieaaGreatDoor
open Go Go.RowKit

/-- The frame with the slots ds filled by us. -/
def fillA (a : Act) : List (Option Tmp) → List Value → Act
  | d :: ds, v :: vs => fillA (a.put d v) ds vs
  | _, _ => a
theorem put_twice (a : Act) (d : Option Tmp) (u v : Value) : (a.put d u).put d v = a.put d v := by
  cases d with
  | none => rfl
  | some t => simp [Act.put]
theorem fillA_put : ∀ (ds : List (Option Tmp)) (us : List Value) (a : Act) (d : Option Tmp) (v : Value), (∀ t, d = some t → some t ∉ ds) → fillA (a.put d v) ds us = (fillA a ds us).put d v
  | [], _, _, _, _, _ => rfl
  | _ :: _, [], _, _, _, _ => rfl
  | d' :: ds, u :: us, a, d, v, h => by
    show fillA ((a.put d v).put d' u) ds us = (fillA (a.put d' u) ds us).put d v
    rw [← fillA_put ds us (a.put d' u) d v (fun t ht hm => h t ht (List.mem_cons_of_mem _ hm)), Act.put_comm a v u (fun t ht hd => h t ht (by rw [hd]; exact List.mem_cons_self))]
/-- No slot is written by two operations. -/
def ApartD : List (Option Tmp) → Bool
  | [] => true
  | none :: ds => ApartD ds
  | some t :: ds => !(ds.contains (some t)) && ApartD ds
theorem fillA_set : ∀ (ds : List (Option Tmp)) (us : List Value) (a : Act) (i : Nat) (d : Option Tmp) (v : Value), ApartD ds = true → ds[i]? = some d → i < us.length → (fillA a ds us).put d v = fillA a ds (us.set i v)
  | [], _, _, _, _, _, _, h, _ => by simp at h
  | _ :: _, [], _, _, _, _, _, _, h => by simp at h
  | d' :: ds, u :: us, a, 0, d, v, hA, h, _ => by
    simp only [List.length_cons, Nat.zero_lt_succ, getElem?_pos, List.getElem_cons_zero, Option.some.injEq] at h
    subst h
    have hn : ∀ t, d' = some t → some t ∉ ds := by
      intro t ht hm
      subst ht
      simp [ApartD, hm] at hA
    show (fillA (a.put d' u) ds us).put d' v = fillA (a.put d' v) ds us
    rw [← fillA_put ds us _ d' v hn, put_twice]
  | d' :: ds, u :: us, a, i + 1, d, v, hA, h, hl => by
    have hA' : ApartD ds = true := by
      cases d' with
      | none => exact hA
      | some t => simp [ApartD] at hA; exact hA.2
    exact fillA_set ds us (a.put d' u) i d v hA' (by simpa using h) (by simpa using hl)
/-- What the slots ds hold. -/
def heldIn (a : Act) (ds : List (Option Tmp)) : List Value := ds.map fun d => match d with | some t => a.tmps.getD t undef | none => undef
theorem put_held (a : Act) (d : Option Tmp) : a.put d (match d with | some t => a.tmps.getD t undef | none => undef) = a := by
  cases d with
  | none => rfl
  | some t =>
    show ({ a with tmps := a.tmps.setIfInBounds t (a.tmps.getD t undef) } : Act) = a
    have : a.tmps.setIfInBounds t (a.tmps.getD t undef) = a.tmps := by
      apply Array.ext (by simp)
      intro j h1 h2
      rw [Array.getElem_setIfInBounds]
      split
      · rename_i h; subst h; simp [Array.getD, h2]
      · rfl
    rw [this]
theorem fillA_held : ∀ (ds : List (Option Tmp)) (a : Act), fillA a ds (heldIn a ds) = a
  | [], _ => rfl
  | d :: ds, a => by
    show fillA (a.put d _) ds (heldIn a ds) = a
    rw [put_held]; exact fillA_held ds a

/-- What an operation waits for has come up. -/
def Met (L : Nat → Bool) : List Edge → Prop
  | [] => True
  | e :: r => (Region.binds .any e = true → L e.on = true) ∧ Met L r
theorem Met.of {L : Nat → Bool} : ∀ {l : List Edge}, (∀ e ∈ l, Region.binds .any e = true → L e.on = true) → Met L l
  | [], _ => trivial
  | _ :: _, h => ⟨h _ List.mem_cons_self, Met.of fun e he => h e (List.mem_cons_of_mem _ he)⟩
def hasE (j : Nat) : List Edge → Bool
  | [] => false
  | e :: r => (Region.binds .any e && e.on == j) || hasE j r
theorem Met.get {L : Nat → Bool} {j : Nat} : ∀ {l : List Edge}, Met L l → hasE j l = true → L j = true
  | [], _, h => by cases h
  | e :: r, hm, h => by
    simp only [hasE, Bool.or_eq_true, Bool.and_eq_true, beq_iff_eq] at h
    rcases h with ⟨h1, h2⟩ | h
    · rw [← h2]; exact hm.1 h1
    · exact hm.2.get h
theorem getD_r {l : Array Value} {i : Nat} {u v : Value} (h : l.getD i u = v) : l[i]?.getD u = v := by rw [← Array.getD_eq_getD_getElem?]; exact h
/-- i has come up too. -/
def more (L : Nat → Bool) (i j : Nat) : Bool := if j = i then true else L j
/-- Operation i has yielded v. -/
def upd (U : Nat → Value) (i : Nat) (v : Value) (j : Nat) : Value := if j = i then v else U j
theorem map_upd (U : Nat → Value) (n i : Nat) (v : Value) : ((List.range n).map U).set i v = (List.range n).map (upd U i v) := by
  apply List.ext_getElem (by simp)
  intro j h1 h2
  simp only [List.getElem_set, List.getElem_map, List.getElem_range, upd]
  by_cases h : i = j
  · rw [if_pos h, if_pos h.symm]
  · rw [if_neg h, if_neg (Ne.symm h)]
theorem fillA_size : ∀ (ds : List (Option Tmp)) (us : List Value) (a : Act), (fillA a ds us).tmps.size = a.tmps.size
  | [], _, _ => rfl
  | _ :: _, [], _ => rfl
  | d :: ds, u :: us, a => by
    show (fillA (a.put d u) ds us).tmps.size = _
    rw [fillA_size ds us]
    cases d with
    | none => rfl
    | some t => simp [Act.put]
theorem fillA_other : ∀ (ds : List (Option Tmp)) (us : List Value) (a : Act) (t : Tmp), ds.contains (some t) = false → (fillA a ds us).tmps.getD t undef = a.tmps.getD t undef
  | [], _, _, _, _ => rfl
  | _ :: _, [], _, _, _ => rfl
  | d :: ds, u :: us, a, t, h => by
    simp only [List.contains_cons, Bool.or_eq_false_iff] at h
    show (fillA (a.put d u) ds us).tmps.getD t undef = _
    rw [fillA_other ds us _ t h.2]
    cases d with
    | none => rfl
    | some s =>
      have hs : s ≠ t := by
        intro hh; subst hh; simp at h
      simp only [Act.put, Array.getD_eq_getD_getElem?]
      rw [Array.getElem?_setIfInBounds_ne hs]
theorem fillA_get : ∀ (ds : List (Option Tmp)) (us : List Value) (a : Act) (j : Nat) (t : Tmp) (v : Value), ApartD ds = true → ds[j]? = some (some t) → us[j]? = some v → t < a.tmps.size → (fillA a ds us).tmps.getD t undef = v
  | [], _, _, _, _, _, _, h, _, _ => by simp at h
  | _ :: _, [], _, _, _, _, _, _, h, _ => by simp at h
  | d :: ds, u :: us, a, 0, t, v, hA, h, hu, hlt => by
    simp at h hu
    subst h; subst hu
    have hn : ds.contains (some t) = false := by
      simp [ApartD] at hA; simp; exact hA.1
    show (fillA (a.put (some t) u) ds us).tmps.getD t undef = u
    rw [fillA_other ds us _ t hn]
    simp [Act.put, hlt]
  | d :: ds, u :: us, a, j + 1, t, v, hA, h, hu, hlt => by
    have hA' : ApartD ds = true := by
      cases d with
      | none => exact hA
      | some t => simp [ApartD] at hA; exact hA.2
    refine fillA_get ds us (a.put d u) j t v hA' (by simpa using h) (by simpa using hu) ?_
    cases d with
    | none => exact hlt
    | some t => simpa [Act.put] using hlt
/-- Each slot of ds is one of the frame's. -/
def SizedD (m : Nat) (ds : List (Option Tmp)) : Bool := ds.all fun d => match d with | some t => decide (t < m) | none => true
/-- f of each operation and its number. -/
def EachO (f : Nat → Oper → Prop) : Nat → List Oper → Prop
  | _, [] => True
  | k, o :: r => f k o ∧ EachO f (k + 1) r
theorem EachO.get {f : Nat → Oper → Prop} : ∀ {l : List Oper} {k : Nat}, EachO f k l → ∀ {i : Nat} {o : Oper}, l[i]? = some o → f (k + i) o
  | [], _, _, _, _, h => by simp at h
  | o' :: r, k, hE, 0, o, h => by
    simp at h; subst h; exact hE.1
  | o' :: r, k, hE, i + 1, o, h => by
    have := hE.2.get (i := i) (o := o) (by simpa using h)
    rwa [show k + 1 + i = k + (i + 1) by omega] at this
/-- Each operation waits for earlier ones alone. -/
def BackB (ops : Array Oper) : Bool := (List.range ops.size).all fun i => ((ops[i]?).map fun o => o.after.all fun e => !Region.binds .any e || decide (e.on < i)).getD true

section
variable {P : Program} {ops : Array Oper} {Q : Exit → Act → World → Prop}

theorem all_met {l : Array Bool} (hb : BackB ops = true) (hsz : l.size = ops.size) (hr : Region.ready .any ops l = []) : ∀ (n i : Nat), i ≤ n → i < ops.size → l.getD i false = true := by
  intro n
  induction n with
  | zero =>
    intro i hi hlt
    obtain rfl : i = 0 := by omega
    cases hc : l.getD 0 false with
    | true => rfl
    | false =>
      have hm : 0 ∈ Region.ready .any ops l := by
        rw [mem_ready]
        refine ⟨?_, ops[0], by simp [hlt], fun e he hbd => ?_⟩
        · have h0 : 0 < l.size := by omega
          simp only [Array.getD, h0, dif_pos] at hc ⊢; exact hc
        · have h1 := List.all_eq_true.1 hb 0 (List.mem_range.2 hlt)
          rw [show ops[0]? = some ops[0] by simp [hlt]] at h1
          simp only [Option.map_some, Option.getD_some] at h1
          have h2 := Array.all_eq_true'.1 h1 e he
          rw [hbd] at h2
          simp at h2
      rw [hr] at hm; cases hm
  | succ n ih =>
    intro i hi hlt
    rcases Nat.lt_or_ge i (n + 1) with h | h
    · exact ih i (by omega) hlt
    obtain rfl : i = n + 1 := by omega
    cases hc : l.getD (n + 1) false with
    | true => rfl
    | false =>
      have hm : n + 1 ∈ Region.ready .any ops l := by
        rw [mem_ready]
        refine ⟨?_, ops[n + 1], by simp [hlt], fun e he hbd => ?_⟩
        · have h0 : n + 1 < l.size := by omega
          simp only [Array.getD, h0, dif_pos] at hc ⊢; exact hc
        · have h1 := List.all_eq_true.1 hb (n + 1) (List.mem_range.2 hlt)
          rw [show ops[n + 1]? = some ops[n + 1] by simp [hlt]] at h1
          simp only [Option.map_some, Option.getD_some] at h1
          have h2 := Array.all_eq_true'.1 h1 e he
          rw [hbd] at h2
          simp only [Bool.not_true, Bool.false_or, decide_eq_true_eq] at h2
          exact ih e.on (by omega) (by omega)
      rw [hr] at hm; cases hm

theorem keep_any {I : Array Bool → Act → World → Prop} (hb : BackB ops = true)
    (hs : ∀ i l a w, l.size = ops.size → I l a w → i ∈ Region.ready .any ops l → wpOp P ops Q i (I (l.setIfInBounds i true)) a w)
    (he : ∀ l a w, l.size = ops.size → I l a w → (∀ i, i < ops.size → l.getD i false = true) → Q .normal a w) :
    ∀ (k : Nat) (l : Array Bool) (a : Act) (w : World), l.size = ops.size → l.toList.count false ≤ k → I l a w → wpAny P .any ops Q k l a w
  | 0, l, a, w, hz, hk, h => by
    have hr : Region.ready .any ops l = [] := by
      rcases hh : Region.ready .any ops l with _ | ⟨i, r⟩
      · rfl
      · exfalso
        have hi : i ∈ Region.ready .any ops l := by rw [hh]; exact List.mem_cons_self
        have h1 := (mem_ready.1 hi).1
        have h2 : i < l.size := by
          rcases Nat.lt_or_ge i l.size with h' | h'
          · exact h'
          · simp [Array.getElem?_eq_none h'] at h1
        have h3 : false ∈ l.toList := by
          have : l[i] = false := by simpa [Array.getD, h2] using h1
          rw [← this]; simp
        have := List.count_pos_iff.2 h3
        omega
    exact ⟨hr, he l a w hz h fun i hi => all_met hb hz hr i i (Nat.le_refl _) hi⟩
  | k + 1, l, a, w, hz, hk, h => by
    refine ⟨fun hr => he l a w hz h fun i hi => all_met hb hz hr i i (Nat.le_refl _) hi, fun i hi => ?_⟩
    have h1 := (mem_ready.1 hi).1
    have h2 : i < l.size := by
      rcases Nat.lt_or_ge i l.size with h' | h'
      · exact h'
      · simp [Array.getElem?_eq_none h'] at h1
    have h3 : l[i] = false := by simpa [Array.getD, h2] using h1
    have h4 : (l.setIfInBounds i true).toList.count false ≤ k := by
      have h5 : (l.setIfInBounds i true).toList = l.toList.set i true := by simp
      rw [h5, List.count_set (by simpa using h2), if_pos (by simp [h3]), if_neg (by decide)]
      omega
    exact wpOp_mono (fun a' w' h' => keep_any hb hs he k _ a' w' (by simp [hz]) h4 h') (hs i l a w hz h hi)

/-- A region that draws its order: F (which operations have come up, what each has yielded, the world) is kept by each of them, whatever the frame, if it holds what they have yielded. -/
theorem region_kept {id : Nat} {a : Act} {w : World} (n : Nat) (ds : List (Option Tmp)) (vs : (Nat → Value) → List Value) (F : (Nat → Bool) → (Nat → Value) → World → Prop) (hn : ops.size = n) (hds : ops.toList.map (·.dst) = ds) (hvs : ∀ U, vs U = (List.range n).map U) (hm : P.follows .mixedOrders = true)
    (hb : BackB ops = true) (hap : ApartD ds = true) (hsz : SizedD a.tmps.size ds = true)
    (start : ∀ U, F (fun _ => false) U w.drew)
    (step : EachO (fun i o => ∀ (L : Nat → Bool) (U : Nat → Value) (w : World) (b : Act), F L U w → L i = false → Met L o.after.toList →
      (∀ (j : Nat) (t : Tmp), ds[j]? = some (some t) → b.tmps.getD t undef = U j) → (∀ t : Tmp, ds.contains (some t) = false → b.tmps.getD t undef = a.tmps.getD t undef) →
      ∀ K : Act → World → Prop, Shut (∀ v w', F (more L i) (upd U i v) w' → K (b.put o.dst v) w') →
        if Region.wanted o (yielded ops b.tmps) = true then Oper.wp P o b w K Q else K (b.put o.dst undef) w) 0 ops.toList)
    (fin : ∀ (L : Nat → Bool) (U : Nat → Value) (w : World), F L U w → (∀ i, i < n → L i = true) → Q .normal (fillA a ds (vs U)) w) :
    (Code.region id ops true).wp P Q a w := by
  subst hn; subst hds
  refine wp_region_any hm ?_
  refine keep_any (I := fun l b w => ∃ U : Nat → Value, b = fillA a (ops.toList.map (·.dst)) ((List.range ops.size).map U) ∧ F (fun i => l.getD i false) U w) hb ?_ ?_ _ _ _ _ (by simp) ?_ ?_
  · rintro i l b w hz ⟨U, rfl, hF⟩ hi
    obtain ⟨h1, o, ho, hmet⟩ := mem_ready.1 hi
    have h2 : i < l.size := by
      rcases Nat.lt_or_ge i l.size with h' | h'
      · exact h'
      · simp [Array.getElem?_eq_none h'] at h1
    have h3 : l.getD i false = false := by
      simp only [Array.getD, h2, dif_pos] at h1 ⊢; exact h1
    have hst := step.get (i := i) (o := o) (by simpa using ho)
    rw [Nat.zero_add] at hst
    refine wpOp_step ho fun K' hK => hst _ U w _ hF h3 (Met.of fun e he hbd => hmet e (by simpa using he) hbd) (fun j t hj => ?_) (fun t ht => fillA_other _ _ a t ht) K' ?_
    · have hlt : t < a.tmps.size := by
        have := List.all_eq_true.1 hsz (some t) (List.mem_of_getElem? hj)
        simpa using this
      have hj' : j < ops.size := by
        have h := (List.getElem?_eq_some_iff.1 hj).1
        simpa using h
      exact fillA_get _ _ a j t (U j) hap hj (by simp [hj']) hlt
    intro v w' hF'
    refine hK _ _ ⟨upd U i v, ?_, ?_⟩
    · rw [← map_upd]
      exact fillA_set _ _ a i o.dst v hap (by simp [ho]) (by simp; omega)
    · have hL : (fun j => (l.setIfInBounds i true).getD j false) = more (fun j => l.getD j false) i := by
        funext j
        unfold more
        by_cases hj : j = i
        · subst hj; simp [h2]
        · rw [_root_.Go.getD_set_ne false (Ne.symm hj), if_neg hj]
      rw [hL]; exact hF'
  · rintro l b w hz ⟨U, rfl, hF⟩ hall
    have := fin _ U w hF hall
    rwa [hvs] at this
  · simp
  · refine ⟨fun j => (heldIn a (ops.toList.map (·.dst))).getD j undef, ?_, ?_⟩
    · have e : (List.range ops.size).map (fun j => (heldIn a (ops.toList.map (·.dst))).getD j undef) = heldIn a (ops.toList.map (·.dst)) := by
        apply List.ext_getElem (by simp [heldIn])
        intro j h1 h2
        simp [h2]
      rw [e]; exact (fillA_held _ _).symm
    · have : (fun i => (Array.replicate ops.size false).getD i false) = fun _ => false := by
        funext i
        rcases Nat.lt_or_ge i ops.size with h | h
        · simp [h]
        · simp [h]
      rw [this]; exact start _
end
end Go.Proofs.YtcmocjfnmfiieaaGreatDoor

/- What a drawn region makes: pairs of a number and an error, boxes of such pairs; what a store into a box that is new leaves as it was. -/
namespace Go.Proofs.YtcmocjfnmfiieaaGreatDoor
open Go.RowKit

/-- u is the pair of a sign, parts and an error. -/
def HasP (w : World) (u : Value) (n : Bool) (xs : List Int) (e : Int) : Prop := ∃ ap lp cp, u = .agg #[.bool n, .slice ap lp cp, .int .i64 e] ∧ Sl w ap lp cp xs
theorem HasP.below {w w' : World} {u : Value} {n : Bool} {xs : List Int} {e : Int} (h : HasP w u n xs e) (hb : Below w.heap.size w w') : HasP w' u n xs e := by
  obtain ⟨a, l, c, h1, h2⟩ := h
  exact ⟨a, l, c, h1, h2.below hb⟩
/-- u points to a box, at B or above, that holds the zero pair till the pair is stored into it. -/
def PBox (B : Nat) (w : World) (u : Value) (st : Bool) (n : Bool) (xs : List Int) (e : Int) : Prop :=
  ∃ g, u = .pointer (some ⟨g, 0, none⟩) ∧ B ≤ g ∧ g < w.heap.size ∧ (st = false → Zr w g) ∧ (st = true → ∃ a l c, Box3 w g n a l c e ∧ Sl w a l c xs)
theorem PBox.below {B : Nat} {w w' : World} {u : Value} {st n : Bool} {xs : List Int} {e : Int} (h : PBox B w u st n xs e) (hb : Below w.heap.size w w') : PBox B w' u st n xs e := by
  obtain ⟨g, h1, h2, h3, h4, h5⟩ := h
  refine ⟨g, h1, h2, Nat.lt_of_lt_of_le h3 hb.size, fun h => (h4 h).below hb, fun h => ?_⟩
  obtain ⟨a, l, c, h6, h7⟩ := h5 h
  exact ⟨a, l, c, h6.below hb, h7.below hb⟩
theorem PBox.new {B : Nat} {w : World} {n : Bool} {xs : List Int} {e : Int} {st : Bool} (hB : B ≤ w.heap.size) (hst : st = false) : PBox B (w.alloc (.cells #[.bool false, .slice none 0 0, .int .i64 0] 38)) (.pointer (some ⟨w.heap.size, 0, none⟩)) st n xs e := by
  subst hst
  exact ⟨w.heap.size, rfl, hB, by simp, fun _ => heap_new w _, (fun h => by cases h)⟩
theorem PBox.fresh {B : Nat} {w : World} {u : Value} {st n : Bool} {xs : List Int} {e : Int} (h : PBox B w u st n xs e) : u ≠ .pointer (some ⟨w.heap.size, 0, none⟩) := by
  obtain ⟨g, rfl, _, h3, _⟩ := h
  intro hh
  injection hh with hh
  injection hh with hh
  injection hh with hh
  omega
theorem HasP.set {w : World} {u : Value} {n : Bool} {xs : List Int} {e : Int} (h : HasP w u n xs e) (hl : xs.getLast? ≠ some 0) {g : Nat} (z : Zr w g) (n' : Bool) (a' : Option Addr) (l' c' : Nat) (e' : Int) :
    HasP (((w.setCell ⟨g, 0, none⟩ (.bool n')).setCell ⟨g, 1, none⟩ (.slice a' l' c')).setCell ⟨g, 2, none⟩ (.int .i64 e')) u n xs e := by
  obtain ⟨a, l, c, h1, h2⟩ := h
  exact ⟨a, l, c, h1, h2.pair hl z _ _ _ _ _⟩
theorem PBox.other {B : Nat} {w : World} {u : Value} {st n : Bool} {xs : List Int} {e : Int} (h : PBox B w u st n xs e) (hl : xs.getLast? ≠ some 0) {g : Nat} (z : Zr w g) (hne : u ≠ .pointer (some ⟨g, 0, none⟩)) (n' : Bool) (a' : Option Addr) (l' c' : Nat) (e' : Int) :
    PBox B (((w.setCell ⟨g, 0, none⟩ (.bool n')).setCell ⟨g, 1, none⟩ (.slice a' l' c')).setCell ⟨g, 2, none⟩ (.int .i64 e')) u st n xs e := by
  obtain ⟨k, rfl, h2, h3, h4, h5⟩ := h
  have hk : k ≠ g := fun h => hne (by rw [h])
  have hh := heap_set3 (w := w) hk (.bool n') (.slice a' l' c') (.int .i64 e')
  refine ⟨k, rfl, h2, by simpa using h3, fun h => hh.trans (h4 h), fun h => ?_⟩
  obtain ⟨a, l, c, h6, h7⟩ := h5 h
  exact ⟨a, l, c, hh.trans h6, h7.pair hl z _ _ _ _ _⟩
theorem PBox.self {B : Nat} {w : World} {n : Bool} {xs : List Int} {e : Int} {g : Nat} (z : Zr w g) (hB : B ≤ g) {a : Option Addr} {l c : Nat} (s : Sl w a l c xs) (hl : xs.getLast? ≠ some 0) :
    PBox B (((w.setCell ⟨g, 0, none⟩ (.bool n)).setCell ⟨g, 1, none⟩ (.slice a l c)).setCell ⟨g, 2, none⟩ (.int .i64 e)) (.pointer (some ⟨g, 0, none⟩)) true n xs e :=
  ⟨g, rfl, hB, by simpa using Box3.lt z, (fun h => by cases h), fun _ => ⟨a, l, c, Box3.set z, s.pair hl z _ _ _ _ _⟩⟩
theorem PBox.selfOf {B : Nat} {w : World} {n : Bool} {xs : List Int} {e : Int} {g : Nat} {u : Value} (hu : u = .pointer (some ⟨g, 0, none⟩)) (z : Zr w g) (hB : B ≤ g) {a : Option Addr} {l c : Nat} (s : Sl w a l c xs) (hl : xs.getLast? ≠ some 0) :
    PBox B (((w.setCell ⟨g, 0, none⟩ (.bool n)).setCell ⟨g, 1, none⟩ (.slice a l c)).setCell ⟨g, 2, none⟩ (.int .i64 e)) u true n xs e := by
  subst hu; exact PBox.self z hB s hl
/-- u is the integer of a sign and parts; the same with an error, as two results. -/
def HasI (w : World) (u : Value) (n : Bool) (xs : List Int) : Prop := ∃ ap lp cp, u = .agg #[.bool n, .slice ap lp cp] ∧ Sl w ap lp cp xs
theorem HasI.below {w w' : World} {u : Value} {n : Bool} {xs : List Int} (h : HasI w u n xs) (hb : Below w.heap.size w w') : HasI w' u n xs := by
  obtain ⟨a, l, c, h1, h2⟩ := h
  exact ⟨a, l, c, h1, h2.below hb⟩
def HasT (w : World) (u : Value) (n : Bool) (xs : List Int) (e : Int) : Prop := ∃ ap lp cp, u = .tuple #[.agg #[.bool n, .slice ap lp cp], .int .i64 e] ∧ Sl w ap lp cp xs
theorem HasT.below {w w' : World} {u : Value} {n : Bool} {xs : List Int} {e : Int} (h : HasT w u n xs e) (hb : Below w.heap.size w w') : HasT w' u n xs e := by
  obtain ⟨a, l, c, h1, h2⟩ := h
  exact ⟨a, l, c, h1, h2.below hb⟩
theorem yielded_of {ops : Array Oper} {tmps : Array Value} {j : Nat} {t : Tmp} {v : Bool} (ho : (ops[j]?).bind (·.dst) = some t) (h : tmps.getD t undef = .bool v) : yielded ops tmps j = some v := by
  unfold yielded
  rw [ho]
  have h1 : tmps[t]? = some (.bool v) := by
    rw [Array.getD_eq_getD_getElem?] at h
    cases hh : tmps[t]? with
    | none => rw [hh] at h; cases h
    | some x => rw [hh] at h; simp at h; rw [h]
  simp [h1]
theorem wants {o : Oper} {ops : Array Oper} {tmps : Array Value} {j : Nat} {t : Tmp} {v : Bool} (hg : o.guard = some (j, v)) (ho : (ops[j]?).bind (·.dst) = some t) (h : tmps.getD t undef = .bool v) : Region.wanted o (yielded ops tmps) = true := by
  unfold Region.wanted
  rw [hg]
  simp [yielded_of ho h]
theorem wants_not {o : Oper} {ops : Array Oper} {tmps : Array Value} {j : Nat} {t : Tmp} {v u : Bool} (hg : o.guard = some (j, v)) (ho : (ops[j]?).bind (·.dst) = some t) (h : tmps.getD t undef = .bool u) (hu : u ≠ v) : ¬ Region.wanted o (yielded ops tmps) = true := by
  unfold Region.wanted
  rw [hg]
  simp [yielded_of ho h, hu]
theorem wants_none {o : Oper} {ops : Array Oper} {tmps : Array Value} {j : Nat} {t : Tmp} {v : Bool} (hg : o.guard = some (j, v)) (ho : (ops[j]?).bind (·.dst) = some t) (h : tmps.getD t undef = undef) : ¬ Region.wanted o (yielded ops tmps) = true := by
  have h1 : yielded ops tmps j = none := by
    unfold yielded
    rw [ho]
    rw [Array.getD_eq_getD_getElem?] at h
    cases hh : tmps[t]? with
    | none => simp [hh]
    | some x => rw [hh] at h; simp at h; subst h; simp [hh, undef]
  unfold Region.wanted
  rw [hg]
  simp [h1]
theorem not_yet {L : Nat → Bool} {i j : Nat} (h : L i = true → L j = true) (hj : L j = false) : L i = false := by
  cases hi : L i with
  | false => rfl
  | true => rw [h hi] at hj; cases hj
end Go.Proofs.YtcmocjfnmfiieaaGreatDoor

/- What NumOrder leans on: a pair stored into a box whose error was not 0 may change a slice of one part alone, and then the comparison that follows comes out the same. -/
namespace Go.Proofs.YtcmocjfnmfiieaaGreatDoor
open Go.RowKit

/-- What a list of parts may read as, behind a store of an error. -/
def Turn (u t : List Int) (er er' : Int) : Prop := t = u ∨ (u = [er] ∧ t = [er'])
theorem Sl.turn {w : World} {ao : Option Addr} {len cap : Nat} {xs : List Int} (hs : Sl w ao len cap xs) {g : Nat} {n : Bool} {ap : Option Addr} {l c : Nat} {er : Int} (h : Box3 w g n ap l c er) (n' : Bool) (ap' : Option Addr) (l' c' : Nat) (er' : Int) :
    ∃ ys, Sl (((w.setCell ⟨g, 0, none⟩ (.bool n')).setCell ⟨g, 1, none⟩ (.slice ap' l' c')).setCell ⟨g, 2, none⟩ (.int .i64 er')) ao len cap ys ∧ Turn xs ys er er' := by
  have hset : Box3 (((w.setCell ⟨g, 0, none⟩ (.bool n')).setCell ⟨g, 1, none⟩ (.slice ap' l' c')).setCell ⟨g, 2, none⟩ (.int .i64 er')) g n' ap' l' c' er' := Box3.set h
  obtain ⟨h1, h2, h3, h4 | ⟨b, p, h5, h6⟩⟩ := hs
  · exact ⟨xs, ⟨h1, h2, h3, .inl h4⟩, .inl rfl⟩
  · by_cases hb : b = g
    · subst hb
      by_cases h0 : len = 0
      · exact ⟨xs, ⟨h1, h2, h3, .inr ⟨b, p, h5, fun j hj => by omega⟩⟩, .inl rfl⟩
      · have k0 := h6 0 (by omega)
        unfold Box3 at h
        simp only [World.cell?, h] at k0
        rcases p with _ | _ | _ | p
        · simp at k0
        · simp at k0
        · by_cases h2' : len = 1
          · subst h2'
            simp at k0
            obtain ⟨x, rfl⟩ := List.length_eq_one_iff.1 h1
            simp at k0
            refine ⟨[er'], ⟨rfl, h2, h3, .inr ⟨b, 2, h5, fun j hj => ?_⟩⟩, .inr ⟨by rw [k0], rfl⟩⟩
            obtain rfl : j = 0 := by omega
            have := hset.cells.2.2
            simpa using this
          · have k1 := h6 1 (by omega)
            simp only [World.cell?, h] at k1
            simp at k1
        · simp at k0
    · refine ⟨xs, ⟨h1, h2, h3, .inr ⟨b, p, h5, fun j hj => ?_⟩⟩, .inl rfl⟩
      rw [World.cell?_of_block (Below.heap_setCell _ _ _ _ hb), World.cell?_of_block (Below.heap_setCell _ _ _ _ hb), World.cell?_of_block (Below.heap_setCell _ _ _ _ hb)]
      exact h6 j hj
/-- Two stores, one behind the other. -/
def Mix (u X : List Int) (ex fx ey fy : Int) : Prop := ∃ t, Turn u t ex fx ∧ Turn t X ey fy

theorem parts_is_two {n : Nat} (h : parts n = [2]) : n = 2 := by
  refine parts_inj (h.trans ?_)
  rw [parts_pos 2 (by omega)]
  simp [parts_zero]
theorem mix_cases {u X : List Int} {ex ey : Int} (hu : u.getLast? ≠ some 0) (kx : ex = 0 ∨ ex = 2) (ky : ey = 0 ∨ ey = 2) (h : Mix u X ex 0 ey 0) : X = u ∨ (X = [0] ∧ u = [2] ∧ (ex = 2 ∨ ey = 2)) := by
  obtain ⟨t, h1, h2⟩ := h
  rcases h1 with rfl | ⟨h1, rfl⟩
  · rcases h2 with rfl | ⟨h2, rfl⟩
    · exact .inl rfl
    · rcases ky with k | k
      · rw [h2, k] at hu; simp at hu
      · right; exact ⟨rfl, by rw [h2, k], .inr k⟩
  · have hx : ex = 2 := by
      rcases kx with k | k
      · rw [h1, k] at hu; simp at hu
      · exact k
    right
    refine ⟨?_, by rw [h1, hx], .inl hx⟩
    rcases h2 with rfl | ⟨_, rfl⟩ <;> rfl
theorem sum_err {a c x ex : Int} (h : sumR (a, 0) (c, 0) = (x, ex)) : ex = 0 ∨ (ex = 2 ∧ ¬ Lim (a + c)) := by
  unfold sumR at h
  rw [if_pos ⟨rfl, rfl⟩] at h
  by_cases hl : Lim (a + c)
  · rw [fitR_ok hl] at h; cases h; exact .inl rfl
  · rw [fitR_no hl] at h; cases h; exact .inr ⟨rfl, hl⟩
theorem small_of_two {a c : Int} (hc : 0 < c) (h : (a * c).natAbs = 2) : a.natAbs ≤ 2 ∧ c ≤ 2 := by
  rw [Int.natAbs_mul] at h
  have h1 : 0 < c.natAbs := by omega
  have h2 : a.natAbs ≤ a.natAbs * c.natAbs := Nat.le_mul_of_pos_right _ h1
  have h3 : 0 < a.natAbs := by
    rcases Nat.eq_zero_or_pos a.natAbs with h' | h'
    · rw [h'] at h; simp at h
    · exact h'
  have h4 : c.natAbs ≤ a.natAbs * c.natAbs := Nat.le_mul_of_pos_left _ h3
  omega
/-- One of the two numbers is near the limit, the other is small. -/
theorem near_limit {b c : Int} (hb : Lim b) (hc : 0 < c) (h2 : c ≤ 2) (hn : ¬ Lim (b + c)) (hl : Lim (b * c)) : 1000000000 ≤ b ∧ 1 < (parts (b * c).natAbs).length ∧ decide (b * c < 0) = false := by
  have _ := hl
  rw [lim_iff] at hb hn
  have hk : (1000000002 : Nat) < 1000000000 ^ 40 := by decide +kernel
  generalize (1000000000 : Nat) ^ 40 = M at *
  have h3 : 1000000000 ≤ b := by omega
  have h4 : b ≤ b * c := by
    have : b * 1 ≤ b * c := Int.mul_le_mul_of_nonneg_left (by omega) (by omega)
    omega
  refine ⟨h3, (parts_ge _ _).2 ?_, decide_eq_false (by omega)⟩
  omega
theorem cmpI_short {n : Bool} {u : List Int} (h : 1 < u.length) : cmpI n [0] false u = -1 := by
  cases n <;> simp [cmpI, cmpL, h]
theorem cmpI_long {n : Bool} {u : List Int} (h : 1 < u.length) : cmpI false u n [0] = 1 := by
  have h' : ¬ u.length < 1 := by omega
  cases n <;> simp [cmpI, cmpL, h, h']
theorem order_end {a b c x ex y ey t1 f1 t2 f2 : Int} {na nb n1 n2 : Bool} {xa xb u1 u2 X Y : List Int} (Na : Num a na xa) (Nb : Num b nb xb) (hc : 0 < c) (hx : sumR (a, 0) (c, 0) = (x, ex)) (hy : sumR (b, 0) (c, 0) = (y, ey)) (h1 : timesR (a, 0) (c, 0) = (t1, f1)) (h2 : timesR (b, 0) (c, 0) = (t2, f2))
    (N1 : Num t1 n1 u1) (N2 : Num t2 n2 u2) (z1 : f1 = 0) (z2 : f2 = 0) (m1 : Mix u1 X ex f1 ey f2) (m2 : Mix u2 Y ex f1 ey f2) : cmpI n1 X n2 Y = cmp3 a b := by
  subst z1; subst z2
  have lu1 := N1.last; have lu2 := N2.last
  obtain ⟨_, _, rfl⟩ := timesR_zero h1
  obtain ⟨_, _, rfl⟩ := timesR_zero h2
  have kx := sum_err hx; have ky := sum_err hy
  obtain ⟨l1, rfl, rfl⟩ := N1
  obtain ⟨l2, rfl, rfl⟩ := N2
  have no1 : ∀ {a : Int}, (parts (a * c).natAbs) = [2] → ¬ Lim (a + c) → False := by
    intro a h hn
    obtain ⟨p1, p2⟩ := small_of_two hc (parts_is_two h)
    exact hn (lim_small _ (by omega))
  have far : ∀ {a b : Int}, Lim b → Lim (b * c) → parts (a * c).natAbs = [2] → ¬ Lim (b + c) → a < b ∧ 1 < (parts (b * c).natAbs).length ∧ decide (b * c < 0) = false ∧ parts (b * c).natAbs ≠ [2] := by
    intro a b lb lbc h hn
    obtain ⟨p1, p2⟩ := small_of_two hc (parts_is_two h)
    obtain ⟨q1, q2, q3⟩ := near_limit lb hc p2 hn lbc
    exact ⟨by omega, q2, q3, fun e => by rw [e] at q2; simp at q2⟩
  rcases mix_cases lu1 (kx.imp id (·.1)) (ky.imp id (·.1)) m1 with rfl | ⟨rfl, e1, k1⟩
  · rcases mix_cases lu2 (kx.imp id (·.1)) (ky.imp id (·.1)) m2 with rfl | ⟨rfl, e2, k2⟩
    · rw [cmpI_num]; exact cmp3_scale hc rfl
    · -- the second product is small
      rcases ky with ky | ky
      · have kx' : ¬ Lim (a + c) := by
          rcases kx with kx | kx
          · rcases k2 with k | k <;> omega
          · exact kx.2
        obtain ⟨q1, q2, q3, _⟩ := far Na.1 l1 e2 kx'
        rw [q3, cmpI_long q2, cmp3_gt q1]
      · exact (no1 e2 ky.2).elim
  · rcases kx with kx | kx
    · have ky' : ¬ Lim (b + c) := by
        rcases ky with ky | ky
        · rcases k1 with k | k <;> omega
        · exact ky.2
      obtain ⟨q1, q2, q3, q4⟩ := far Nb.1 l2 e1 ky'
      rcases mix_cases lu2 (.inl kx) (ky.imp id (·.1)) m2 with rfl | ⟨rfl, e2, _⟩
      · rw [q3, cmpI_short q2, cmp3_lt q1]
      · exact absurd e2 q4
    · exact (no1 e1 kx.2).elim
end Go.Proofs.YtcmocjfnmfiieaaGreatDoor

/- The walk of NumOrder. -/
namespace Go.Proofs.YtcmocjfnmfiieaaGreatDoor
open Go.RowKit

/-- What a piece leaves: the integers in their boxes. -/
def OrdCut (w0 : World) (ga gb gc : Nat) (na : Bool) (aa : Option Addr) (la ca : Nat) (xa : List Int) (nb : Bool) (ab : Option Addr) (lb cb : Nat) (xb : List Int) (nc : Bool) (ac : Option Addr) (lc cc : Nat) (xc : List Int) (wx : World) : Prop :=
  BoxI wx ga na aa la ca ∧ Sl wx aa la ca xa ∧ BoxI wx gb nb ab lb cb ∧ Sl wx ab lb cb xb ∧ BoxI wx gc nc ac lc cc ∧ Sl wx ac lc cc xc ∧ Below w0.heap.size w0 wx
/-- The same, and two pairs in boxes of their own. -/
def OrdCut2 (w0 : World) (ga gb gc : Nat) (na : Bool) (aa : Option Addr) (la ca : Nat) (xa : List Int) (nb : Bool) (ab : Option Addr) (lb cb : Nat) (xb : List Int) (nc : Bool) (ac : Option Addr) (lc cc : Nat) (xc : List Int) (g h : Nat) (n1 : Bool) (a1 : Option Addr) (l1 c1 : Nat) (x1 : List Int) (e1 : Int) (n2 : Bool) (a2 : Option Addr) (l2 c2 : Nat) (x2 : List Int) (e2 : Int) (wx : World) : Prop :=
  g ≠ h ∧ w0.heap.size ≤ g ∧ w0.heap.size ≤ h ∧ Box3 wx g n1 a1 l1 c1 e1 ∧ Sl wx a1 l1 c1 x1 ∧ Box3 wx h n2 a2 l2 c2 e2 ∧ Sl wx a2 l2 c2 x2 ∧ OrdCut w0 ga gb gc na aa la ca xa nb ab lb cb xb nc ac lc cc xc wx
theorem BoxI.ne3 {w : World} {a g : Nat} {n m : Bool} {ao ap : Option Addr} {l c l' c' : Nat} {er : Int} (h : BoxI w a n ao l c) (z : Box3 w g m ap l' c' er) : a ≠ g := by
  rintro rfl
  have e := h.symm.trans z
  injection e with e
  injection e with e
  have := congrArg Array.size e
  simp at this
theorem BoxI.put3 {w : World} {a g : Nat} {n m : Bool} {ao ap : Option Addr} {l c l' c' : Nat} {er : Int} (h : BoxI w a n ao l c) (z : Box3 w g m ap l' c' er) (u v x : Value) : BoxI (((w.setCell ⟨g, 0, none⟩ u).setCell ⟨g, 1, none⟩ v).setCell ⟨g, 2, none⟩ x) a n ao l c :=
  (heap_set3 (h.ne3 z) u v x).trans h
theorem BoxI.put33 {w : World} {a g k : Nat} {n m m' : Bool} {ao ap ap' : Option Addr} {l c l' c' l2 c2 : Nat} {er er' : Int} (h : BoxI w a n ao l c) (z : Box3 w g m ap l' c' er) (y : Box3 w k m' ap' l2 c2 er') (u v x u' v' x' : Value) : BoxI ((((((w.setCell ⟨g, 0, none⟩ u).setCell ⟨g, 1, none⟩ v).setCell ⟨g, 2, none⟩ x).setCell ⟨k, 0, none⟩ u').setCell ⟨k, 1, none⟩ v').setCell ⟨k, 2, none⟩ x') a n ao l c :=
  (heap_set3 (h.ne3 y) u' v' x').trans (h.put3 z u v x)
theorem cmp3_sub {a b p : Int} (h : cmp3 a b = p) : cmp3 (a - b) 0 = p := by
  rcases cmp3_cases h with ⟨rfl, h2⟩ | ⟨rfl, h2⟩ | ⟨rfl, h2⟩
  · exact cmp3_lt (by omega)
  · rw [h2, Int.sub_self]; exact cmp3_self 0
  · exact cmp3_gt (by omega)
theorem cmp3_add {a b c p : Int} (h : cmp3 a b = p) : cmp3 (a + c) (b + c) = p := by
  rcases cmp3_cases h with ⟨rfl, h2⟩ | ⟨rfl, h2⟩ | ⟨rfl, h2⟩
  · exact cmp3_lt (by omega)
  · rw [h2]; exact cmp3_self _
  · exact cmp3_gt (by omega)
theorem order_facts {a b c p q r p' : Int} {sb : Bool} (hp : cmp3 a b = p) (hq : cmp3 b c = q) (hr : cmp3 a c = r) (hp' : cmp3 b a = p') (hs : decide (a = b) = sb) : (p = -1 ∨ p = 0 ∨ p = 1) ∧ p' = -p ∧ sb = decide (p = 0) ∧ (p ≤ 0 → q ≤ 0 → r ≤ 0) := by
  refine ⟨?_, ?_, ?_, fun h1 h2 => ?_⟩
  · rcases cmp3_cases hp with ⟨h1, _⟩ | ⟨h1, _⟩ | ⟨h1, _⟩ <;> simp [h1]
  · rcases cmp3_cases hp with ⟨h1, h2⟩ | ⟨h1, h2⟩ | ⟨h1, h2⟩ <;> rcases cmp3_cases hp' with ⟨h3, h4⟩ | ⟨h3, h4⟩ | ⟨h3, h4⟩ <;> omega
  · rw [← hs]; refine decide_eq_decide.2 ?_; rcases cmp3_cases hp with ⟨h1, h2⟩ | ⟨h1, h2⟩ | ⟨h1, h2⟩ <;> omega
  · rcases cmp3_cases hp with ⟨h3, h4⟩ | ⟨h3, h4⟩ | ⟨h3, h4⟩ <;> rcases cmp3_cases hq with ⟨h5, h6⟩ | ⟨h5, h6⟩ | ⟨h5, h6⟩ <;> rcases cmp3_cases hr with ⟨h7, h8⟩ | ⟨h7, h8⟩ | ⟨h7, h8⟩ <;> omega
theorem subF {x y z er : Int} {n1 n2 n3 : Bool} {xs ys zs : List Int} (hx : Num x n1 xs) (hy : Num y n2 ys) (hz : Num z n3 zs) (he : fitR (x - y) = (z, er)) (ax : Option Addr) (la ca : Nat) (ay : Option Addr) (lb cb : Nat) (w : World) (sx : Sl w ax la ca xs) (sy : Sl w ay lb cb ys) :
    Calls Tryz.prog 46 #[.agg #[.bool n1, .slice ax la ca], .agg #[.bool n2, .slice ay lb cb]] w (RetPE n3 zs er w) := by
  obtain ⟨h1, rfl, rfl⟩ := hx
  obtain ⟨h2, rfl, rfl⟩ := hy
  obtain ⟨h3, rfl, rfl⟩ := hz
  refine (Sub_ok x y h1 h2 ax la ca ay lb cb w sx sy).mono fun _ _ h => ?_
  have := h.fit
  rw [he] at this
  exact this
theorem sameF {x y : Int} {n1 n2 : Bool} {xs ys : List Int} (hx : Num x n1 xs) (hy : Num y n2 ys) {r : Bool} (hr : decide (x = y) = r) (ax : Option Addr) (la ca : Nat) (ay : Option Addr) (lb cb : Nat) (w : World) (sx : Sl w ax la ca xs) (sy : Sl w ay lb cb ys) :
    Calls Tryz.prog 22 #[.agg #[.bool n1, .slice ax la ca], .agg #[.bool n2, .slice ay lb cb]] w (RetBool r w) := by
  obtain ⟨_, rfl, rfl⟩ := hx
  obtain ⟨_, rfl, rfl⟩ := hy
  have := same_any (decide (x < 0)) ax la ca (parts x.natAbs) (decide (y < 0)) ay lb cb (parts y.natAbs) w sx sy
  rw [sameI_num, hr] at this
  exact this

set_option maxRecDepth 100000 in
set_option maxHeartbeats 16000000 in
theorem order_wrong (na : Bool) (aa : Option Addr) (la ca : Nat) (xa : List Int) (nb : Bool) (ab : Option Addr) (lb cb : Nat) (xb : List Int) (nc : Bool) (ac : Option Addr) (lc cc : Nat) (xc : List Int) (w : World) (ht : Tab w) (sa : Sl w aa la ca xa) (sb : Sl w ab lb cb xb) (sc : Sl w ac lc cc xc) (hr : (!(wrong ⟨na, aa, la, ca, xa⟩ || (wrong ⟨nb, ab, lb, cb, xb⟩ || wrong ⟨nc, ac, lc, cc, xc⟩))) = false) : Calls Tryz.prog 9 #[.agg #[.bool na, .slice aa la ca], .agg #[.bool nb, .slice ab lb cb], .agg #[.bool nc, .slice ac lc cc]] w (RetBool true w) := by
  have Hr := Lib.hid (fun w g hg h1 h2 h3 => right3 na aa la ca xa nb ab lb cb xb nc ac lc cc xc w g hg h1 h2 h3 false hr)
  clear hr
  go_enter Tryz.func9, Tryz.ntmps9
  have U0 := Below.refl w.heap.size w
  go_wp2_with fail
  replace U0 := U0.alloc U0.size (.cells #[.bool na, .slice aa la ca] 24)
  replace ht := ht.alloc (.cells #[.bool na, .slice aa la ca] 24)
  replace sa := sa.alloc (.cells #[.bool na, .slice aa la ca] 24)
  replace sb := sb.alloc (.cells #[.bool na, .slice aa la ca] 24)
  replace sc := sc.alloc (.cells #[.bool na, .slice aa la ca] 24)
  have Ta := BoxI.new w (w.heap.size) (by first | rfl | simp) na aa la ca
  have cTa0 := Ta.cells.1
  have cTa1 := Ta.cells.2
  have zTa := Ta.lt
  replace U0 := U0.alloc U0.size (.cells #[.bool nb, .slice ab lb cb] 24)
  replace ht := ht.alloc (.cells #[.bool nb, .slice ab lb cb] 24)
  replace sa := sa.alloc (.cells #[.bool nb, .slice ab lb cb] 24)
  replace sb := sb.alloc (.cells #[.bool nb, .slice ab lb cb] 24)
  replace sc := sc.alloc (.cells #[.bool nb, .slice ab lb cb] 24)
  replace Ta := Ta.alloc (.cells #[.bool nb, .slice ab lb cb] 24)
  replace cTa0 := Ta.cells.1
  replace cTa1 := Ta.cells.2
  replace zTa := Ta.lt
  have Tb := BoxI.new (w.alloc (.cells #[.bool na, .slice aa la ca] 24)) (w.heap.size + 1) (by first | rfl | simp) nb ab lb cb
  have cTb0 := Tb.cells.1
  have cTb1 := Tb.cells.2
  have zTb := Tb.lt
  replace U0 := U0.alloc U0.size (.cells #[.bool nc, .slice ac lc cc] 24)
  replace ht := ht.alloc (.cells #[.bool nc, .slice ac lc cc] 24)
  replace sa := sa.alloc (.cells #[.bool nc, .slice ac lc cc] 24)
  replace sb := sb.alloc (.cells #[.bool nc, .slice ac lc cc] 24)
  replace sc := sc.alloc (.cells #[.bool nc, .slice ac lc cc] 24)
  replace Ta := Ta.alloc (.cells #[.bool nc, .slice ac lc cc] 24)
  replace Tb := Tb.alloc (.cells #[.bool nc, .slice ac lc cc] 24)
  replace cTa0 := Ta.cells.1
  replace cTa1 := Ta.cells.2
  replace zTa := Ta.lt
  replace cTb0 := Tb.cells.1
  replace cTb1 := Tb.cells.2
  replace zTb := Tb.lt
  have Tc := BoxI.new ((w.alloc (.cells #[.bool na, .slice aa la ca] 24)).alloc (.cells #[.bool nb, .slice ab lb cb] 24)) (w.heap.size + 1 + 1) (by first | rfl | simp) nc ac lc cc
  have cTc0 := Tc.cells.1
  have cTc1 := Tc.cells.2
  have zTc := Tc.lt
  (with_reducible refine (sane_any _ (by exact ht)).mono ?_)
  rintro e w1 ⟨rfl, b1⟩
  replace U0 := U0.trans (b1.mono U0.size)
  replace ht := ht.below b1
  replace sa := sa.below b1
  replace sb := sb.below b1
  replace sc := sc.below b1
  replace Ta := Ta.below b1
  replace Tb := Tb.below b1
  replace Tc := Tc.below b1
  replace cTa0 := Ta.cells.1
  replace cTa1 := Ta.cells.2
  replace zTa := Ta.lt
  replace cTb0 := Tb.cells.1
  replace cTb1 := Tb.cells.2
  replace zTb := Tb.lt
  replace cTc0 := Tc.cells.1
  replace cTc1 := Tc.cells.2
  replace zTc := Tc.lt
  clear b1
  clear ht
  go_wp2_with fail
  replace U0 := U0.alloc U0.size (.cells #[.bool na, .slice aa la ca, .bool nb, .slice ab lb cb, .bool nc, .slice ac lc cc] 24)
  replace sa := sa.alloc (.cells #[.bool na, .slice aa la ca, .bool nb, .slice ab lb cb, .bool nc, .slice ac lc cc] 24)
  replace sb := sb.alloc (.cells #[.bool na, .slice aa la ca, .bool nb, .slice ab lb cb, .bool nc, .slice ac lc cc] 24)
  replace sc := sc.alloc (.cells #[.bool na, .slice aa la ca, .bool nb, .slice ab lb cb, .bool nc, .slice ac lc cc] 24)
  replace Ta := Ta.alloc (.cells #[.bool na, .slice aa la ca, .bool nb, .slice ab lb cb, .bool nc, .slice ac lc cc] 24)
  replace Tb := Tb.alloc (.cells #[.bool na, .slice aa la ca, .bool nb, .slice ab lb cb, .bool nc, .slice ac lc cc] 24)
  replace Tc := Tc.alloc (.cells #[.bool na, .slice aa la ca, .bool nb, .slice ab lb cb, .bool nc, .slice ac lc cc] 24)
  replace cTa0 := Ta.cells.1
  replace cTa1 := Ta.cells.2
  replace zTa := Ta.lt
  replace cTb0 := Tb.cells.1
  replace cTb1 := Tb.cells.2
  replace zTb := Tb.lt
  replace cTc0 := Tc.cells.1
  replace cTc1 := Tc.cells.2
  replace zTc := Tc.lt
  (with_reducible refine (Hr.out _ _ (heap_new _ _) (by exact sa) (by exact sb) (by exact sc)).mono ?_)
  rintro e w2 ⟨rfl, b2⟩
  replace U0 := U0.trans (b2.mono U0.size)
  replace sa := sa.below b2
  replace sb := sb.below b2
  replace sc := sc.below b2
  replace Ta := Ta.below b2
  replace Tb := Tb.below b2
  replace Tc := Tc.below b2
  replace cTa0 := Ta.cells.1
  replace cTa1 := Ta.cells.2
  replace zTa := Ta.lt
  replace cTb0 := Tb.cells.1
  replace cTb1 := Tb.cells.2
  replace zTb := Tb.lt
  replace cTc0 := Tc.cells.1
  replace cTc1 := Tc.cells.2
  replace zTc := Tc.lt
  clear b2
  go_wp2
  go_ret
  exact ⟨rfl, U0⟩

set_option maxRecDepth 100000 in
set_option maxHeartbeats 16000000 in
theorem order_right (na : Bool) (aa : Option Addr) (la ca : Nat) (xa : List Int) (nb : Bool) (ab : Option Addr) (lb cb : Nat) (xb : List Int) (nc : Bool) (ac : Option Addr) (lc cc : Nat) (xc : List Int) (w : World) (ht : Tab w) (sa : Sl w aa la ca xa) (sb : Sl w ab lb cb xb) (sc : Sl w ac lc cc xc) (a : Int) (Na : Num a na xa) (b : Int) (Nb : Num b nb xb) (c : Int) (Nc : Num c nc xc) (hr : (!(wrong ⟨na, aa, la, ca, xa⟩ || (wrong ⟨nb, ab, lb, cb, xb⟩ || wrong ⟨nc, ac, lc, cc, xc⟩))) = true) : Calls Tryz.prog 9 #[.agg #[.bool na, .slice aa la ca], .agg #[.bool nb, .slice ab lb cb], .agg #[.bool nc, .slice ac lc cc]] w (RetBool true w) := by
  obtain ⟨p, hp⟩ : ∃ p, cmp3 a b = p := ⟨_, rfl⟩
  obtain ⟨q, hq⟩ : ∃ p, cmp3 b c = p := ⟨_, rfl⟩
  obtain ⟨r, hr_⟩ : ∃ p, cmp3 a c = p := ⟨_, rfl⟩
  obtain ⟨p', hp'⟩ : ∃ p, cmp3 b a = p := ⟨_, rfl⟩
  obtain ⟨vc, hvc⟩ : ∃ v, cmp3 c 0 = v := ⟨_, rfl⟩
  obtain ⟨sb_, hsb⟩ : ∃ s, decide (a = b) = s := ⟨_, rfl⟩
  obtain ⟨d, ed, hd⟩ : ∃ v e, fitR (a - b) = (v, e) := ⟨_, _, rfl⟩
  have ld_ : Lim d := by have := fitR_lim (a - b); rw [hd] at this; exact this
  obtain ⟨nd, xd, Nd⟩ : ∃ n xs, Num d n xs := ⟨_, _, ld_, rfl, rfl⟩
  obtain ⟨x, ex, hx⟩ : ∃ v e, sumR (a, 0) (c, 0) = (v, e) := ⟨_, _, rfl⟩
  have lx_ : Lim x := by have := sumR_lim (a, 0) (c, 0); rw [hx] at this; exact this
  obtain ⟨nx, xx, Nx⟩ : ∃ n xs, Num x n xs := ⟨_, _, lx_, rfl, rfl⟩
  obtain ⟨y, ey, hy⟩ : ∃ v e, sumR (b, 0) (c, 0) = (v, e) := ⟨_, _, rfl⟩
  have ly_ : Lim y := by have := sumR_lim (b, 0) (c, 0); rw [hy] at this; exact this
  obtain ⟨ny, xy, Ny⟩ : ∃ n xs, Num y n xs := ⟨_, _, ly_, rfl, rfl⟩
  obtain ⟨t, et, ht'⟩ : ∃ v e, timesR (a, 0) (c, 0) = (v, e) := ⟨_, _, rfl⟩
  have lt_ : Lim t := by have := timesR_lim (a, 0) (c, 0); rw [ht'] at this; exact this
  obtain ⟨nt, xt, Nt⟩ : ∃ n xs, Num t n xs := ⟨_, _, lt_, rfl, rfl⟩
  obtain ⟨u, eu, hu⟩ : ∃ v e, timesR (b, 0) (c, 0) = (v, e) := ⟨_, _, rfl⟩
  have lu_ : Lim u := by have := timesR_lim (b, 0) (c, 0); rw [hu] at this; exact this
  obtain ⟨nu, xu, Nu⟩ : ∃ n xs, Num u n xs := ⟨_, _, lu_, rfl, rfl⟩
  have M6 := Lib.hid (order_facts hp hq hr_ hp' hsb)
  have Cab := Lib.hid (fun ax la ca ay lb cb w h1 h2 => compareP Na Nb hp ax la ca ay lb cb w h1 h2)
  have Cbc := Lib.hid (fun ax la ca ay lb cb w h1 h2 => compareP Nb Nc hq ax la ca ay lb cb w h1 h2)
  have Cac := Lib.hid (fun ax la ca ay lb cb w h1 h2 => compareP Na Nc hr_ ax la ca ay lb cb w h1 h2)
  have Cba := Lib.hid (fun ax la ca ay lb cb w h1 h2 => compareP Nb Na hp' ax la ca ay lb cb w h1 h2)
  have Caa := Lib.hid (fun ax la ca ay lb cb w h1 h2 => compareP Na Na (cmp3_self a) ax la ca ay lb cb w h1 h2)
  have Sab := Lib.hid (fun ax la ca ay lb cb w h1 h2 => sameF Na Nb hsb ax la ca ay lb cb w h1 h2)
  have Sub_ := Lib.hid (fun ax la ca ay lb cb w h1 h2 => subF Na Nb Nd hd ax la ca ay lb cb w h1 h2)
  have Sd := Lib.hid (fun (h : ed = 0) ao len cap w hs => signQ Nd (show cmp3 d 0 = p by subst h; rw [fitR_zero hd]; exact cmp3_sub hp) ao len cap w hs)
  have Cx := Lib.hid (fun ax la ca ay lb cb w h1 h2 => lawSum_any Na Nc Nx hx ax la ca ay lb cb w h1 h2)
  have Cy := Lib.hid (fun ax la ca ay lb cb w h1 h2 => lawSum_any Nb Nc Ny hy ax la ca ay lb cb w h1 h2)
  have Cxy := Lib.hid (fun (h : ex = 0 ∧ ey = 0) ax la ca ay lb cb w h1 h2 => compareP Nx Ny (show cmp3 x y = p by obtain ⟨k1, k2⟩ := h; subst k1; subst k2; rw [(sumR_zero hx).2.2, (sumR_zero hy).2.2]; exact cmp3_add hp) ax la ca ay lb cb w h1 h2)
  have Ct := Lib.hid (fun ax la ca ay lb cb w h1 h2 => lawTimes_any Na Nc Nt ht' ax la ca ay lb cb w h1 h2)
  have Cu := Lib.hid (fun ax la ca ay lb cb w h1 h2 => lawTimes_any Nb Nc Nu hu ax la ca ay lb cb w h1 h2)
  have MX := Lib.hid (fun (X Y : List Int) (h0 : 0 < vc) (h1 : et = 0) (h2 : eu = 0) m1 m2 => (order_end (X := X) (Y := Y) Na Nb (pos_sign hvc h0) hx hy ht' hu Nt Nu h1 h2 m1 m2).trans hp)
  have Lxx := Lib.hid Nx.last
  have Lxy := Lib.hid Ny.last
  have Lxa := Lib.hid Na.last
  have Lxb := Lib.hid Nb.last
  have Lxc := Lib.hid Nc.last
  have hlc : (parts c.natAbs).length = lc := by have := sc.length; rw [Nc.2.2] at this; exact this
  have hlc40 : lc ≤ 40 := by have := Nc.1; unfold Lim at this; omega
  have Sc := Lib.hid (fun w => (show Calls Tryz.prog 40 #[.agg #[.bool nc, .slice ac lc cc]] w (RetB vc w) from by
    have := sign_any nc ac lc cc w (by omega)
    rw [Nc.2.1, sign_num c lc hlc, hvc] at this
    rw [Nc.2.1]; exact this))
  have Hr := Lib.hid (fun w g hg h1 h2 h3 => right3 na aa la ca xa nb ab lb cb xb nc ac lc cc xc w g hg h1 h2 h3 true hr)
  clear hr hp hq hr_ hp' hvc hsb hd hx hy ht' hu ld_ lx_ ly_ lt_ lu_ hlc hlc40 Na Nb Nc Nd Nx Ny Nt Nu
  go_enter Tryz.func9, Tryz.ntmps9
  have U0 := Below.refl w.heap.size w
  go_wp2_with fail
  replace U0 := U0.alloc U0.size (.cells #[.bool na, .slice aa la ca] 24)
  replace ht := ht.alloc (.cells #[.bool na, .slice aa la ca] 24)
  replace sa := sa.alloc (.cells #[.bool na, .slice aa la ca] 24)
  replace sb := sb.alloc (.cells #[.bool na, .slice aa la ca] 24)
  replace sc := sc.alloc (.cells #[.bool na, .slice aa la ca] 24)
  have Ta := BoxI.new w (w.heap.size) (by first | rfl | simp) na aa la ca
  have cTa0 := Ta.cells.1
  have cTa1 := Ta.cells.2
  have zTa := Ta.lt
  replace U0 := U0.alloc U0.size (.cells #[.bool nb, .slice ab lb cb] 24)
  replace ht := ht.alloc (.cells #[.bool nb, .slice ab lb cb] 24)
  replace sa := sa.alloc (.cells #[.bool nb, .slice ab lb cb] 24)
  replace sb := sb.alloc (.cells #[.bool nb, .slice ab lb cb] 24)
  replace sc := sc.alloc (.cells #[.bool nb, .slice ab lb cb] 24)
  replace Ta := Ta.alloc (.cells #[.bool nb, .slice ab lb cb] 24)
  replace cTa0 := Ta.cells.1
  replace cTa1 := Ta.cells.2
  replace zTa := Ta.lt
  have Tb := BoxI.new (w.alloc (.cells #[.bool na, .slice aa la ca] 24)) (w.heap.size + 1) (by first | rfl | simp) nb ab lb cb
  have cTb0 := Tb.cells.1
  have cTb1 := Tb.cells.2
  have zTb := Tb.lt
  replace U0 := U0.alloc U0.size (.cells #[.bool nc, .slice ac lc cc] 24)
  replace ht := ht.alloc (.cells #[.bool nc, .slice ac lc cc] 24)
  replace sa := sa.alloc (.cells #[.bool nc, .slice ac lc cc] 24)
  replace sb := sb.alloc (.cells #[.bool nc, .slice ac lc cc] 24)
  replace sc := sc.alloc (.cells #[.bool nc, .slice ac lc cc] 24)
  replace Ta := Ta.alloc (.cells #[.bool nc, .slice ac lc cc] 24)
  replace Tb := Tb.alloc (.cells #[.bool nc, .slice ac lc cc] 24)
  replace cTa0 := Ta.cells.1
  replace cTa1 := Ta.cells.2
  replace zTa := Ta.lt
  replace cTb0 := Tb.cells.1
  replace cTb1 := Tb.cells.2
  replace zTb := Tb.lt
  have Tc := BoxI.new ((w.alloc (.cells #[.bool na, .slice aa la ca] 24)).alloc (.cells #[.bool nb, .slice ab lb cb] 24)) (w.heap.size + 1 + 1) (by first | rfl | simp) nc ac lc cc
  have cTc0 := Tc.cells.1
  have cTc1 := Tc.cells.2
  have zTc := Tc.lt
  (with_reducible refine (sane_any _ (by exact ht)).mono ?_)
  rintro e w1 ⟨rfl, b1⟩
  replace U0 := U0.trans (b1.mono U0.size)
  replace ht := ht.below b1
  replace sa := sa.below b1
  replace sb := sb.below b1
  replace sc := sc.below b1
  replace Ta := Ta.below b1
  replace Tb := Tb.below b1
  replace Tc := Tc.below b1
  replace cTa0 := Ta.cells.1
  replace cTa1 := Ta.cells.2
  replace zTa := Ta.lt
  replace cTb0 := Tb.cells.1
  replace cTb1 := Tb.cells.2
  replace zTb := Tb.lt
  replace cTc0 := Tc.cells.1
  replace cTc1 := Tc.cells.2
  replace zTc := Tc.lt
  clear b1
  clear ht
  go_wp2_with fail
  replace U0 := U0.alloc U0.size (.cells #[.bool na, .slice aa la ca, .bool nb, .slice ab lb cb, .bool nc, .slice ac lc cc] 24)
  replace sa := sa.alloc (.cells #[.bool na, .slice aa la ca, .bool nb, .slice ab lb cb, .bool nc, .slice ac lc cc] 24)
  replace sb := sb.alloc (.cells #[.bool na, .slice aa la ca, .bool nb, .slice ab lb cb, .bool nc, .slice ac lc cc] 24)
  replace sc := sc.alloc (.cells #[.bool na, .slice aa la ca, .bool nb, .slice ab lb cb, .bool nc, .slice ac lc cc] 24)
  replace Ta := Ta.alloc (.cells #[.bool na, .slice aa la ca, .bool nb, .slice ab lb cb, .bool nc, .slice ac lc cc] 24)
  replace Tb := Tb.alloc (.cells #[.bool na, .slice aa la ca, .bool nb, .slice ab lb cb, .bool nc, .slice ac lc cc] 24)
  replace Tc := Tc.alloc (.cells #[.bool na, .slice aa la ca, .bool nb, .slice ab lb cb, .bool nc, .slice ac lc cc] 24)
  replace cTa0 := Ta.cells.1
  replace cTa1 := Ta.cells.2
  replace zTa := Ta.lt
  replace cTb0 := Tb.cells.1
  replace cTb1 := Tb.cells.2
  replace zTb := Tb.lt
  replace cTc0 := Tc.cells.1
  replace cTc1 := Tc.cells.2
  replace zTc := Tc.lt
  (with_reducible refine (Hr.out _ _ (heap_new _ _) (by exact sa) (by exact sb) (by exact sc)).mono ?_)
  rintro e w2 ⟨rfl, b2⟩
  replace U0 := U0.trans (b2.mono U0.size)
  replace sa := sa.below b2
  replace sb := sb.below b2
  replace sc := sc.below b2
  replace Ta := Ta.below b2
  replace Tb := Tb.below b2
  replace Tc := Tc.below b2
  replace cTa0 := Ta.cells.1
  replace cTa1 := Ta.cells.2
  replace zTa := Ta.lt
  replace cTb0 := Tb.cells.1
  replace cTb1 := Tb.cells.2
  replace zTb := Tb.lt
  replace cTc0 := Tc.cells.1
  replace cTc1 := Tc.cells.2
  replace zTc := Tc.lt
  clear b2
  clear Hr
  go_upto_region 5 with (fail)
  go_cut [7, 8, 9] (fun s7 s8 s9 wx => s7 = .int .i64 p ∧ s8 = .int .i64 q ∧ s9 = .int .i64 r ∧ OrdCut w (w.heap.size) (w.heap.size + 1) (w.heap.size + 1 + 1) na aa la ca xa nb ab lb cb xb nc ac lc cc xc wx)
  case first => as_aux_lemma =>
    clear cTa0 cTa1 zTa cTb0 cTb1 zTb cTc0 cTc1 zTc
    clear M6 Cba Caa Sab Sub_ Sd Cx Cy Cxy Ct Cu MX Lxx Lxy Sc
    refine region_kept 12 [some 22, some 23, some 24, some 25, some 26, some 27, some 28, some 29, some 30, some 7, some 8, some 9] (fun U => [U 0, U 1, U 2, U 3, U 4, U 5, U 6, U 7, U 8, U 9, U 10, U 11]) (fun L U w' => Below (w2).heap.size (w2) w' ∧ (L 0 = true → U 0 = .agg #[.bool na, .slice aa la ca]) ∧ (L 1 = true → U 1 = .agg #[.bool nb, .slice ab lb cb]) ∧ (L 2 = true → U 2 = .int .i64 p) ∧ (L 3 = true → U 3 = .agg #[.bool nb, .slice ab lb cb]) ∧ (L 4 = true → U 4 = .agg #[.bool nc, .slice ac lc cc]) ∧ (L 5 = true → U 5 = .int .i64 q) ∧ (L 6 = true → U 6 = .agg #[.bool na, .slice aa la ca]) ∧ (L 7 = true → U 7 = .agg #[.bool nc, .slice ac lc cc]) ∧ (L 8 = true → U 8 = .int .i64 r) ∧ (L 9 = true → U 9 = .int .i64 p) ∧ (L 10 = true → U 10 = .int .i64 q) ∧ (L 11 = true → U 11 = .int .i64 r)) rfl rfl (fun _ => rfl) rfl (by kernel_rfl) (by kernel_rfl) (by kernel_rfl) ?start ?step ?fin
    case start =>
      intro U
      exact ⟨(Below.refl _ _).drew, (by intro h; cases h), (by intro h; cases h), (by intro h; cases h), (by intro h; cases h), (by intro h; cases h), (by intro h; cases h), (by intro h; cases h), (by intro h; cases h), (by intro h; cases h), (by intro h; cases h), (by intro h; cases h), (by intro h; cases h)⟩
    case step =>
      refine ⟨?_, ?_, ?_, ?_, ?_, ?_, ?_, ?_, ?_, ?_, ?_, ?_, trivial⟩
      · intro L U w' b hF hLi hmet hb ho K hK
        obtain ⟨U1, k0, k1, k2, k3, k4, k5, k6, k7, k8, k9, k10, k11⟩ := hF
        have s3 : b.tmps.getD 3 undef = .pointer (some ⟨w.heap.size, 0, none⟩) := (ho 3 rfl).trans rfl
        have r3 := getD_r s3
        have t0_ := (Ta.below U1).cells.1
        have t1_ := (Ta.below U1).cells.2
        clear hb ho hmet
        rw [if_pos (by rfl)]
        go_simp
        exact hK.out (.agg #[.bool na, .slice aa la ca]) w' ⟨U1, (fun _ => rfl), k1, k2, k3, k4, k5, k6, k7, k8, k9, k10, k11⟩
      · intro L U w' b hF hLi hmet hb ho K hK
        obtain ⟨U1, k0, k1, k2, k3, k4, k5, k6, k7, k8, k9, k10, k11⟩ := hF
        have s4 : b.tmps.getD 4 undef = .pointer (some ⟨w.heap.size + 1, 0, none⟩) := (ho 4 rfl).trans rfl
        have r4 := getD_r s4
        have t0_ := (Tb.below U1).cells.1
        have t1_ := (Tb.below U1).cells.2
        clear hb ho hmet
        rw [if_pos (by rfl)]
        go_simp
        exact hK.out (.agg #[.bool nb, .slice ab lb cb]) w' ⟨U1, k0, (fun _ => rfl), k2, k3, k4, k5, k6, k7, k8, k9, k10, k11⟩
      · intro L U w' b hF hLi hmet hb ho K hK
        obtain ⟨U1, k0, k1, k2, k3, k4, k5, k6, k7, k8, k9, k10, k11⟩ := hF
        have s22 := (hb 0 22 rfl).trans (k0 (hmet.get rfl))
        have r22 := getD_r s22
        have s23 := (hb 1 23 rfl).trans (k1 (hmet.get rfl))
        have r23 := getD_r s23
        clear hb ho hmet
        rw [if_pos (by rfl)]
        go_simp
        go_at_call 38
        (with_reducible refine (Cab.out _ _ _ _ _ _ _ (by exact (sa.below U1)) (by exact (sb.below U1))).mono ?_)
        rintro e_ wq ⟨rfl, bq⟩
        exact hK.out (.int .i64 p) wq ⟨(U1.trans (bq.mono U1.size)), k0, k1, (fun _ => rfl), k3, k4, k5, k6, k7, k8, k9, k10, k11⟩
      · intro L U w' b hF hLi hmet hb ho K hK
        obtain ⟨U1, k0, k1, k2, k3, k4, k5, k6, k7, k8, k9, k10, k11⟩ := hF
        have s4 : b.tmps.getD 4 undef = .pointer (some ⟨w.heap.size + 1, 0, none⟩) := (ho 4 rfl).trans rfl
        have r4 := getD_r s4
        have t0_ := (Tb.below U1).cells.1
        have t1_ := (Tb.below U1).cells.2
        clear hb ho hmet
        rw [if_pos (by rfl)]
        go_simp
        exact hK.out (.agg #[.bool nb, .slice ab lb cb]) w' ⟨U1, k0, k1, k2, (fun _ => rfl), k4, k5, k6, k7, k8, k9, k10, k11⟩
      · intro L U w' b hF hLi hmet hb ho K hK
        obtain ⟨U1, k0, k1, k2, k3, k4, k5, k6, k7, k8, k9, k10, k11⟩ := hF
        have s5 : b.tmps.getD 5 undef = .pointer (some ⟨w.heap.size + 1 + 1, 0, none⟩) := (ho 5 rfl).trans rfl
        have r5 := getD_r s5
        have t0_ := (Tc.below U1).cells.1
        have t1_ := (Tc.below U1).cells.2
        clear hb ho hmet
        rw [if_pos (by rfl)]
        go_simp
        exact hK.out (.agg #[.bool nc, .slice ac lc cc]) w' ⟨U1, k0, k1, k2, k3, (fun _ => rfl), k5, k6, k7, k8, k9, k10, k11⟩
      · intro L U w' b hF hLi hmet hb ho K hK
        obtain ⟨U1, k0, k1, k2, k3, k4, k5, k6, k7, k8, k9, k10, k11⟩ := hF
        have s25 := (hb 3 25 rfl).trans (k3 (hmet.get rfl))
        have r25 := getD_r s25
        have s26 := (hb 4 26 rfl).trans (k4 (hmet.get rfl))
        have r26 := getD_r s26
        clear hb ho hmet
        rw [if_pos (by rfl)]
        go_simp
        go_at_call 38
        (with_reducible refine (Cbc.out _ _ _ _ _ _ _ (by exact (sb.below U1)) (by exact (sc.below U1))).mono ?_)
        rintro e_ wq ⟨rfl, bq⟩
        exact hK.out (.int .i64 q) wq ⟨(U1.trans (bq.mono U1.size)), k0, k1, k2, k3, k4, (fun _ => rfl), k6, k7, k8, k9, k10, k11⟩
      · intro L U w' b hF hLi hmet hb ho K hK
        obtain ⟨U1, k0, k1, k2, k3, k4, k5, k6, k7, k8, k9, k10, k11⟩ := hF
        have s3 : b.tmps.getD 3 undef = .pointer (some ⟨w.heap.size, 0, none⟩) := (ho 3 rfl).trans rfl
        have r3 := getD_r s3
        have t0_ := (Ta.below U1).cells.1
        have t1_ := (Ta.below U1).cells.2
        clear hb ho hmet
        rw [if_pos (by rfl)]
        go_simp
        exact hK.out (.agg #[.bool na, .slice aa la ca]) w' ⟨U1, k0, k1, k2, k3, k4, k5, (fun _ => rfl), k7, k8, k9, k10, k11⟩
      · intro L U w' b hF hLi hmet hb ho K hK
        obtain ⟨U1, k0, k1, k2, k3, k4, k5, k6, k7, k8, k9, k10, k11⟩ := hF
        have s5 : b.tmps.getD 5 undef = .pointer (some ⟨w.heap.size + 1 + 1, 0, none⟩) := (ho 5 rfl).trans rfl
        have r5 := getD_r s5
        have t0_ := (Tc.below U1).cells.1
        have t1_ := (Tc.below U1).cells.2
        clear hb ho hmet
        rw [if_pos (by rfl)]
        go_simp
        exact hK.out (.agg #[.bool nc, .slice ac lc cc]) w' ⟨U1, k0, k1, k2, k3, k4, k5, k6, (fun _ => rfl), k8, k9, k10, k11⟩
      · intro L U w' b hF hLi hmet hb ho K hK
        obtain ⟨U1, k0, k1, k2, k3, k4, k5, k6, k7, k8, k9, k10, k11⟩ := hF
        have s28 := (hb 6 28 rfl).trans (k6 (hmet.get rfl))
        have r28 := getD_r s28
        have s29 := (hb 7 29 rfl).trans (k7 (hmet.get rfl))
        have r29 := getD_r s29
        clear hb ho hmet
        rw [if_pos (by rfl)]
        go_simp
        go_at_call 38
        (with_reducible refine (Cac.out _ _ _ _ _ _ _ (by exact (sa.below U1)) (by exact (sc.below U1))).mono ?_)
        rintro e_ wq ⟨rfl, bq⟩
        exact hK.out (.int .i64 r) wq ⟨(U1.trans (bq.mono U1.size)), k0, k1, k2, k3, k4, k5, k6, k7, (fun _ => rfl), k9, k10, k11⟩
      · intro L U w' b hF hLi hmet hb ho K hK
        obtain ⟨U1, k0, k1, k2, k3, k4, k5, k6, k7, k8, k9, k10, k11⟩ := hF
        have s24 := (hb 2 24 rfl).trans (k2 (hmet.get rfl))
        have r24 := getD_r s24
        clear hb ho hmet
        rw [if_pos (by rfl)]
        go_simp
        exact hK.out (.int .i64 p) w' ⟨U1, k0, k1, k2, k3, k4, k5, k6, k7, k8, (fun _ => rfl), k10, k11⟩
      · intro L U w' b hF hLi hmet hb ho K hK
        obtain ⟨U1, k0, k1, k2, k3, k4, k5, k6, k7, k8, k9, k10, k11⟩ := hF
        have s27 := (hb 5 27 rfl).trans (k5 (hmet.get rfl))
        have r27 := getD_r s27
        clear hb ho hmet
        rw [if_pos (by rfl)]
        go_simp
        exact hK.out (.int .i64 q) w' ⟨U1, k0, k1, k2, k3, k4, k5, k6, k7, k8, k9, (fun _ => rfl), k11⟩
      · intro L U w' b hF hLi hmet hb ho K hK
        obtain ⟨U1, k0, k1, k2, k3, k4, k5, k6, k7, k8, k9, k10, k11⟩ := hF
        have s30 := (hb 8 30 rfl).trans (k8 (hmet.get rfl))
        have r30 := getD_r s30
        clear hb ho hmet
        rw [if_pos (by rfl)]
        go_simp
        exact hK.out (.int .i64 r) w' ⟨U1, k0, k1, k2, k3, k4, k5, k6, k7, k8, k9, k10, (fun _ => rfl)⟩
    case fin =>
      intro L U wx hF hall
      obtain ⟨U1, k0, k1, k2, k3, k4, k5, k6, k7, k8, k9, k10, k11⟩ := hF
      have kl9 := k9 (hall 9 (by decide))
      have kl10 := k10 (hall 10 (by decide))
      have kl11 := k11 (hall 11 (by decide))
      have kl := k11 (hall 11 (by decide))
      clear k0 k1 k2 k3 k4 k5 k6 k7 k8 k9 k10 k11 hall
      simp only [fillA, Act.put, List.setIfInBounds_toArray, List.set_cons_zero, List.set_cons_succ]
      go_wp2_with fail; go_meet
      exact ⟨kl9, kl10, kl11, Ta.below U1, sa.below U1, Tb.below U1, sb.below U1, Tc.below U1, sc.below U1, U0.trans (U1.mono U0.size)⟩
  case rest =>
    obtain ⟨rfl, rfl, rfl, Ta, sa, Tb, sb, Tc, sc, U0⟩ := hcut
    have cTa0 := Ta.cells.1
    have cTa1 := Ta.cells.2
    have zTa := Ta.lt
    have cTb0 := Tb.cells.1
    have cTb1 := Tb.cells.2
    have zTb := Tb.lt
    have cTc0 := Tc.cells.1
    have cTc1 := Tc.cells.2
    have zTc := Tc.lt
    clear Cab Cbc Cac
    go_upto_region 6 with (fail)
    go_cut [70] (fun sl wx => sl = .bool false ∧ OrdCut w (w.heap.size) (w.heap.size + 1) (w.heap.size + 1 + 1) na aa la ca xa nb ab lb cb xb nc ac lc cc xc wx)
    case first => as_aux_lemma =>
      clear Sub_ Sd Cx Cy Cxy Ct Cu MX Lxx Lxy Sc
      obtain ⟨hp3, hp_, hs_, hqr⟩ := M6.out
      clear M6; subst hp_
      have Hq := Lib.hid hqr; have HS_ := Lib.hid hs_; clear hqr hs_
      rcases hp3 with rfl | rfl | rfl
      · obtain rfl : false = sb_ := by rw [HS_.out]; rfl
        clear HS_
        by_cases z0 : q ≤ 0
        · have z1 : decide (q ≤ 0) = true := decide_eq_true z0
          have v1 : decide (0 < r) = false := decide_eq_false (Int.not_lt.2 (Hq.out (by decide) z0))
          clear z0 Hq
          go_wp2_with fail
          (with_reducible refine (Cba.out _ _ _ _ _ _ _ (by exact sb) (by exact sa)).mono ?_)
          rintro e w1 ⟨rfl, b1⟩
          replace U0 := U0.trans (b1.mono U0.size)
          replace Ta := Ta.below b1
          replace sa := sa.below b1
          replace Tb := Tb.below b1
          replace sb := sb.below b1
          replace Tc := Tc.below b1
          replace sc := sc.below b1
          replace cTa0 := Ta.cells.1
          replace cTa1 := Ta.cells.2
          replace zTa := Ta.lt
          replace cTb0 := Tb.cells.1
          replace cTb1 := Tb.cells.2
          replace zTb := Tb.lt
          replace cTc0 := Tc.cells.1
          replace cTc1 := Tc.cells.2
          replace zTc := Tc.lt
          clear b1
          go_wp2_with fail
          (with_reducible refine (Caa.out _ _ _ _ _ _ _ (by exact sa) (by exact sa)).mono ?_)
          rintro e w2 ⟨rfl, b2⟩
          replace U0 := U0.trans (b2.mono U0.size)
          replace Ta := Ta.below b2
          replace sa := sa.below b2
          replace Tb := Tb.below b2
          replace sb := sb.below b2
          replace Tc := Tc.below b2
          replace sc := sc.below b2
          replace cTa0 := Ta.cells.1
          replace cTa1 := Ta.cells.2
          replace zTa := Ta.lt
          replace cTb0 := Tb.cells.1
          replace cTb1 := Tb.cells.2
          replace zTb := Tb.lt
          replace cTc0 := Tc.cells.1
          replace cTc1 := Tc.cells.2
          replace zTc := Tc.lt
          clear b2
          go_wp2_with fail
          (with_reducible refine (Sab.out _ _ _ _ _ _ _ (by exact sa) (by exact sb)).mono ?_)
          rintro e w3 ⟨rfl, b3⟩
          replace U0 := U0.trans (b3.mono U0.size)
          replace Ta := Ta.below b3
          replace sa := sa.below b3
          replace Tb := Tb.below b3
          replace sb := sb.below b3
          replace Tc := Tc.below b3
          replace sc := sc.below b3
          replace cTa0 := Ta.cells.1
          replace cTa1 := Ta.cells.2
          replace zTa := Ta.lt
          replace cTb0 := Tb.cells.1
          replace cTb1 := Tb.cells.2
          replace zTb := Tb.lt
          replace cTc0 := Tc.cells.1
          replace cTc1 := Tc.cells.2
          replace zTc := Tc.lt
          clear b3
          go_wp2_with fail; go_meet; exact ⟨rfl, Ta, sa, Tb, sb, Tc, sc, U0⟩
        · have z1 : decide (q ≤ 0) = false := decide_eq_false z0
          clear z0 Hq
          go_wp2_with fail
          (with_reducible refine (Cba.out _ _ _ _ _ _ _ (by exact sb) (by exact sa)).mono ?_)
          rintro e w1 ⟨rfl, b1⟩
          replace U0 := U0.trans (b1.mono U0.size)
          replace Ta := Ta.below b1
          replace sa := sa.below b1
          replace Tb := Tb.below b1
          replace sb := sb.below b1
          replace Tc := Tc.below b1
          replace sc := sc.below b1
          replace cTa0 := Ta.cells.1
          replace cTa1 := Ta.cells.2
          replace zTa := Ta.lt
          replace cTb0 := Tb.cells.1
          replace cTb1 := Tb.cells.2
          replace zTb := Tb.lt
          replace cTc0 := Tc.cells.1
          replace cTc1 := Tc.cells.2
          replace zTc := Tc.lt
          clear b1
          go_wp2_with fail
          (with_reducible refine (Caa.out _ _ _ _ _ _ _ (by exact sa) (by exact sa)).mono ?_)
          rintro e w2 ⟨rfl, b2⟩
          replace U0 := U0.trans (b2.mono U0.size)
          replace Ta := Ta.below b2
          replace sa := sa.below b2
          replace Tb := Tb.below b2
          replace sb := sb.below b2
          replace Tc := Tc.below b2
          replace sc := sc.below b2
          replace cTa0 := Ta.cells.1
          replace cTa1 := Ta.cells.2
          replace zTa := Ta.lt
          replace cTb0 := Tb.cells.1
          replace cTb1 := Tb.cells.2
          replace zTb := Tb.lt
          replace cTc0 := Tc.cells.1
          replace cTc1 := Tc.cells.2
          replace zTc := Tc.lt
          clear b2
          go_wp2_with fail
          (with_reducible refine (Sab.out _ _ _ _ _ _ _ (by exact sa) (by exact sb)).mono ?_)
          rintro e w3 ⟨rfl, b3⟩
          replace U0 := U0.trans (b3.mono U0.size)
          replace Ta := Ta.below b3
          replace sa := sa.below b3
          replace Tb := Tb.below b3
          replace sb := sb.below b3
          replace Tc := Tc.below b3
          replace sc := sc.below b3
          replace cTa0 := Ta.cells.1
          replace cTa1 := Ta.cells.2
          replace zTa := Ta.lt
          replace cTb0 := Tb.cells.1
          replace cTb1 := Tb.cells.2
          replace zTb := Tb.lt
          replace cTc0 := Tc.cells.1
          replace cTc1 := Tc.cells.2
          replace zTc := Tc.lt
          clear b3
          go_wp2_with fail; go_meet; exact ⟨rfl, Ta, sa, Tb, sb, Tc, sc, U0⟩
      · obtain rfl : true = sb_ := by rw [HS_.out]; rfl
        clear HS_
        by_cases z0 : q ≤ 0
        · have z1 : decide (q ≤ 0) = true := decide_eq_true z0
          have v1 : decide (0 < r) = false := decide_eq_false (Int.not_lt.2 (Hq.out (by decide) z0))
          clear z0 Hq
          go_wp2_with fail
          (with_reducible refine (Cba.out _ _ _ _ _ _ _ (by exact sb) (by exact sa)).mono ?_)
          rintro e w1 ⟨rfl, b1⟩
          replace U0 := U0.trans (b1.mono U0.size)
          replace Ta := Ta.below b1
          replace sa := sa.below b1
          replace Tb := Tb.below b1
          replace sb := sb.below b1
          replace Tc := Tc.below b1
          replace sc := sc.below b1
          replace cTa0 := Ta.cells.1
          replace cTa1 := Ta.cells.2
          replace zTa := Ta.lt
          replace cTb0 := Tb.cells.1
          replace cTb1 := Tb.cells.2
          replace zTb := Tb.lt
          replace cTc0 := Tc.cells.1
          replace cTc1 := Tc.cells.2
          replace zTc := Tc.lt
          clear b1
          go_wp2_with fail
          (with_reducible refine (Caa.out _ _ _ _ _ _ _ (by exact sa) (by exact sa)).mono ?_)
          rintro e w2 ⟨rfl, b2⟩
          replace U0 := U0.trans (b2.mono U0.size)
          replace Ta := Ta.below b2
          replace sa := sa.below b2
          replace Tb := Tb.below b2
          replace sb := sb.below b2
          replace Tc := Tc.below b2
          replace sc := sc.below b2
          replace cTa0 := Ta.cells.1
          replace cTa1 := Ta.cells.2
          replace zTa := Ta.lt
          replace cTb0 := Tb.cells.1
          replace cTb1 := Tb.cells.2
          replace zTb := Tb.lt
          replace cTc0 := Tc.cells.1
          replace cTc1 := Tc.cells.2
          replace zTc := Tc.lt
          clear b2
          go_wp2_with fail
          (with_reducible refine (Sab.out _ _ _ _ _ _ _ (by exact sa) (by exact sb)).mono ?_)
          rintro e w3 ⟨rfl, b3⟩
          replace U0 := U0.trans (b3.mono U0.size)
          replace Ta := Ta.below b3
          replace sa := sa.below b3
          replace Tb := Tb.below b3
          replace sb := sb.below b3
          replace Tc := Tc.below b3
          replace sc := sc.below b3
          replace cTa0 := Ta.cells.1
          replace cTa1 := Ta.cells.2
          replace zTa := Ta.lt
          replace cTb0 := Tb.cells.1
          replace cTb1 := Tb.cells.2
          replace zTb := Tb.lt
          replace cTc0 := Tc.cells.1
          replace cTc1 := Tc.cells.2
          replace zTc := Tc.lt
          clear b3
          go_wp2_with fail; go_meet; exact ⟨rfl, Ta, sa, Tb, sb, Tc, sc, U0⟩
        · have z1 : decide (q ≤ 0) = false := decide_eq_false z0
          clear z0 Hq
          go_wp2_with fail
          (with_reducible refine (Cba.out _ _ _ _ _ _ _ (by exact sb) (by exact sa)).mono ?_)
          rintro e w1 ⟨rfl, b1⟩
          replace U0 := U0.trans (b1.mono U0.size)
          replace Ta := Ta.below b1
          replace sa := sa.below b1
          replace Tb := Tb.below b1
          replace sb := sb.below b1
          replace Tc := Tc.below b1
          replace sc := sc.below b1
          replace cTa0 := Ta.cells.1
          replace cTa1 := Ta.cells.2
          replace zTa := Ta.lt
          replace cTb0 := Tb.cells.1
          replace cTb1 := Tb.cells.2
          replace zTb := Tb.lt
          replace cTc0 := Tc.cells.1
          replace cTc1 := Tc.cells.2
          replace zTc := Tc.lt
          clear b1
          go_wp2_with fail
          (with_reducible refine (Caa.out _ _ _ _ _ _ _ (by exact sa) (by exact sa)).mono ?_)
          rintro e w2 ⟨rfl, b2⟩
          replace U0 := U0.trans (b2.mono U0.size)
          replace Ta := Ta.below b2
          replace sa := sa.below b2
          replace Tb := Tb.below b2
          replace sb := sb.below b2
          replace Tc := Tc.below b2
          replace sc := sc.below b2
          replace cTa0 := Ta.cells.1
          replace cTa1 := Ta.cells.2
          replace zTa := Ta.lt
          replace cTb0 := Tb.cells.1
          replace cTb1 := Tb.cells.2
          replace zTb := Tb.lt
          replace cTc0 := Tc.cells.1
          replace cTc1 := Tc.cells.2
          replace zTc := Tc.lt
          clear b2
          go_wp2_with fail
          (with_reducible refine (Sab.out _ _ _ _ _ _ _ (by exact sa) (by exact sb)).mono ?_)
          rintro e w3 ⟨rfl, b3⟩
          replace U0 := U0.trans (b3.mono U0.size)
          replace Ta := Ta.below b3
          replace sa := sa.below b3
          replace Tb := Tb.below b3
          replace sb := sb.below b3
          replace Tc := Tc.below b3
          replace sc := sc.below b3
          replace cTa0 := Ta.cells.1
          replace cTa1 := Ta.cells.2
          replace zTa := Ta.lt
          replace cTb0 := Tb.cells.1
          replace cTb1 := Tb.cells.2
          replace zTb := Tb.lt
          replace cTc0 := Tc.cells.1
          replace cTc1 := Tc.cells.2
          replace zTc := Tc.lt
          clear b3
          go_wp2_with fail; go_meet; exact ⟨rfl, Ta, sa, Tb, sb, Tc, sc, U0⟩
      · obtain rfl : false = sb_ := by rw [HS_.out]; rfl
        clear HS_
        clear Hq
        go_wp2_with fail
        (with_reducible refine (Cba.out _ _ _ _ _ _ _ (by exact sb) (by exact sa)).mono ?_)
        rintro e w1 ⟨rfl, b1⟩
        replace U0 := U0.trans (b1.mono U0.size)
        replace Ta := Ta.below b1
        replace sa := sa.below b1
        replace Tb := Tb.below b1
        replace sb := sb.below b1
        replace Tc := Tc.below b1
        replace sc := sc.below b1
        replace cTa0 := Ta.cells.1
        replace cTa1 := Ta.cells.2
        replace zTa := Ta.lt
        replace cTb0 := Tb.cells.1
        replace cTb1 := Tb.cells.2
        replace zTb := Tb.lt
        replace cTc0 := Tc.cells.1
        replace cTc1 := Tc.cells.2
        replace zTc := Tc.lt
        clear b1
        go_wp2_with fail
        (with_reducible refine (Caa.out _ _ _ _ _ _ _ (by exact sa) (by exact sa)).mono ?_)
        rintro e w2 ⟨rfl, b2⟩
        replace U0 := U0.trans (b2.mono U0.size)
        replace Ta := Ta.below b2
        replace sa := sa.below b2
        replace Tb := Tb.below b2
        replace sb := sb.below b2
        replace Tc := Tc.below b2
        replace sc := sc.below b2
        replace cTa0 := Ta.cells.1
        replace cTa1 := Ta.cells.2
        replace zTa := Ta.lt
        replace cTb0 := Tb.cells.1
        replace cTb1 := Tb.cells.2
        replace zTb := Tb.lt
        replace cTc0 := Tc.cells.1
        replace cTc1 := Tc.cells.2
        replace zTc := Tc.lt
        clear b2
        go_wp2_with fail
        (with_reducible refine (Sab.out _ _ _ _ _ _ _ (by exact sa) (by exact sb)).mono ?_)
        rintro e w3 ⟨rfl, b3⟩
        replace U0 := U0.trans (b3.mono U0.size)
        replace Ta := Ta.below b3
        replace sa := sa.below b3
        replace Tb := Tb.below b3
        replace sb := sb.below b3
        replace Tc := Tc.below b3
        replace sc := sc.below b3
        replace cTa0 := Ta.cells.1
        replace cTa1 := Ta.cells.2
        replace zTa := Ta.lt
        replace cTb0 := Tb.cells.1
        replace cTb1 := Tb.cells.2
        replace zTb := Tb.lt
        replace cTc0 := Tc.cells.1
        replace cTc1 := Tc.cells.2
        replace zTc := Tc.lt
        clear b3
        go_wp2_with fail; go_meet; exact ⟨rfl, Ta, sa, Tb, sb, Tc, sc, U0⟩
    case rest =>
      obtain ⟨rfl, Ta, sa, Tb, sb, Tc, sc, U0⟩ := hcut
      have cTa0 := Ta.cells.1
      have cTa1 := Ta.cells.2
      have zTa := Ta.lt
      have cTb0 := Tb.cells.1
      have cTb1 := Tb.cells.2
      have zTb := Tb.lt
      have cTc0 := Tc.cells.1
      have cTc1 := Tc.cells.2
      have zTc := Tc.lt
      clear M6 Cba Caa Sab
      go_wp2_with fail
      (with_reducible refine (Sub_.out _ _ _ _ _ _ _ (by exact sa) (by exact sb)).mono ?_)
      rintro e w1 ⟨ad, ld, cd, rfl, sd, b1⟩
      replace U0 := U0.trans (b1.mono U0.size)
      replace Ta := Ta.below b1
      replace sa := sa.below b1
      replace Tb := Tb.below b1
      replace sb := sb.below b1
      replace Tc := Tc.below b1
      replace sc := sc.below b1
      replace cTa0 := Ta.cells.1
      replace cTa1 := Ta.cells.2
      replace zTa := Ta.lt
      replace cTb0 := Tb.cells.1
      replace cTb1 := Tb.cells.2
      replace zTb := Tb.lt
      replace cTc0 := Tc.cells.1
      replace cTc1 := Tc.cells.2
      replace zTc := Tc.lt
      clear b1
      go_upto_region 9 with (fail)
      replace U0 := U0.alloc U0.size (.cells #[.bool nd, .slice ad ld cd] 24)
      replace Ta := Ta.alloc (.cells #[.bool nd, .slice ad ld cd] 24)
      replace sa := sa.alloc (.cells #[.bool nd, .slice ad ld cd] 24)
      replace Tb := Tb.alloc (.cells #[.bool nd, .slice ad ld cd] 24)
      replace sb := sb.alloc (.cells #[.bool nd, .slice ad ld cd] 24)
      replace Tc := Tc.alloc (.cells #[.bool nd, .slice ad ld cd] 24)
      replace sc := sc.alloc (.cells #[.bool nd, .slice ad ld cd] 24)
      replace sd := sd.alloc (.cells #[.bool nd, .slice ad ld cd] 24)
      replace cTa0 := Ta.cells.1
      replace cTa1 := Ta.cells.2
      replace zTa := Ta.lt
      replace cTb0 := Tb.cells.1
      replace cTb1 := Tb.cells.2
      replace zTb := Tb.lt
      replace cTc0 := Tc.cells.1
      replace cTc1 := Tc.cells.2
      replace zTc := Tc.lt
      have Td := BoxI.new w1 (w1.heap.size) (by first | rfl | simp) nd ad ld cd
      have cTd0 := Td.cells.1
      have cTd1 := Td.cells.2
      have zTd := Td.lt
      go_cut [84] (fun sl wx => sl = .bool false ∧ OrdCut w (w.heap.size) (w.heap.size + 1) (w.heap.size + 1 + 1) na aa la ca xa nb ab lb cb xb nc ac lc cc xc wx)
      case first => as_aux_lemma =>
        clear Sub_ Cx Cy Cxy Ct Cu MX Lxx Lxy Sc
        by_cases e0 : ed = 0
        · have Sd2 := Lib.hid (Sd.out e0)
          have q_ : (ed == 0) = true := by rw [e0]; rfl
          have q2_ : (p != p) = false := by simp
          clear e0 Sd
          go_wp2_with fail
          (with_reducible refine (Sd2.out _ _ _ _ (by exact sd)).mono ?_)
          rintro e w2 ⟨rfl, b2⟩
          replace U0 := U0.trans (b2.mono U0.size)
          replace Ta := Ta.below b2
          replace sa := sa.below b2
          replace Tb := Tb.below b2
          replace sb := sb.below b2
          replace Tc := Tc.below b2
          replace sc := sc.below b2
          replace sd := sd.below b2
          replace Td := Td.below b2
          replace cTa0 := Ta.cells.1
          replace cTa1 := Ta.cells.2
          replace zTa := Ta.lt
          replace cTb0 := Tb.cells.1
          replace cTb1 := Tb.cells.2
          replace zTb := Tb.lt
          replace cTc0 := Tc.cells.1
          replace cTc1 := Tc.cells.2
          replace zTc := Tc.lt
          replace cTd0 := Td.cells.1
          replace cTd1 := Td.cells.2
          replace zTd := Td.lt
          clear b2
          go_wp2_with fail; go_meet; exact ⟨rfl, Ta, sa, Tb, sb, Tc, sc, U0⟩
        · have q_ : (ed == 0) = false := by simpa using e0
          clear e0 Sd
          go_wp2_with fail; go_meet; exact ⟨rfl, Ta, sa, Tb, sb, Tc, sc, U0⟩
      case rest =>
        obtain ⟨rfl, Ta, sa, Tb, sb, Tc, sc, U0⟩ := hcut
        have cTa0 := Ta.cells.1
        have cTa1 := Ta.cells.2
        have zTa := Ta.lt
        have cTb0 := Tb.cells.1
        have cTb1 := Tb.cells.2
        have zTb := Tb.lt
        have cTc0 := Tc.cells.1
        have cTc1 := Tc.cells.2
        have zTc := Tc.lt
        clear Sub_ Sd
        go_upto_region 11 with (fail)
        go_cut [12, 13] (fun s12 s13 wx => ∃ gx gy ax_ lx_ cx_ ay_ ly_ cy_, s12 = .pointer (some ⟨gx, 0, none⟩) ∧ s13 = .pointer (some ⟨gy, 0, none⟩) ∧ OrdCut2 w (w.heap.size) (w.heap.size + 1) (w.heap.size + 1 + 1) na aa la ca xa nb ab lb cb xb nc ac lc cc xc gx gy nx ax_ lx_ cx_ xx ex ny ay_ ly_ cy_ xy ey wx)
        case first => as_aux_lemma =>
          clear cTa0 cTa1 zTa cTb0 cTb1 zTb cTc0 cTc1 zTc
          clear Cxy Ct Cu MX Sc
          refine region_kept 14 [some 85, some 86, some 87, some 88, some 89, some 90, some 91, some 92, some 93, some 94, some 12, some 13, none, none] (fun U => [U 0, U 1, U 2, U 3, U 4, U 5, U 6, U 7, U 8, U 9, U 10, U 11, U 12, U 13]) (fun L U w' => Below (wc).heap.size (wc) w' ∧ (L 0 = true → U 0 = .agg #[.bool na, .slice aa la ca]) ∧ (L 1 = true → HasP w' (U 1) (na) (xa) (0)) ∧ (L 2 = true → U 2 = .agg #[.bool nc, .slice ac lc cc]) ∧ (L 3 = true → HasP w' (U 3) (nc) (xc) (0)) ∧ (L 4 = true → HasP w' (U 4) (nx) (xx) (ex)) ∧ (L 5 = true → U 5 = .agg #[.bool nb, .slice ab lb cb]) ∧ (L 6 = true → HasP w' (U 6) (nb) (xb) (0)) ∧ (L 7 = true → U 7 = .agg #[.bool nc, .slice ac lc cc]) ∧ (L 8 = true → HasP w' (U 8) (nc) (xc) (0)) ∧ (L 9 = true → HasP w' (U 9) (ny) (xy) (ey)) ∧ (L 10 = true → PBox (wc).heap.size w' (U 10) (L 12) (nx) (xx) (ex)) ∧ (L 11 = true → PBox (wc).heap.size w' (U 11) (L 13) (ny) (xy) (ey)) ∧ (L 10 = true → L 11 = true → U 10 ≠ U 11) ∧ (L 12 = true → L 10 = true) ∧ (L 13 = true → L 11 = true)) rfl rfl (fun _ => rfl) rfl (by kernel_rfl) (by kernel_rfl) (by kernel_rfl) ?start ?step ?fin
          case start =>
            intro U
            exact ⟨(Below.refl _ _).drew, (by intro h; cases h), (by intro h; cases h), (by intro h; cases h), (by intro h; cases h), (by intro h; cases h), (by intro h; cases h), (by intro h; cases h), (by intro h; cases h), (by intro h; cases h), (by intro h; cases h), (by intro h; cases h), (by intro h; cases h), (by intro h; cases h), (by intro h; cases h), (by intro h; cases h)⟩
          case step =>
            refine ⟨?_, ?_, ?_, ?_, ?_, ?_, ?_, ?_, ?_, ?_, ?_, ?_, ?_, ?_, trivial⟩
            · intro L U w' b hF hLi hmet hb ho K hK
              obtain ⟨U1, k0, k1, k2, k3, k4, k5, k6, k7, k8, k9, k10, k11, d10x11, m12, m13⟩ := hF
              have s3 : b.tmps.getD 3 undef = .pointer (some ⟨w.heap.size, 0, none⟩) := (ho 3 rfl).trans rfl
              have r3 := getD_r s3
              have t0_ := (Ta.below U1).cells.1
              have t1_ := (Ta.below U1).cells.2
              clear hb ho hmet
              rw [if_pos (by rfl)]
              go_simp
              exact hK.out (.agg #[.bool na, .slice aa la ca]) w' ⟨U1, (fun _ => rfl), k1, k2, k3, k4, k5, k6, k7, k8, k9, k10, k11, d10x11, m12, m13⟩
            · intro L U w' b hF hLi hmet hb ho K hK
              obtain ⟨U1, k0, k1, k2, k3, k4, k5, k6, k7, k8, k9, k10, k11, d10x11, m12, m13⟩ := hF
              have s85 := (hb 0 85 rfl).trans (k0 (hmet.get rfl))
              have r85 := getD_r s85
              clear hb ho hmet
              rw [if_pos (by rfl)]
              go_simp
              go_at_call 65
              (with_reducible refine (lawValP (by exact (sa.below U1))).mono ?_)
              rintro e_ wq ⟨ra, rl, rc, rfl, rs, bq⟩
              exact hK.out (.agg #[.bool na, .slice ra rl rc, .int .i64 0]) wq ⟨(U1.trans (bq.mono U1.size)), k0, (fun _ => ⟨ra, rl, rc, rfl, rs⟩), k2, (fun h => (k3 h).below bq), (fun h => (k4 h).below bq), k5, (fun h => (k6 h).below bq), k7, (fun h => (k8 h).below bq), (fun h => (k9 h).below bq), (fun h => (k10 h).below bq), (fun h => (k11 h).below bq), d10x11, m12, m13⟩
            · intro L U w' b hF hLi hmet hb ho K hK
              obtain ⟨U1, k0, k1, k2, k3, k4, k5, k6, k7, k8, k9, k10, k11, d10x11, m12, m13⟩ := hF
              have s5 : b.tmps.getD 5 undef = .pointer (some ⟨w.heap.size + 1 + 1, 0, none⟩) := (ho 5 rfl).trans rfl
              have r5 := getD_r s5
              have t0_ := (Tc.below U1).cells.1
              have t1_ := (Tc.below U1).cells.2
              clear hb ho hmet
              rw [if_pos (by rfl)]
              go_simp
              exact hK.out (.agg #[.bool nc, .slice ac lc cc]) w' ⟨U1, k0, k1, (fun _ => rfl), k3, k4, k5, k6, k7, k8, k9, k10, k11, d10x11, m12, m13⟩
            · intro L U w' b hF hLi hmet hb ho K hK
              obtain ⟨U1, k0, k1, k2, k3, k4, k5, k6, k7, k8, k9, k10, k11, d10x11, m12, m13⟩ := hF
              have s87 := (hb 2 87 rfl).trans (k2 (hmet.get rfl))
              have r87 := getD_r s87
              clear hb ho hmet
              rw [if_pos (by rfl)]
              go_simp
              go_at_call 65
              (with_reducible refine (lawValP (by exact (sc.below U1))).mono ?_)
              rintro e_ wq ⟨ra, rl, rc, rfl, rs, bq⟩
              exact hK.out (.agg #[.bool nc, .slice ra rl rc, .int .i64 0]) wq ⟨(U1.trans (bq.mono U1.size)), k0, (fun h => (k1 h).below bq), k2, (fun _ => ⟨ra, rl, rc, rfl, rs⟩), (fun h => (k4 h).below bq), k5, (fun h => (k6 h).below bq), k7, (fun h => (k8 h).below bq), (fun h => (k9 h).below bq), (fun h => (k10 h).below bq), (fun h => (k11 h).below bq), d10x11, m12, m13⟩
            · intro L U w' b hF hLi hmet hb ho K hK
              obtain ⟨U1, k0, k1, k2, k3, k4, k5, k6, k7, k8, k9, k10, k11, d10x11, m12, m13⟩ := hF
              obtain ⟨pa1, pl1, pc1, pe1, ps1⟩ := k1 (hmet.get rfl)
              have s86 := (hb 1 86 rfl).trans pe1
              have r86 := getD_r s86
              obtain ⟨pa3, pl3, pc3, pe3, ps3⟩ := k3 (hmet.get rfl)
              have s88 := (hb 3 88 rfl).trans pe3
              have r88 := getD_r s88
              clear hb ho hmet
              rw [if_pos (by rfl)]
              go_simp
              go_at_call 67
              (with_reducible refine (Cx.out _ _ _ _ _ _ _ (by exact ps1) (by exact ps3)).mono ?_)
              rintro e_ wq ⟨ra, rl, rc, rfl, rs, bq⟩
              exact hK.out (.agg #[.bool nx, .slice ra rl rc, .int .i64 ex]) wq ⟨(U1.trans (bq.mono U1.size)), k0, (fun h => (k1 h).below bq), k2, (fun h => (k3 h).below bq), (fun _ => ⟨ra, rl, rc, rfl, rs⟩), k5, (fun h => (k6 h).below bq), k7, (fun h => (k8 h).below bq), (fun h => (k9 h).below bq), (fun h => (k10 h).below bq), (fun h => (k11 h).below bq), d10x11, m12, m13⟩
            · intro L U w' b hF hLi hmet hb ho K hK
              obtain ⟨U1, k0, k1, k2, k3, k4, k5, k6, k7, k8, k9, k10, k11, d10x11, m12, m13⟩ := hF
              have s4 : b.tmps.getD 4 undef = .pointer (some ⟨w.heap.size + 1, 0, none⟩) := (ho 4 rfl).trans rfl
              have r4 := getD_r s4
              have t0_ := (Tb.below U1).cells.1
              have t1_ := (Tb.below U1).cells.2
              clear hb ho hmet
              rw [if_pos (by rfl)]
              go_simp
              exact hK.out (.agg #[.bool nb, .slice ab lb cb]) w' ⟨U1, k0, k1, k2, k3, k4, (fun _ => rfl), k6, k7, k8, k9, k10, k11, d10x11, m12, m13⟩
            · intro L U w' b hF hLi hmet hb ho K hK
              obtain ⟨U1, k0, k1, k2, k3, k4, k5, k6, k7, k8, k9, k10, k11, d10x11, m12, m13⟩ := hF
              have s90 := (hb 5 90 rfl).trans (k5 (hmet.get rfl))
              have r90 := getD_r s90
              clear hb ho hmet
              rw [if_pos (by rfl)]
              go_simp
              go_at_call 65
              (with_reducible refine (lawValP (by exact (sb.below U1))).mono ?_)
              rintro e_ wq ⟨ra, rl, rc, rfl, rs, bq⟩
              exact hK.out (.agg #[.bool nb, .slice ra rl rc, .int .i64 0]) wq ⟨(U1.trans (bq.mono U1.size)), k0, (fun h => (k1 h).below bq), k2, (fun h => (k3 h).below bq), (fun h => (k4 h).below bq), k5, (fun _ => ⟨ra, rl, rc, rfl, rs⟩), k7, (fun h => (k8 h).below bq), (fun h => (k9 h).below bq), (fun h => (k10 h).below bq), (fun h => (k11 h).below bq), d10x11, m12, m13⟩
            · intro L U w' b hF hLi hmet hb ho K hK
              obtain ⟨U1, k0, k1, k2, k3, k4, k5, k6, k7, k8, k9, k10, k11, d10x11, m12, m13⟩ := hF
              have s5 : b.tmps.getD 5 undef = .pointer (some ⟨w.heap.size + 1 + 1, 0, none⟩) := (ho 5 rfl).trans rfl
              have r5 := getD_r s5
              have t0_ := (Tc.below U1).cells.1
              have t1_ := (Tc.below U1).cells.2
              clear hb ho hmet
              rw [if_pos (by rfl)]
              go_simp
              exact hK.out (.agg #[.bool nc, .slice ac lc cc]) w' ⟨U1, k0, k1, k2, k3, k4, k5, k6, (fun _ => rfl), k8, k9, k10, k11, d10x11, m12, m13⟩
            · intro L U w' b hF hLi hmet hb ho K hK
              obtain ⟨U1, k0, k1, k2, k3, k4, k5, k6, k7, k8, k9, k10, k11, d10x11, m12, m13⟩ := hF
              have s92 := (hb 7 92 rfl).trans (k7 (hmet.get rfl))
              have r92 := getD_r s92
              clear hb ho hmet
              rw [if_pos (by rfl)]
              go_simp
              go_at_call 65
              (with_reducible refine (lawValP (by exact (sc.below U1))).mono ?_)
              rintro e_ wq ⟨ra, rl, rc, rfl, rs, bq⟩
              exact hK.out (.agg #[.bool nc, .slice ra rl rc, .int .i64 0]) wq ⟨(U1.trans (bq.mono U1.size)), k0, (fun h => (k1 h).below bq), k2, (fun h => (k3 h).below bq), (fun h => (k4 h).below bq), k5, (fun h => (k6 h).below bq), k7, (fun _ => ⟨ra, rl, rc, rfl, rs⟩), (fun h => (k9 h).below bq), (fun h => (k10 h).below bq), (fun h => (k11 h).below bq), d10x11, m12, m13⟩
            · intro L U w' b hF hLi hmet hb ho K hK
              obtain ⟨U1, k0, k1, k2, k3, k4, k5, k6, k7, k8, k9, k10, k11, d10x11, m12, m13⟩ := hF
              obtain ⟨pa6, pl6, pc6, pe6, ps6⟩ := k6 (hmet.get rfl)
              have s91 := (hb 6 91 rfl).trans pe6
              have r91 := getD_r s91
              obtain ⟨pa8, pl8, pc8, pe8, ps8⟩ := k8 (hmet.get rfl)
              have s93 := (hb 8 93 rfl).trans pe8
              have r93 := getD_r s93
              clear hb ho hmet
              rw [if_pos (by rfl)]
              go_simp
              go_at_call 67
              (with_reducible refine (Cy.out _ _ _ _ _ _ _ (by exact ps6) (by exact ps8)).mono ?_)
              rintro e_ wq ⟨ra, rl, rc, rfl, rs, bq⟩
              exact hK.out (.agg #[.bool ny, .slice ra rl rc, .int .i64 ey]) wq ⟨(U1.trans (bq.mono U1.size)), k0, (fun h => (k1 h).below bq), k2, (fun h => (k3 h).below bq), (fun h => (k4 h).below bq), k5, (fun h => (k6 h).below bq), k7, (fun h => (k8 h).below bq), (fun _ => ⟨ra, rl, rc, rfl, rs⟩), (fun h => (k10 h).below bq), (fun h => (k11 h).below bq), d10x11, m12, m13⟩
            · intro L U w' b hF hLi hmet hb ho K hK
              obtain ⟨U1, k0, k1, k2, k3, k4, k5, k6, k7, k8, k9, k10, k11, d10x11, m12, m13⟩ := hF
              have hst := not_yet m12 hLi
              clear hb ho hmet
              rw [if_pos (by rfl)]
              go_simp
              have bq := (Below.refl w'.heap.size w').alloc (Nat.le_refl _) (.cells #[.bool false, .slice none 0 0, .int .i64 0] 38)
              exact hK.out (.pointer (some ⟨w'.heap.size, 0, none⟩)) _ ⟨(U1.alloc U1.size _), k0, (fun h => (k1 h).below bq), k2, (fun h => (k3 h).below bq), (fun h => (k4 h).below bq), k5, (fun h => (k6 h).below bq), k7, (fun h => (k8 h).below bq), (fun h => (k9 h).below bq), (fun _ => PBox.new U1.size hst), (fun h => (k11 h).below bq), (fun _ h => (PBox.fresh (k11 h)).symm), (fun _ => rfl), m13⟩
            · intro L U w' b hF hLi hmet hb ho K hK
              obtain ⟨U1, k0, k1, k2, k3, k4, k5, k6, k7, k8, k9, k10, k11, d10x11, m12, m13⟩ := hF
              have hst := not_yet m13 hLi
              clear hb ho hmet
              rw [if_pos (by rfl)]
              go_simp
              have bq := (Below.refl w'.heap.size w').alloc (Nat.le_refl _) (.cells #[.bool false, .slice none 0 0, .int .i64 0] 38)
              exact hK.out (.pointer (some ⟨w'.heap.size, 0, none⟩)) _ ⟨(U1.alloc U1.size _), k0, (fun h => (k1 h).below bq), k2, (fun h => (k3 h).below bq), (fun h => (k4 h).below bq), k5, (fun h => (k6 h).below bq), k7, (fun h => (k8 h).below bq), (fun h => (k9 h).below bq), (fun h => (k10 h).below bq), (fun _ => PBox.new U1.size hst), (fun h _ => PBox.fresh (k10 h)), m12, (fun _ => rfl)⟩
            · intro L U w' b hF hLi hmet hb ho K hK
              obtain ⟨U1, k0, k1, k2, k3, k4, k5, k6, k7, k8, k9, k10, k11, d10x11, m12, m13⟩ := hF
              have hb_ : L 10 = true := hmet.get rfl
              have hv_ : L 4 = true := hmet.get rfl
              obtain ⟨g, eg, hg, hlt, hz, _⟩ := k10 hb_
              have ne11 : L 11 = true → U 11 ≠ .pointer (some ⟨g, 0, none⟩) := fun h e => (d10x11 hb_ h).symm (e.trans eg.symm)
              have Z := hz hLi
              have s12 := (hb 10 12 rfl).trans eg
              have r12 := getD_r s12
              obtain ⟨pa, pl, pc, pe, ps⟩ := k4 hv_
              have s89 := (hb 4 89 rfl).trans pe
              have r89 := getD_r s89
              have f0_ := Z.cells.1; have f1_ := Z.cells.2.1; have f2_ := Z.cells.2.2; have g0_ := Z.froz.1; have g1_ := Z.froz.2.1; have g2_ := Z.froz.2.2
              have HK := Lib.hid hK
              have HZ := Lib.hid Z
              clear hb ho hmet
              rw [if_pos (by rfl)]
              go_simp
              exact hK.out (undef) _ ⟨(Below.set3 U1 hg _ _ _), k0, (fun h => (k1 h).set Lxa.out Z _ _ _ _ _), k2, (fun h => (k3 h).set Lxc.out Z _ _ _ _ _), (fun h => (k4 h).set Lxx.out Z _ _ _ _ _), k5, (fun h => (k6 h).set Lxb.out Z _ _ _ _ _), k7, (fun h => (k8 h).set Lxc.out Z _ _ _ _ _), (fun h => (k9 h).set Lxy.out Z _ _ _ _ _), (fun _ => PBox.selfOf eg Z hg ps Lxx.out), (fun h => (k11 h).other Lxy.out Z (ne11 h) _ _ _ _ _), d10x11, (fun _ => hb_), m13⟩
            · intro L U w' b hF hLi hmet hb ho K hK
              obtain ⟨U1, k0, k1, k2, k3, k4, k5, k6, k7, k8, k9, k10, k11, d10x11, m12, m13⟩ := hF
              have hb_ : L 11 = true := hmet.get rfl
              have hv_ : L 9 = true := hmet.get rfl
              obtain ⟨g, eg, hg, hlt, hz, _⟩ := k11 hb_
              have ne10 : L 10 = true → U 10 ≠ .pointer (some ⟨g, 0, none⟩) := fun h e => d10x11 h hb_ (e.trans eg.symm)
              have Z := hz hLi
              have s13 := (hb 11 13 rfl).trans eg
              have r13 := getD_r s13
              obtain ⟨pa, pl, pc, pe, ps⟩ := k9 hv_
              have s94 := (hb 9 94 rfl).trans pe
              have r94 := getD_r s94
              have f0_ := Z.cells.1; have f1_ := Z.cells.2.1; have f2_ := Z.cells.2.2; have g0_ := Z.froz.1; have g1_ := Z.froz.2.1; have g2_ := Z.froz.2.2
              have HK := Lib.hid hK
              have HZ := Lib.hid Z
              clear hb ho hmet
              rw [if_pos (by rfl)]
              go_simp
              exact hK.out (undef) _ ⟨(Below.set3 U1 hg _ _ _), k0, (fun h => (k1 h).set Lxa.out Z _ _ _ _ _), k2, (fun h => (k3 h).set Lxc.out Z _ _ _ _ _), (fun h => (k4 h).set Lxx.out Z _ _ _ _ _), k5, (fun h => (k6 h).set Lxb.out Z _ _ _ _ _), k7, (fun h => (k8 h).set Lxc.out Z _ _ _ _ _), (fun h => (k9 h).set Lxy.out Z _ _ _ _ _), (fun h => (k10 h).other Lxx.out Z (ne10 h) _ _ _ _ _), (fun _ => PBox.selfOf eg Z hg ps Lxy.out), d10x11, m12, (fun _ => hb_)⟩
          case fin =>
            intro L U wx hF hall
            obtain ⟨U1, k0, k1, k2, k3, k4, k5, k6, k7, k8, k9, k10, k11, d10x11, m12, m13⟩ := hF
            obtain ⟨g10, eg10, hg10, hlt10, _, hs10⟩ := k10 (hall 10 (by decide))
            obtain ⟨qa10, ql10, qc10, Q10, qs10⟩ := hs10 (hall 12 (by decide))
            obtain ⟨g11, eg11, hg11, hlt11, _, hs11⟩ := k11 (hall 11 (by decide))
            obtain ⟨qa11, ql11, qc11, Q11, qs11⟩ := hs11 (hall 13 (by decide))
            have ne10x11 := d10x11 (hall 10 (by decide)) (hall 11 (by decide))
            clear k0 k1 k2 k3 k4 k5 k6 k7 k8 k9 k10 k11 d10x11 m12 m13 hs10 hs11 hall
            simp only [fillA, Act.put, List.setIfInBounds_toArray, List.set_cons_zero, List.set_cons_succ]
            go_wp2_with fail; go_meet
            exact ⟨g10, g11, qa10, ql10, qc10, qa11, ql11, qc11, eg10, eg11, fun e => ne10x11 (by rw [eg10, eg11, e]), Nat.le_trans U0.size hg10, Nat.le_trans U0.size hg11, Q10, qs10, Q11, qs11, Ta.below U1, sa.below U1, Tb.below U1, sb.below U1, Tc.below U1, sc.below U1, U0.trans (U1.mono U0.size)⟩
        case rest =>
          obtain ⟨gx, gy, ax_, lx_, cx_, ay_, ly_, cy_, rfl, rfl, hne, hgx, hgy, Tx, sx, Ty, sy, Ta, sa, Tb, sb, Tc, sc, U0⟩ := hcut
          have cTa0 := Ta.cells.1
          have cTa1 := Ta.cells.2
          have zTa := Ta.lt
          have cTb0 := Tb.cells.1
          have cTb1 := Tb.cells.2
          have zTb := Tb.lt
          have cTc0 := Tc.cells.1
          have cTc1 := Tc.cells.2
          have zTc := Tc.lt
          have cTx0 := Tx.cells.1
          have cTx1 := Tx.cells.2.1
          have cTx2 := Tx.cells.2.2
          have zTx := Tx.lt
          have cTy0 := Ty.cells.1
          have cTy1 := Ty.cells.2.1
          have cTy2 := Ty.cells.2.2
          have zTy := Ty.lt
          clear Cx Cy Lxx Lxy Lxa Lxb Lxc
          go_upto_region 12 with (fail)
          go_cut [111] (fun sl wx => sl = .bool false ∧ OrdCut2 w (w.heap.size) (w.heap.size + 1) (w.heap.size + 1 + 1) na aa la ca xa nb ab lb cb xb nc ac lc cc xc gx gy nx ax_ lx_ cx_ xx ex ny ay_ ly_ cy_ xy ey wx)
          case first => as_aux_lemma =>
            clear Ct Cu MX Sc
            by_cases x0 : ex = 0
            · have q1_ : (ex == 0) = true := by rw [x0]; rfl
              by_cases y0 : ey = 0
              · have q2_ : (ey == 0) = true := by rw [y0]; rfl
                have C2 := Lib.hid (Cxy.out ⟨x0, y0⟩)
                have q3_ : (p != p) = false := by simp
                clear x0 y0 Cxy
                go_wp2_with fail
                (with_reducible refine (C2.out _ _ _ _ _ _ _ (by exact sx) (by exact sy)).mono ?_)
                rintro e w1 ⟨rfl, b1⟩
                replace U0 := U0.trans (b1.mono U0.size)
                replace Ta := Ta.below b1
                replace sa := sa.below b1
                replace Tb := Tb.below b1
                replace sb := sb.below b1
                replace Tc := Tc.below b1
                replace sc := sc.below b1
                replace Tx := Tx.below b1
                replace sx := sx.below b1
                replace Ty := Ty.below b1
                replace sy := sy.below b1
                replace cTa0 := Ta.cells.1
                replace cTa1 := Ta.cells.2
                replace zTa := Ta.lt
                replace cTb0 := Tb.cells.1
                replace cTb1 := Tb.cells.2
                replace zTb := Tb.lt
                replace cTc0 := Tc.cells.1
                replace cTc1 := Tc.cells.2
                replace zTc := Tc.lt
                replace cTx0 := Tx.cells.1
                replace cTx1 := Tx.cells.2.1
                replace cTx2 := Tx.cells.2.2
                replace zTx := Tx.lt
                replace cTy0 := Ty.cells.1
                replace cTy1 := Ty.cells.2.1
                replace cTy2 := Ty.cells.2.2
                replace zTy := Ty.lt
                clear b1
                go_wp2_with fail; go_meet; exact ⟨rfl, hne, hgx, hgy, Tx, sx, Ty, sy, Ta, sa, Tb, sb, Tc, sc, U0⟩
              · have q2_ : (ey == 0) = false := by simpa using y0
                clear x0 y0 Cxy
                go_wp2_with fail; go_meet; exact ⟨rfl, hne, hgx, hgy, Tx, sx, Ty, sy, Ta, sa, Tb, sb, Tc, sc, U0⟩
            · have q1_ : (ex == 0) = false := by simpa using x0
              clear x0 Cxy
              go_wp2_with fail; go_meet; exact ⟨rfl, hne, hgx, hgy, Tx, sx, Ty, sy, Ta, sa, Tb, sb, Tc, sc, U0⟩
          case rest =>
            obtain ⟨rfl, hne, hgx, hgy, Tx, sx, Ty, sy, Ta, sa, Tb, sb, Tc, sc, U0⟩ := hcut
            have cTa0 := Ta.cells.1
            have cTa1 := Ta.cells.2
            have zTa := Ta.lt
            have cTb0 := Tb.cells.1
            have cTb1 := Tb.cells.2
            have zTb := Tb.lt
            have cTc0 := Tc.cells.1
            have cTc1 := Tc.cells.2
            have zTc := Tc.lt
            have cTx0 := Tx.cells.1
            have cTx1 := Tx.cells.2.1
            have cTx2 := Tx.cells.2.2
            have zTx := Tx.lt
            have cTy0 := Ty.cells.1
            have cTy1 := Ty.cells.2.1
            have cTy2 := Ty.cells.2.2
            have zTy := Ty.lt
            clear Cxy
            clear sx sy
            go_upto_region 14 with (fail)
            go_cut [121] (fun _ wx => ∃ a1 l1 c1 X a2 l2 c2 Y, Box3 wx gx nt a1 l1 c1 et ∧ Sl wx a1 l1 c1 X ∧ Mix xt X ex et ey eu ∧ Box3 wx gy nu a2 l2 c2 eu ∧ Sl wx a2 l2 c2 Y ∧ Mix xu Y ex et ey eu ∧ BoxI wx (w.heap.size + 1 + 1) nc ac lc cc ∧ Below w.heap.size w wx)
            case first => as_aux_lemma =>
              clear MX Sc
              have hne2 := hne.symm
              replace U0 := U0.drew
              replace Ta := Ta.drew
              replace sa := sa.drew
              replace Tb := Tb.drew
              replace sb := sb.drew
              replace Tc := Tc.drew
              replace sc := sc.drew
              replace Tx := Tx.drew
              replace Ty := Ty.drew
              replace cTa0 := Ta.cells.1
              replace cTa1 := Ta.cells.2
              replace zTa := Ta.lt
              replace cTb0 := Tb.cells.1
              replace cTb1 := Tb.cells.2
              replace zTb := Tb.lt
              replace cTc0 := Tc.cells.1
              replace cTc1 := Tc.cells.2
              replace zTc := Tc.lt
              replace cTx0 := Tx.cells.1
              replace cTx1 := Tx.cells.2.1
              replace cTx2 := Tx.cells.2.2
              replace zTx := Tx.lt
              replace cTy0 := Ty.cells.1
              replace cTy1 := Ty.cells.2.1
              replace cTy2 := Ty.cells.2.2
              replace zTy := Ty.lt
              have fTx0 := Tx.froz.1
              have fTx1 := Tx.froz.2.1
              have fTx2 := Tx.froz.2.2
              have fTy0 := Ty.froz.1
              have fTy1 := Ty.froz.2.1
              have fTy2 := Ty.froz.2.2
              go_region_held3 (fun w' => (w'.cell? ⟨w.heap.size, 0, none⟩ = some (.bool na) ∧ w'.cell? ⟨w.heap.size, 1, none⟩ = some (.slice aa la ca)) ∧ (w'.cell? ⟨w.heap.size + 1, 0, none⟩ = some (.bool nb) ∧ w'.cell? ⟨w.heap.size + 1, 1, none⟩ = some (.slice ab lb cb)) ∧ (w'.cell? ⟨w.heap.size + 1 + 1, 0, none⟩ = some (.bool nc) ∧ w'.cell? ⟨w.heap.size + 1 + 1, 1, none⟩ = some (.slice ac lc cc))) (first | with_reducible exact ⟨⟨Ta.cells.1, Ta.cells.2⟩, ⟨Tb.cells.1, Tb.cells.2⟩, ⟨Tc.cells.1, Tc.cells.2⟩⟩ | with_reducible exact ⟨⟨(Ta.put3 Tx _ _ _).cells.1, (Ta.put3 Tx _ _ _).cells.2⟩, ⟨(Tb.put3 Tx _ _ _).cells.1, (Tb.put3 Tx _ _ _).cells.2⟩, ⟨(Tc.put3 Tx _ _ _).cells.1, (Tc.put3 Tx _ _ _).cells.2⟩⟩ | with_reducible exact ⟨⟨(Ta.put33 Tx Ty _ _ _ _ _ _).cells.1, (Ta.put33 Tx Ty _ _ _ _ _ _).cells.2⟩, ⟨(Tb.put33 Tx Ty _ _ _ _ _ _).cells.1, (Tb.put33 Tx Ty _ _ _ _ _ _).cells.2⟩, ⟨(Tc.put33 Tx Ty _ _ _ _ _ _).cells.1, (Tc.put33 Tx Ty _ _ _ _ _ _).cells.2⟩⟩) (first | (go_at_call 65; (with_reducible refine (lawVal_any _ _ _ _ _).mono ?_); rintro e wq ⟨rfl, bq⟩; replace U0 := U0.trans (bq.mono U0.size); replace Ta := Ta.below bq; replace sa := sa.below bq; replace Tb := Tb.below bq; replace sb := sb.below bq; replace Tc := Tc.below bq; replace sc := sc.below bq; replace Tx := Tx.below bq; replace Ty := Ty.below bq; replace cTa0 := Ta.cells.1; replace cTa1 := Ta.cells.2; replace zTa := Ta.lt; replace cTb0 := Tb.cells.1; replace cTb1 := Tb.cells.2; replace zTb := Tb.lt; replace cTc0 := Tc.cells.1; replace cTc1 := Tc.cells.2; replace zTc := Tc.lt; replace cTx0 := Tx.cells.1; replace cTx1 := Tx.cells.2.1; replace cTx2 := Tx.cells.2.2; replace zTx := Tx.lt; replace cTy0 := Ty.cells.1; replace cTy1 := Ty.cells.2.1; replace cTy2 := Ty.cells.2.2; replace zTy := Ty.lt; (try replace st := st.below bq); (try replace su := su.below bq); replace fTx0 := Tx.froz.1; replace fTx1 := Tx.froz.2.1; replace fTx2 := Tx.froz.2.2; replace fTy0 := Ty.froz.1; replace fTy1 := Ty.froz.2.1; replace fTy2 := Ty.froz.2.2; clear bq) | (go_at_call 68; (first | ((with_reducible refine (Ct.out _ _ _ _ _ _ _ sa sc).mono ?_); rintro e wq ⟨tt1, tt2, tt3, rfl, st, bq⟩; replace U0 := U0.trans (bq.mono U0.size); replace Ta := Ta.below bq; replace sa := sa.below bq; replace Tb := Tb.below bq; replace sb := sb.below bq; replace Tc := Tc.below bq; replace sc := sc.below bq; replace Tx := Tx.below bq; replace Ty := Ty.below bq; replace cTa0 := Ta.cells.1; replace cTa1 := Ta.cells.2; replace zTa := Ta.lt; replace cTb0 := Tb.cells.1; replace cTb1 := Tb.cells.2; replace zTb := Tb.lt; replace cTc0 := Tc.cells.1; replace cTc1 := Tc.cells.2; replace zTc := Tc.lt; replace cTx0 := Tx.cells.1; replace cTx1 := Tx.cells.2.1; replace cTx2 := Tx.cells.2.2; replace zTx := Tx.lt; replace cTy0 := Ty.cells.1; replace cTy1 := Ty.cells.2.1; replace cTy2 := Ty.cells.2.2; replace zTy := Ty.lt; replace fTx0 := Tx.froz.1; replace fTx1 := Tx.froz.2.1; replace fTx2 := Tx.froz.2.2; replace fTy0 := Ty.froz.1; replace fTy1 := Ty.froz.2.1; replace fTy2 := Ty.froz.2.2; clear bq) | ((with_reducible refine (Cu.out _ _ _ _ _ _ _ sb sc).mono ?_); rintro e wq ⟨uu1, uu2, uu3, rfl, su, bq⟩; replace U0 := U0.trans (bq.mono U0.size); replace Ta := Ta.below bq; replace sa := sa.below bq; replace Tb := Tb.below bq; replace sb := sb.below bq; replace Tc := Tc.below bq; replace sc := sc.below bq; replace Tx := Tx.below bq; replace Ty := Ty.below bq; replace cTa0 := Ta.cells.1; replace cTa1 := Ta.cells.2; replace zTa := Ta.lt; replace cTb0 := Tb.cells.1; replace cTb1 := Tb.cells.2; replace zTb := Tb.lt; replace cTc0 := Tc.cells.1; replace cTc1 := Tc.cells.2; replace zTc := Tc.lt; replace cTx0 := Tx.cells.1; replace cTx1 := Tx.cells.2.1; replace cTx2 := Tx.cells.2.2; replace zTx := Tx.lt; replace cTy0 := Ty.cells.1; replace cTy1 := Ty.cells.2.1; replace cTy2 := Ty.cells.2.2; replace zTy := Ty.lt; (try replace st := st.below bq); replace fTx0 := Tx.froz.1; replace fTx1 := Tx.froz.2.1; replace fTx2 := Tx.froz.2.2; replace fTy0 := Ty.froz.1; replace fTy1 := Ty.froz.2.1; replace fTy2 := Ty.froz.2.2; clear bq))))
              go_wp2_with fail; go_meet
              obtain ⟨t1_, k1, m1⟩ := st.turn Tx nt tt1 tt2 tt3 et
              obtain ⟨t2_, k2, m2⟩ := su.turn Tx nt tt1 tt2 tt3 et
              have Tx' := Box3.set (n' := nt) (ao' := tt1) (l' := tt2) (c' := tt3) (er' := et) Tx
              have Ty' := (heap_set3 (w := wq) hne2 (.bool nt) (.slice tt1 tt2 tt3) (.int .i64 et)).trans Ty
              have Tc' := (heap_set3 (w := wq) (BoxI.ne3 Tc Tx) (.bool nt) (.slice tt1 tt2 tt3) (.int .i64 et)).trans Tc
              have Uc := Below.set3 U0 hgx (.bool nt) (.slice tt1 tt2 tt3) (.int .i64 et)
              have ncy := BoxI.ne3 Tc Ty
              generalize (((wq.setCell ⟨gx, 0, none⟩ (.bool nt)).setCell ⟨gx, 1, none⟩ (.slice tt1 tt2 tt3)).setCell ⟨gx, 2, none⟩ (.int .i64 et)) = wr at *
              obtain ⟨X, k3, m3⟩ := k1.turn Ty' nu uu1 uu2 uu3 eu
              obtain ⟨Y, k4, m4⟩ := k2.turn Ty' nu uu1 uu2 uu3 eu
              exact ⟨tt1, tt2, tt3, X, uu1, uu2, uu3, Y, (heap_set3 hne _ _ _).trans Tx', k3, ⟨t1_, m1, m3⟩, Box3.set Ty', k4, ⟨t2_, m2, m4⟩, (heap_set3 ncy _ _ _).trans Tc', Below.set3 Uc hgy _ _ _⟩
            case rest =>
              obtain ⟨a1, l1, c1, X, a2, l2, c2, Y, Tx, sx, MX1, Ty, sy, MX2, Tc, U0⟩ := hcut
              have cTx0 := Tx.cells.1
              have cTx1 := Tx.cells.2.1
              have cTx2 := Tx.cells.2.2
              have zTx := Tx.lt
              have cTy0 := Ty.cells.1
              have cTy1 := Ty.cells.2.1
              have cTy2 := Ty.cells.2.2
              have zTy := Ty.lt
              have cTc0 := Tc.cells.1
              have cTc1 := Tc.cells.2
              have zTc := Tc.lt
              clear Ct Cu hne hgx hgy
              have HM1 := Lib.hid MX1; have HM2 := Lib.hid MX2; clear MX1 MX2
              go_wp2_with fail
              (with_reducible refine (Sc.out _).mono ?_)
              rintro e w1 ⟨rfl, b1⟩
              replace U0 := U0.trans (b1.mono U0.size)
              replace Tx := Tx.below b1
              replace sx := sx.below b1
              replace Ty := Ty.below b1
              replace sy := sy.below b1
              replace Tc := Tc.below b1
              replace cTx0 := Tx.cells.1
              replace cTx1 := Tx.cells.2.1
              replace cTx2 := Tx.cells.2.2
              replace zTx := Tx.lt
              replace cTy0 := Ty.cells.1
              replace cTy1 := Ty.cells.2.1
              replace cTy2 := Ty.cells.2.2
              replace zTy := Ty.lt
              replace cTc0 := Tc.cells.1
              replace cTc1 := Tc.cells.2
              replace zTc := Tc.lt
              clear b1
              by_cases k0 : 0 < vc
              · have q0_ : decide (vc ≤ 0) = false := decide_eq_false (by omega)
                by_cases t0 : et = 0
                · have q1_ : (et != 0) = false := by rw [t0]; rfl
                  by_cases u0 : eu = 0
                  · have q2_ : (eu != 0) = false := by rw [u0]; rfl
                    have HE := Lib.hid (MX.out X Y k0 t0 u0 HM1.out HM2.out)
                    have Cf := Lib.hid (fun ax la ca ay lb cb w h1 h2 => compare_any nt ax la ca X nu ay lb cb Y w h1 h2)
                    rw [HE.out] at Cf
                    have q3_ : (p == p) = true := by simp
                    clear HE HM1 HM2 MX k0 t0 u0
                    go_wp2_with fail
                    (with_reducible refine (Cf.out _ _ _ _ _ _ _ (by exact sx) (by exact sy)).mono ?_)
                    rintro e w2 ⟨rfl, b2⟩
                    replace U0 := U0.trans (b2.mono U0.size)
                    replace Tx := Tx.below b2
                    replace sx := sx.below b2
                    replace Ty := Ty.below b2
                    replace sy := sy.below b2
                    replace Tc := Tc.below b2
                    replace cTx0 := Tx.cells.1
                    replace cTx1 := Tx.cells.2.1
                    replace cTx2 := Tx.cells.2.2
                    replace zTx := Tx.lt
                    replace cTy0 := Ty.cells.1
                    replace cTy1 := Ty.cells.2.1
                    replace cTy2 := Ty.cells.2.2
                    replace zTy := Ty.lt
                    replace cTc0 := Tc.cells.1
                    replace cTc1 := Tc.cells.2
                    replace zTc := Tc.lt
                    clear b2
                    go_wp2; go_ret; exact ⟨rfl, U0⟩
                  · have q2_ : (eu != 0) = true := by simpa using u0
                    clear HM1 HM2 MX k0 t0 u0; go_wp2; go_ret; exact ⟨rfl, U0⟩
                · have q1_ : (et != 0) = true := by simpa using t0
                  clear HM1 HM2 MX k0 t0; go_wp2; go_ret; exact ⟨rfl, U0⟩
              · have q0_ : decide (vc ≤ 0) = true := decide_eq_true (by omega)
                clear HM1 HM2 MX k0; go_wp2; go_ret; exact ⟨rfl, U0⟩

theorem numOrder_any (na : Bool) (aa : Option Addr) (la ca : Nat) (xa : List Int) (nb : Bool) (ab : Option Addr) (lb cb : Nat) (xb : List Int) (nc : Bool) (ac : Option Addr) (lc cc : Nat) (xc : List Int) (w : World) (ht : Tab w) (sa : Sl w aa la ca xa) (sb : Sl w ab lb cb xb) (sc : Sl w ac lc cc xc) : Calls Tryz.prog 9 #[.agg #[.bool na, .slice aa la ca], .agg #[.bool nb, .slice ab lb cb], .agg #[.bool nc, .slice ac lc cc]] w (RetBool true w) := by
  cases hr : (!(wrong ⟨na, aa, la, ca, xa⟩ || (wrong ⟨nb, ab, lb, cb, xb⟩ || wrong ⟨nc, ac, lc, cc, xc⟩)))
  · exact order_wrong na aa la ca xa nb ab lb cb xb nc ac lc cc xc w ht sa sb sc hr
  · have h := hr
    simp only [Bool.not_eq_true', Bool.or_eq_false_iff] at h
    obtain ⟨a, Na⟩ := wrong_no sa h.1
    obtain ⟨b, Nb⟩ := wrong_no sb h.2.1
    obtain ⟨c, Nc⟩ := wrong_no sc h.2.2
    exact order_right na aa la ca xa nb ab lb cb xb nc ac lc cc xc w ht sa sb sc a Na b Nb c Nc hr
end Go.Proofs.YtcmocjfnmfiieaaGreatDoor

/- NumOrder: for every input the law answers true, and each argument reads afterwards as it read before. Condition: the table of the powers of ten lies as the program's text lays it (tied by the card). -/
namespace Go.Proofs.YtcmocjfnmfiieaaGreatDoor.lawNumOrder
open Go.ChangeShapes Go.WideShapes Go.ChangeAt Go.RowKit

theorem door_met (os : Os) (args : Array Value) : laidMetH Tryz.prog Rows.numOrderRow.laid ((World.doorLaid Tryz.prog 24 os).forCall (fun _ _ => 0) ⟨#[], args, []⟩).memory :=
  laidMetH_of_parts3 (fuel := 8) (laidMet_of_run' 8 (by kernel_rfl) (by kernel_rfl)) (by kernel_rfl) (by kernel_rfl)

set_option maxRecDepth 100000 in
theorem lifted (os : Os) (started : os.Started) (H : Type) (enc : TypeId × Value → H) :
    ReturnsInHanded {} Tryz.checked os 9 .any (fun w args => (Rows.numOrderSpec.pre enc Tryz.prog Tryz.f9 [] false w args ∧ laidMetH Tryz.prog Rows.numOrderRow.laid w) ∧ sizedMet enc Tryz.prog Tryz.f9 (OpenSpec.ofChange Rows.numOrderSpec) false w args)
      (Rows.numOrderSpec.post enc Tryz.prog Tryz.f9 false true false false) := by
  refine returnsInHanded_of_change_and (C := Tryz.checked) (X := fun w _ => laidMetH Tryz.prog Rows.numOrderRow.laid w) (fun _ _ _ hh h => h.of_heap hh) lift_own started (by kernel_rfl) Tryz.func9
    (ChangeSpec.witness_shaped (enc := enc) (C := Tryz.checked) (os := os) (X := fun w _ => laidMetH Tryz.prog Rows.numOrderRow.laid w) false (World.doorLaid Tryz.prog 24 os) #[.agg #[.bool false, .slice none 0 0], .agg #[.bool false, .slice none 0 0], .agg #[.bool false, .slice none 0 0]] 8 rfl (World.shaped_of_RefB (by kernel_rfl) (by kernel_rfl)) (by kernel_rfl) (by kernel_rfl) (by kernel_rfl) (door_met os _)) ?_
  intro W base args ds gs before hval0 hW _ _ hL _
  have hval : ∀ (j : Nat) t v, Tryz.f9.params[j]? = some t → args[j]? = some v → Value.okWide Tryz.prog W .any base t v := hval0
  have hW' := hW
  obtain ⟨p, q, hA0, hV, rfl, hfz, hnd⟩ := hW
  have hA : DataW.TrodAll enc Tryz.prog W 0 (fun _ => true) true Tryz.f9.params.toList args.toList ds p := hA0
  rw [Tryz.params9] at hA hval
  clear hA0 hval0
  obtain ⟨v0, vs0, d0, ds0, p0, q0, hargs, rfl, rfl, h0, r0⟩ := trodAll_cons hA
  obtain ⟨v1, vs1, d1, ds1, p1, q1, rfl, rfl, rfl, h1, r1⟩ := trodAll_cons r0
  obtain ⟨v2, vs2, d2, ds2, p2, q2, rfl, rfl, rfl, h2, r2⟩ := trodAll_cons r1
  obtain ⟨rfl, rfl, rfl⟩ := trodAll_nil r2
  obtain rfl : args = #[v0, v1, v2] := by cases args; simp_all
  obtain ⟨rfl, rfl⟩ := trodVars_none hV
  obtain ⟨n0, ao0, len0, cap0, xs0, rfl, s0⟩ := open_I (hval 0 24 v0 rfl rfl) h0
  obtain ⟨n1, ao1, len1, cap1, xs1, rfl, s1⟩ := open_I (hval 1 24 v1 rfl rfl) h1
  obtain ⟨n2, ao2, len2, cap2, xs2, rfl, s2⟩ := open_I (hval 2 24 v2 rfl rfl) h2
  simp only [List.append_nil] at hW'
  refine (numOrder_any n0 ao0 len0 cap0 xs0 n1 ao1 len1 cap1 xs1 n2 ao2 len2 cap2 xs2 W (lift_tab hL) s0 s1 s2).mono fun e W' ⟨he, hg⟩ => ?_
  subst he
  have hlt : ∀ x ∈ p0 ++ (p1 ++ (p2)), x.block < W.heap.size := fun x hx => hW'.lt x hx
  have in0 : ∀ x ∈ p0, x ∈ p0 ++ (p1 ++ (p2)) := fun x hx => by simp [hx]
  have in1 : ∀ x ∈ p1, x ∈ p0 ++ (p1 ++ (p2)) := fun x hx => by simp [hx]
  have in2 : ∀ x ∈ p2, x ∈ p0 ++ (p1 ++ (p2)) := fun x hx => by simp [hx]
  exact ⟨_, rfl, post_of_below (pv := []) hW' (fun _ _ _ => (trodAll_cons_mk (shut_bool Tryz.underlying4 _) trodAll_mk0)) (fun sp hsp => (trodAll_cons_mk (again_I h0 hg (fun x hx => hlt x (in0 x hx)) (fun x hx => hsp x (in0 x hx))) (trodAll_cons_mk (again_I h1 hg (fun x hx => hlt x (in1 x hx)) (fun x hx => hsp x (in1 x hx))) (trodAll_cons_mk (again_I h2 hg (fun x hx => hlt x (in2 x hx)) (fun x hx => hsp x (in2 x hx))) trodAll_mk0)))) (fun _ _ => rfl) (by simp)
    hg (ok_one (by kernel_rfl) rfl (okWide_bool_mk Tryz.underlying4 _))⟩

theorem over : Rows.numOrderRow.holds Tryz.pinned (OpenSpec.ofChange Rows.numOrderSpec) :=
  OpenClaim.holds_of_wide 9 Tryz.f9 rfl rfl rfl rfl rfl rfl rfl ⟨rfl, rfl, rfl, rfl, rfl⟩ rfl rfl rfl rfl rfl (by kernel_rfl) Tryz.func9 (by kernel_rfl)
    (of_decide_eq_true (by kernel_rfl)) (by unfold Func.isWrapper; first | (rw [if_pos (by decide +kernel)]; kernel_rfl) | (rw [if_neg (by decide +kernel)]; exact ⟨rfl, rfl⟩))
    (fun os started H enc _ => lifted os started H enc)

theorem plain (f : FuncId) (fn : Func) (hf : Tryz.pinned.checked.prog.funcNamed "foregone/foregonelaw01.NumOrder" = some f) (hfn : Tryz.pinned.checked.prog.funcs[f]? = some fn) :
    false = Tryz.pinned.checked.prog.looks [] ∧ ∀ (j : Nat) t, fn.params[j]? = some t → Tryz.pinned.checked.prog.wantsStandIn t = false := by
  obtain rfl : f = 9 := Option.some.inj ((show Tryz.prog.funcNamed "foregone/foregonelaw01.NumOrder" = some 9 by kernel_rfl).symm.trans hf) |>.symm
  obtain rfl : fn = Tryz.f9 := (Option.some.inj (Tryz.func9.symm.trans hfn)).symm
  refine ⟨by kernel_rfl, fun j t ht => ?_⟩
  rw [Tryz.params9] at ht
  have hm : t ∈ [24] := by simpa using Array.mem_of_getElem? ht
  have hall : ([24].all fun u => !Tryz.prog.wantsStandIn u) = true := by kernel_rfl
  exact (show Tryz.prog.wantsStandIn t = false by simpa using List.all_eq_true.1 hall t hm)

theorem card : Rows.NumOrderCardSaid :=
  Claim7.holds_tied_plain_at .later [] _ _ _ _ over (fun _ h => by cases h) (by kernel_rfl) (fun _ h => by cases h) numOrder_row_tie rfl ⟨rfl, rfl⟩ (by kernel_rfl) rfl plain (by kernel_rfl)
end Go.Proofs.YtcmocjfnmfiieaaGreatDoor.lawNumOrder

/- NumSums: what its walk leans on: contracts of helpers, and facts of integers. -/
import Derived.Orders
import Derived.RegionTactic
import Derived.Deep.RegionHeld
import Derived.WalkKit
import Derived.Test.YtfjnplhhgdfepaaGreatDoorProg
import Derived.IntWalk
import Derived.Outline
import Derived.BigRegion
import Derived.Deep.RegionWith
import Derived.Laws.Small
import Derived.Test.YtfjnplhhgdfepaaGreatDoorK8
set_option linter.all false

/- The closure of NumPowers; right at four data. -/
namespace Go.Proofs.YtfjnplhhgdfepaaGreatDoor
open Go.RowKit

def powerR (p q : Int × Int) : Int × Int := if p.2 = 0 ∧ q.2 = 0 then fitR (p.1 ^ q.1.natAbs) else (0, 2)

set_option maxHeartbeats 1000000 in
theorem lawPower_ok (n1 : Bool) (ax : Option Addr) (la ca : Nat) (xs : List Int) (n2 : Bool) (ay : Option Addr) (lb cb : Nat) (ys : List Int) (n3 : Bool) (zs : List Int) (e3 : Int) (hzl : zs.getLast? ≠ some 0) (w : World) (hx : Sl w ax la ca xs) (hy : Sl w ay lb cb ys)
    (hc : ∀ w, Sl w ax la ca xs → Sl w ay lb cb ys → Calls Tryz.prog 54 #[.agg #[.bool n1, .slice ax la ca], .agg #[.bool n2, .slice ay lb cb]] w (RetPE n3 zs e3 w)) :
    Calls Tryz.prog 71 #[.agg #[.bool n1, .slice ax la ca, .int .i64 0], .agg #[.bool n2, .slice ay lb cb, .int .i64 0]] w (RetQ n3 zs e3 w) := by
  have Hc := Lib.hid hc
  have Hzl := Lib.hid hzl
  clear hc hzl
  go_enter Tryz.func71, Tryz.ntmps71
  go_wp2_with fail
  (with_reducible refine (Hc.out _ (by exact ((hx.alloc _).alloc _).alloc _) (by exact ((hy.alloc _).alloc _).alloc _)).mono ?_)
  rintro e w1 ⟨a1, l1, c1, rfl, s1, b1⟩
  obtain ⟨_, _, hC, hz, hbb⟩ := kept3 _ _ _ _ b1
  clear b1
  go_wp2_with fail
  (with_reducible refine (got_any _ _ _ _ _ _).mono ?_)
  rintro e w2 ⟨rfl, b2⟩
  have hC2 : Box3 w2 (w.heap.size + 1 + 1) false none 0 0 0 := (b2.block _ (Array.getElem?_eq_some_iff.1 hC).1).trans hC
  obtain ⟨f0, f1, f2⟩ := hC2.cells
  obtain ⟨g0, g1, g2⟩ := hC2.froz
  have hsz := hC2.lt
  have s2 := s1.below b2
  have hb2 := hbb.trans (b2.mono hbb.size)
  have HC := Lib.hid hC2
  clear hC hC2 b2 hbb s1
  go_wp2
  refine bodyPost_ret (v := .agg #[.bool n3, .slice a1 l1 c1, .int .i64 e3]) (by simp [results, Tryz.results71, go_sem, f0, f1, f2]) rfl ?_
  refine ⟨a1, l1, c1, rfl, ?_, ((hb2.setCell (by simp; omega) _).setCell (by simp; omega) _).setCell (by simp; omega) _⟩
  exact s2.pair Hzl.out HC.out _ _ _ _ _

set_option maxHeartbeats 1000000 in
theorem lawPower_bad (n1 : Bool) (ax : Option Addr) (la ca : Nat) (e1 : Int) (n2 : Bool) (ay : Option Addr) (lb cb : Nat) (e2 : Int) (w : World) (h : ¬ (e1 = 0 ∧ e2 = 0)) :
    Calls Tryz.prog 71 #[.agg #[.bool n1, .slice ax la ca, .int .i64 e1], .agg #[.bool n2, .slice ay lb cb, .int .i64 e2]] w (RetQ false [] 2 w) := by
  have hb : ∀ o p q : Obj, Below w.heap.size w (((w.alloc o).alloc p).alloc q) := fun o p q => below3 w o p q
  by_cases h1 : e1 = 0
  · have h2 : e2 ≠ 0 := fun h' => h ⟨h1, h'⟩
    subst h1
    have hq : (e2 != 0) = true := by simpa using h2
    clear h h2
    go_enter Tryz.func71, Tryz.ntmps71
    go_wp2
    refine bodyPost_ret (v := .agg #[.bool false, .slice none 0 0, .int .i64 2]) (by simp [results, Tryz.results71, go_sem]) rfl ?_
    exact ⟨_, _, _, rfl, Sl.nil _, hb _ _ _⟩
  · have hq : (e1 != 0) = true := by simpa using h1
    clear h h1
    go_enter Tryz.func71, Tryz.ntmps71
    go_wp2
    refine bodyPost_ret (v := .agg #[.bool false, .slice none 0 0, .int .i64 2]) (by simp [results, Tryz.results71, go_sem]) rfl ?_
    exact ⟨_, _, _, rfl, Sl.nil _, hb _ _ _⟩

theorem lawPower_any {x y z e1 e2 e3 : Int} {n1 n2 n3 : Bool} {xs ys zs : List Int} (hx : Num x n1 xs) (hy : Num y n2 ys) (hz : Num z n3 zs) (hy0 : e2 = 0 → 0 ≤ y) (he : powerR (x, e1) (y, e2) = (z, e3)) (ax : Option Addr) (la ca : Nat) (ay : Option Addr) (lb cb : Nat) (w : World) (sx : Sl w ax la ca xs) (sy : Sl w ay lb cb ys) :
    Calls Tryz.prog 71 #[.agg #[.bool n1, .slice ax la ca, .int .i64 e1], .agg #[.bool n2, .slice ay lb cb, .int .i64 e2]] w (RetQ n3 zs e3 w) := by
  obtain ⟨h1, rfl, rfl⟩ := hx
  obtain ⟨h2, rfl, rfl⟩ := hy
  obtain ⟨_, rfl, rfl⟩ := hz
  unfold powerR at he
  by_cases h : e1 = 0 ∧ e2 = 0
  · rw [if_pos h] at he
    obtain ⟨rfl, rfl⟩ := h
    refine lawPower_ok _ ax la ca _ _ ay lb cb _ _ _ _ (parts_last _) w sx sy fun w sx sy => ((Pow_ok x y h1 h2 (hy0 rfl) ax la ca ay lb cb w sx sy).mono fun _ _ h => ?_)
    have := h.fit
    rw [he] at this
    exact this
  · rw [if_neg h] at he
    cases he
    have := lawPower_bad (decide (x < 0)) ax la ca e1 (decide (y < 0)) ay lb cb e2 w h
    rw [show decide ((0 : Int) < 0) = false from rfl, show (0 : Int).natAbs = 0 from rfl, parts_zero]
    exact this

theorem right4 (n1 : Bool) (a1 : Option Addr) (l1 c1 : Nat) (x1 : List Int) (n2 : Bool) (a2 : Option Addr) (l2 c2 : Nat) (x2 : List Int) (n3 : Bool) (a3 : Option Addr) (l3 c3 : Nat) (x3 : List Int) (n4 : Bool) (a4 : Option Addr) (l4 c4 : Nat) (x4 : List Int) (w : World) (g : Nat) (hg : w.heap[g]? = some (.cells #[.bool n1, .slice a1 l1 c1, .bool n2, .slice a2 l2 c2, .bool n3, .slice a3 l3 c3, .bool n4, .slice a4 l4 c4] 24 (0, 0)))
    (h1 : Sl w a1 l1 c1 x1) (h2 : Sl w a2 l2 c2 x2) (h3 : Sl w a3 l3 c3 x3) (h4 : Sl w a4 l4 c4 x4) (r : Bool) (hr : (!(wrong ⟨n1, a1, l1, c1, x1⟩ || (wrong ⟨n2, a2, l2, c2, x2⟩ || (wrong ⟨n3, a3, l3, c3, x3⟩ || wrong ⟨n4, a4, l4, c4, x4⟩)))) = r) :
    Calls Tryz.prog 64 #[.slice (some ⟨g, 0, none⟩) 4 4] w (RetBool r w) := by
  have := right_any g [⟨n1, a1, l1, c1, x1⟩, ⟨n2, a2, l2, c2, x2⟩, ⟨n3, a3, l3, c3, x3⟩, ⟨n4, a4, l4, c4, x4⟩] w hg (by
    intro d hd
    simp only [List.mem_cons, List.not_mem_nil, or_false] at hd
    rcases hd with rfl | rfl | rfl | rfl
    · exact h1
    · exact h2
    · exact h3
    · exact h4) (by simp)
  rw [show List.any [(⟨n1, a1, l1, c1, x1⟩ : Dat), ⟨n2, a2, l2, c2, x2⟩, ⟨n3, a3, l3, c3, x3⟩, ⟨n4, a4, l4, c4, x4⟩] wrong = (wrong ⟨n1, a1, l1, c1, x1⟩ || (wrong ⟨n2, a2, l2, c2, x2⟩ || (wrong ⟨n3, a3, l3, c3, x3⟩ || wrong ⟨n4, a4, l4, c4, x4⟩))) by simp, hr] at this
  exact this

/-! What results mean, where there are any. -/
theorem fitR_zero {z v : Int} (h : fitR z = (v, 0)) : v = z := by
  by_cases hl : Lim z
  · rw [fitR_ok hl] at h; cases h; rfl
  · rw [fitR_no hl] at h; cases h
theorem sumR_lim (p q : Int × Int) : Lim (sumR p q).1 := by
  unfold sumR; split
  · exact fitR_lim _
  · exact Lim.zero
theorem timesR_lim (p q : Int × Int) : Lim (timesR p q).1 := by
  unfold timesR; split
  · exact fitR_lim _
  · exact Lim.zero
theorem powerR_lim (p q : Int × Int) : Lim (powerR p q).1 := by
  unfold powerR; split
  · exact fitR_lim _
  · exact Lim.zero
theorem sumR_zero {x e1 y e2 v : Int} (h : sumR (x, e1) (y, e2) = (v, 0)) : e1 = 0 ∧ e2 = 0 ∧ v = x + y := by
  unfold sumR at h; split at h
  · rename_i hh; exact ⟨hh.1, hh.2, fitR_zero h⟩
  · cases h
theorem timesR_zero {x e1 y e2 v : Int} (h : timesR (x, e1) (y, e2) = (v, 0)) : e1 = 0 ∧ e2 = 0 ∧ v = x * y := by
  unfold timesR at h; split at h
  · rename_i hh; exact ⟨hh.1, hh.2, fitR_zero h⟩
  · cases h
theorem powerR_zero {x e1 y e2 v : Int} (h : powerR (x, e1) (y, e2) = (v, 0)) : e1 = 0 ∧ e2 = 0 ∧ v = x ^ y.natAbs := by
  unfold powerR at h; split at h
  · rename_i hh; exact ⟨hh.1, hh.2, fitR_zero h⟩
  · cases h
end Go.Proofs.YtfjnplhhgdfepaaGreatDoor

/- A pair's box that a drawn region makes: what a store into it leaves as it was. -/
namespace Go.Proofs.YtfjnplhhgdfepaaGreatDoor
open Go.RowKit

/-- Block g holds the zero pair: just made. -/
def Zr (w : World) (g : Nat) : Prop := w.heap[g]? = some (.cells #[.bool false, .slice none 0 0, .int .i64 0] 38 (0, 0))
theorem Zr.cells {w : World} {g : Nat} (h : Zr w g) : w.cell? ⟨g, 0, none⟩ = some (.bool false) ∧ w.cell? ⟨g, 1, none⟩ = some (.slice none 0 0) ∧ w.cell? ⟨g, 2, none⟩ = some (.int .i64 0) := Box3.cells h
theorem Zr.froz {w : World} {g : Nat} (h : Zr w g) : w.frozen? ⟨g, 0, none⟩ = false ∧ w.frozen? ⟨g, 1, none⟩ = false ∧ w.frozen? ⟨g, 2, none⟩ = false := Box3.froz h
theorem Zr.below {w w' : World} {g : Nat} (h : Zr w g) (hb : Below w.heap.size w w') : Zr w' g := Box3.below h hb
theorem Zr.alloc {w : World} {g : Nat} (h : Zr w g) (o : Obj) : Zr (w.alloc o) g := h.below ((Below.refl _ _).alloc (Nat.le_refl _) o)
theorem Zr.new {w w' : World} (hb : Below (w.alloc (.cells #[.bool false, .slice none 0 0, .int .i64 0] 38)).heap.size (w.alloc (.cells #[.bool false, .slice none 0 0, .int .i64 0] 38)) w') : Zr w' w.heap.size := (kept1 _ _ hb).1
theorem Zr.newD {w w' : World} (hb : Below (w.alloc (.cells #[.bool false, .slice none 0 0, .int .i64 0] 38)).drew.heap.size (w.alloc (.cells #[.bool false, .slice none 0 0, .int .i64 0] 38)).drew w') : Zr w' w.heap.size := (kept1 _ _ (Below.undrew hb)).1
theorem Zr.newA {w w' : World} {o : Obj} (hb : Below ((w.alloc o).alloc (.cells #[.bool false, .slice none 0 0, .int .i64 0] 38)).heap.size ((w.alloc o).alloc (.cells #[.bool false, .slice none 0 0, .int .i64 0] 38)) w') : Zr w' (w.heap.size + 1) := (kept2 _ _ _ hb).2.1
theorem Zr.newAD {w w' : World} {o : Obj} (hb : Below ((w.alloc o).alloc (.cells #[.bool false, .slice none 0 0, .int .i64 0] 38)).drew.heap.size ((w.alloc o).alloc (.cells #[.bool false, .slice none 0 0, .int .i64 0] 38)).drew w') : Zr w' (w.heap.size + 1) := Zr.newA (Below.undrew hb)
theorem alloc_le {B : Nat} {w : World} {o : Obj} (h : B ≤ (w.alloc o).heap.size) : B ≤ w.heap.size + 1 := by simpa using h
theorem BoxI.ne {w : World} {a g : Nat} {n : Bool} {ao : Option Addr} {l c : Nat} (h : BoxI w a n ao l c) (z : Zr w g) : a ≠ g := by
  rintro rfl
  have e := h.symm.trans z
  injection e with e
  injection e with e
  have := congrArg Array.size e
  simp at this
theorem heap_set3 {w : World} {a g : Nat} (h : a ≠ g) (u v x : Value) : (((w.setCell ⟨g, 0, none⟩ u).setCell ⟨g, 1, none⟩ v).setCell ⟨g, 2, none⟩ x).heap[a]? = w.heap[a]? := by
  rw [Below.heap_setCell _ _ _ _ h, Below.heap_setCell _ _ _ _ h, Below.heap_setCell _ _ _ _ h]
theorem BoxI.set3 {w : World} {a g : Nat} {n : Bool} {ao : Option Addr} {l c : Nat} (h : BoxI w a n ao l c) (z : Zr w g) (u v x : Value) : BoxI (((w.setCell ⟨g, 0, none⟩ u).setCell ⟨g, 1, none⟩ v).setCell ⟨g, 2, none⟩ x) a n ao l c :=
  (heap_set3 (h.ne z) u v x).trans h
theorem Below.set3 {B : Nat} {a w : World} (h : Below B a w) {g : Nat} (hg : B ≤ g) (u v x : Value) : Below B a (((w.setCell ⟨g, 0, none⟩ u).setCell ⟨g, 1, none⟩ v).setCell ⟨g, 2, none⟩ x) :=
  ((h.setCell hg u).setCell hg v).setCell hg x
/-- The law's same at a pair and itself. -/
theorem pairSelfQ {z : Int} {n : Bool} {xs : List Int} (hz : Num z n xs) (er : Int) (ax : Option Addr) (la ca : Nat) (ay : Option Addr) (lb cb : Nat) (w : World) (hx : Sl w ax la ca xs) (hy : Sl w ay lb cb xs) :
    Calls Tryz.prog 27 #[.agg #[.bool n, .slice ax la ca, .int .i64 er], .agg #[.bool n, .slice ay lb cb, .int .i64 er]] w (RetBool true w) := by
  obtain ⟨_, rfl, rfl⟩ := hz
  have h := lawSame_any (decide (z < 0)) ax la ca (parts z.natAbs) er (decide (z < 0)) ay lb cb (parts z.natAbs) er w hx hy
  rwa [sameI_num, show (decide (er = er) && decide (z = z)) = true by simp] at h
theorem Num.last {z : Int} {n : Bool} {xs : List Int} (h : Num z n xs) : xs.getLast? ≠ some 0 := by
  rw [h.2.2]; exact parts_last _
end Go.Proofs.YtfjnplhhgdfepaaGreatDoor

/- Neg. -/
namespace Go.Proofs.YtfjnplhhgdfepaaGreatDoor
open Go.RowKit

set_option maxHeartbeats 1000000 in
theorem Neg_bad (neg : Bool) (ao : Option Addr) (len cap : Nat) (xs : List Int) (w : World) (hs : Sl w ao len cap xs) (hno : okInt neg xs = false) :
    Calls Tryz.prog 42 #[.agg #[.bool neg, .slice ao len cap]] w (RetE 0 10 w) := by
  have hch := fun w (h : Sl w ao len cap xs) => check_any neg ao len cap xs w h
  rw [hno] at hch
  have Hch := Lib.hid hch
  clear hch hno
  go_enter Tryz.func42, Tryz.ntmps42
  go_wp2_with fail
  refine (Hch.out _ ((hs.alloc _).alloc _)).mono ?_
  rintro e w1 ⟨rfl, hb⟩
  obtain ⟨hA, hR, hz, hbb⟩ := kept2 _ _ _ hb
  obtain ⟨f1, f2, f3, f4, f5⟩ := box2 hR
  clear hA hR hb
  simp only [errOf]
  go_wp2
  refine bodyPost_ret (v := .tuple #[.agg #[.bool false, .slice none 0 0], .int .i64 10]) (by simp [results, Tryz.results42, go_sem, f1, f2]) rfl ?_
  exact ⟨none, 0, 0, rfl, by simp only [Int.natAbs_zero]; rw [parts_zero]; exact Sl.nil _, (hbb.setCell (by simp) _).setCell (by simp) _⟩

set_option maxHeartbeats 1000000 in
theorem Neg_ok (x : Int) (hl : Lim x) (ao : Option Addr) (len cap : Nat) (w : World) (hs : Sl w ao len cap (parts x.natAbs)) :
    Calls Tryz.prog 42 #[.agg #[.bool (decide (x < 0)), .slice ao len cap]] w (RetE (-x) 0 w) := by
  have hok : okInt (decide (x < 0)) (parts x.natAbs) = true := (okInt_iff _ _).2 ⟨x, hl, rfl, rfl⟩
  have hlen : len ≤ 40 := by have := hs.length; unfold Lim at hl; omega
  have hch := fun w (h : Sl w ao len cap (parts x.natAbs)) => check_any (decide (x < 0)) ao len cap (parts x.natAbs) w h
  rw [hok] at hch
  have hop := fun w h => opp_any x ao len cap w h (by omega)
  generalize hsx : decide (x < 0) = sx at *
  generalize hsz : decide (-x < 0) = sz at *
  have Hsz := Lib.hid hsz
  have Hch := Lib.hid hch
  have Hop := Lib.hid hop
  clear hch hok hop hsx hsz hl
  go_enter Tryz.func42, Tryz.ntmps42
  go_wp2_with fail
  refine (Hch.out _ ((hs.alloc _).alloc _)).mono ?_
  rintro e w1 ⟨rfl, hb⟩
  have hs1 := ((hs.alloc _).alloc _).below hb
  obtain ⟨hA, hR, hz, hbb⟩ := kept2 _ _ _ hb
  obtain ⟨k1, k2, k3, k4, k5⟩ := box2 hA
  have HR := Lib.hid hR
  clear hA hR hb
  simp only [errOf]
  go_wp2_with fail
  refine (Hop.out _ (by exact hs1)).mono ?_
  rintro e w2 ⟨ao2, len2, cap2, rfl, hs2, hb2⟩
  rw [Hsz.out]
  obtain ⟨f1, f2, f3, f4, f5⟩ := box2 (w := w2) (g := w.heap.size + 1) (by rw [hb2.block _ (by first | omega | (simp; omega))]; exact HR.out)
  go_wp2
  refine bodyPost_ret (v := .tuple #[.agg #[.bool sz, .slice ao2 len2 cap2], .int .i64 0]) (by simp [results, Tryz.results42, go_sem, f1, f2]) rfl ?_
  exact ⟨ao2, len2, cap2, by rw [Hsz.out], hs2.store2 f1 f2 _ _, (((hbb.trans (hb2.mono (by omega))).setCell (by simp) _).setCell (by simp) _)⟩
end Go.Proofs.YtfjnplhhgdfepaaGreatDoor

/- Fractions: Cross at named numbers, right at seven data, and what NumFractions leans on of integers. -/
namespace Go.Proofs.YtfjnplhhgdfepaaGreatDoor
open Go.RowKit

theorem crossQ {x y z u v : Int} {n1 n2 n3 n4 : Bool} {x1 x2 x3 x4 : List Int} (hx : Num x n1 x1) (hy : Num y n2 x2) (hz : Num z n3 x3) (hu : Num u n4 x4) (py : 0 < y) (pu : 0 < u) (hv : cmp3 (x * u) (z * y) = v)
    (a1 : Option Addr) (l1 c1 : Nat) (a2 : Option Addr) (l2 c2 : Nat) (a3 : Option Addr) (l3 c3 : Nat) (a4 : Option Addr) (l4 c4 : Nat) (w : World) (h1 : Sl w a1 l1 c1 x1) (h2 : Sl w a2 l2 c2 x2) (h3 : Sl w a3 l3 c3 x3) (h4 : Sl w a4 l4 c4 x4) :
    Calls Tryz.prog 58 #[.agg #[.bool n1, .slice a1 l1 c1], .agg #[.bool n2, .slice a2 l2 c2], .agg #[.bool n3, .slice a3 l3 c3], .agg #[.bool n4, .slice a4 l4 c4]] w (RetII v 0 w) := by
  obtain ⟨k1, rfl, rfl⟩ := hx
  obtain ⟨k2, rfl, rfl⟩ := hy
  obtain ⟨k3, rfl, rfl⟩ := hz
  obtain ⟨k4, rfl, rfl⟩ := hu
  subst hv
  exact cross_ok x y z u k1 k2 k3 k4 a1 l1 c1 a2 l2 c2 a3 l3 c3 a4 l4 c4 w h1 h2 h3 h4 py pu
theorem right7 (n1 : Bool) (a1 : Option Addr) (l1 c1 : Nat) (x1 : List Int) (n2 : Bool) (a2 : Option Addr) (l2 c2 : Nat) (x2 : List Int) (n3 : Bool) (a3 : Option Addr) (l3 c3 : Nat) (x3 : List Int) (n4 : Bool) (a4 : Option Addr) (l4 c4 : Nat) (x4 : List Int) (n5 : Bool) (a5 : Option Addr) (l5 c5 : Nat) (x5 : List Int) (n6 : Bool) (a6 : Option Addr) (l6 c6 : Nat) (x6 : List Int) (n7 : Bool) (a7 : Option Addr) (l7 c7 : Nat) (x7 : List Int) (w : World) (g : Nat)
    (hg : w.heap[g]? = some (.cells #[.bool n1, .slice a1 l1 c1, .bool n2, .slice a2 l2 c2, .bool n3, .slice a3 l3 c3, .bool n4, .slice a4 l4 c4, .bool n5, .slice a5 l5 c5, .bool n6, .slice a6 l6 c6, .bool n7, .slice a7 l7 c7] 24 (0, 0)))
    (h1 : Sl w a1 l1 c1 x1) (h2 : Sl w a2 l2 c2 x2) (h3 : Sl w a3 l3 c3 x3) (h4 : Sl w a4 l4 c4 x4) (h5 : Sl w a5 l5 c5 x5) (h6 : Sl w a6 l6 c6 x6) (h7 : Sl w a7 l7 c7 x7) (r : Bool)
    (hr : (!(wrong ⟨n1, a1, l1, c1, x1⟩ || (wrong ⟨n2, a2, l2, c2, x2⟩ || (wrong ⟨n3, a3, l3, c3, x3⟩ || (wrong ⟨n4, a4, l4, c4, x4⟩ || (wrong ⟨n5, a5, l5, c5, x5⟩ || (wrong ⟨n6, a6, l6, c6, x6⟩ || wrong ⟨n7, a7, l7, c7, x7⟩))))))) = r) :
    Calls Tryz.prog 64 #[.slice (some ⟨g, 0, none⟩) 7 7] w (RetBool r w) := by
  have := right_any g [⟨n1, a1, l1, c1, x1⟩, ⟨n2, a2, l2, c2, x2⟩, ⟨n3, a3, l3, c3, x3⟩, ⟨n4, a4, l4, c4, x4⟩, ⟨n5, a5, l5, c5, x5⟩, ⟨n6, a6, l6, c6, x6⟩, ⟨n7, a7, l7, c7, x7⟩] w hg (by
    intro d hd
    simp only [List.mem_cons, List.not_mem_nil, or_false] at hd
    rcases hd with rfl | rfl | rfl | rfl | rfl | rfl | rfl
    · exact h1
    · exact h2
    · exact h3
    · exact h4
    · exact h5
    · exact h6
    · exact h7) (by simp)
  rw [show List.any [(⟨n1, a1, l1, c1, x1⟩ : Dat), ⟨n2, a2, l2, c2, x2⟩, ⟨n3, a3, l3, c3, x3⟩, ⟨n4, a4, l4, c4, x4⟩, ⟨n5, a5, l5, c5, x5⟩, ⟨n6, a6, l6, c6, x6⟩, ⟨n7, a7, l7, c7, x7⟩] wrong = (wrong ⟨n1, a1, l1, c1, x1⟩ || (wrong ⟨n2, a2, l2, c2, x2⟩ || (wrong ⟨n3, a3, l3, c3, x3⟩ || (wrong ⟨n4, a4, l4, c4, x4⟩ || (wrong ⟨n5, a5, l5, c5, x5⟩ || (wrong ⟨n6, a6, l6, c6, x6⟩ || wrong ⟨n7, a7, l7, c7, x7⟩)))))) by simp, hr] at this
  exact this

theorem cmp3_cases {x y v : Int} (h : cmp3 x y = v) : (v = -1 ∧ x < y) ∨ (v = 0 ∧ x = y) ∨ (v = 1 ∧ y < x) := by
  unfold cmp3 at h
  by_cases h1 : x < y
  · rw [if_pos h1] at h; exact .inl ⟨h.symm, h1⟩
  · rw [if_neg h1] at h
    by_cases h2 : x = y
    · rw [if_pos h2] at h; exact .inr (.inl ⟨h.symm, h2⟩)
    · rw [if_neg h2] at h; exact .inr (.inr ⟨h.symm, by omega⟩)
theorem cmp3_lt {x y : Int} (h : x < y) : cmp3 x y = -1 := if_pos h
theorem cmp3_gt {x y : Int} (h : y < x) : cmp3 x y = 1 := by unfold cmp3; rw [if_neg (by omega), if_neg (by omega)]
theorem pos_of {z v : Int} (h : cmp3 z 0 = v) (hq : decide (v ≤ 0) = false) : 0 < z := by
  have := of_decide_eq_false hq
  rcases cmp3_cases h with ⟨h1, h2⟩ | ⟨h1, h2⟩ | ⟨h1, h2⟩ <;> omega
theorem pos_sign {z v : Int} (h : cmp3 z 0 = v) (hq : 0 < v) : 0 < z := by
  rcases cmp3_cases h with ⟨h1, h2⟩ | ⟨h1, h2⟩ | ⟨h1, h2⟩ <;> omega
theorem frac_order {a b c d e f x y z v : Int} (pb : 0 < b) (pd : 0 < d) (pf : 0 < f) (hx : cmp3 (a * d) (c * b) = x) (hy : cmp3 (c * b) (a * d) = y) (hz : cmp3 (c * f) (e * d) = z) (hv : cmp3 (a * f) (e * b) = v) :
    (x = -1 ∨ x = 0 ∨ x = 1) ∧ y = -x ∧ (x ≤ 0 → z ≤ 0 → v ≤ 0) := by
  refine ⟨?_, ?_, fun h1 h2 => ?_⟩
  · rcases cmp3_cases hx with ⟨h1, _⟩ | ⟨h1, _⟩ | ⟨h1, _⟩ <;> simp [h1]
  · rcases cmp3_cases hx with ⟨h1, h2⟩ | ⟨h1, h2⟩ | ⟨h1, h2⟩ <;> rcases cmp3_cases hy with ⟨h3, h4⟩ | ⟨h3, h4⟩ | ⟨h3, h4⟩ <;> omega
  · have k1 : a * d ≤ c * b := by rcases cmp3_cases hx with ⟨h3, h4⟩ | ⟨h3, h4⟩ | ⟨h3, h4⟩ <;> omega
    have k2 : c * f ≤ e * d := by rcases cmp3_cases hz with ⟨h3, h4⟩ | ⟨h3, h4⟩ | ⟨h3, h4⟩ <;> omega
    have k3 : a * d * f ≤ c * b * f := Int.mul_le_mul_of_nonneg_right k1 (by omega)
    have k4 : c * f * b ≤ e * d * b := Int.mul_le_mul_of_nonneg_right k2 (by omega)
    have k5 : (a * f) * d ≤ (e * b) * d := by
      have e1 : a * d * f = (a * f) * d := by ac_rfl
      have e2 : c * b * f = c * f * b := by ac_rfl
      have e3 : e * d * b = (e * b) * d := by ac_rfl
      rw [e1, e2] at k3; rw [e3] at k4; omega
    have k6 : a * f ≤ e * b := Int.le_of_mul_le_mul_right k5 pd
    rcases cmp3_cases hv with ⟨h3, h4⟩ | ⟨h3, h4⟩ | ⟨h3, h4⟩ <;> omega
theorem frac_pos {a b k p q ep eq : Int} (pb : 0 < b) (hp : timesR (a, 0) (k, 0) = (p, ep)) (hq : timesR (b, 0) (k, 0) = (q, eq)) (h : ep = 0 ∧ eq = 0 ∧ 0 < k) : 0 < q := by
  have _ := hp
  obtain ⟨_, rfl, hk⟩ := h
  obtain ⟨_, _, rfl⟩ := timesR_zero hq
  exact Int.mul_pos pb hk
theorem cmp3_scale {x y k v : Int} (hk : 0 < k) (h : cmp3 x y = v) : cmp3 (x * k) (y * k) = v := by
  rcases cmp3_cases h with ⟨rfl, h2⟩ | ⟨rfl, h2⟩ | ⟨rfl, h2⟩
  · exact cmp3_lt (Int.mul_lt_mul_of_pos_right h2 hk)
  · rw [h2]; exact cmp3_self _
  · exact cmp3_gt (Int.mul_lt_mul_of_pos_right h2 hk)
theorem frac_more {a b c d k p q ep eq x : Int} (pb : 0 < b) (pd : 0 < d) (hp : timesR (a, 0) (k, 0) = (p, ep)) (hq : timesR (b, 0) (k, 0) = (q, eq)) (h : ep = 0 ∧ eq = 0 ∧ 0 < k) (hx : cmp3 (a * d) (c * b) = x) : cmp3 (p * d) (c * q) = x := by
  have _ := pb; have _ := pd
  obtain ⟨rfl, rfl, hk⟩ := h
  obtain ⟨_, _, rfl⟩ := timesR_zero hp
  obtain ⟨_, _, rfl⟩ := timesR_zero hq
  rw [show a * k * d = a * d * k by ac_rfl, show c * (b * k) = c * b * k by ac_rfl]
  exact cmp3_scale hk hx
theorem flq_pos (a : Int) {b : Int} (pb : 0 < b) : flq a b * b ≤ a ∧ a < (flq a b + 1) * b := by
  unfold flq; rw [if_pos pb]
  have h1 := Int.mul_ediv_add_emod a b
  have h2 := Int.emod_nonneg a (by omega : b ≠ 0)
  have h3 := Int.emod_lt_of_pos a pb
  have h4 : b * (a / b) = a / b * b := Int.mul_comm _ _
  rw [Int.add_mul]
  omega
theorem quo_num {a b : Int} {n : Bool} {xs : List Int} (ha : Num a n xs) (pb : 0 < b) : ∃ m ys, Num (flq a b) m ys := by
  refine ⟨_, _, lim_mono ?_ ha.1, rfl, rfl⟩
  obtain ⟨h1, h2⟩ := flq_pos a pb
  generalize flq a b = q at *
  rcases Int.lt_or_le q 0 with h | h
  · have h3 : (q + 1) * b ≤ q + 1 := by
      have : (q + 1) * b ≤ (q + 1) * 1 := Int.mul_le_mul_of_nonpos_left (by omega) (by omega)
      omega
    omega
  · have h3 : q ≤ q * b := by
      have : q * 1 ≤ q * b := Int.mul_le_mul_of_nonneg_left (by omega) h
      omega
    omega
theorem frac_quo {a b c d x m : Int} (pb : 0 < b) (pd : 0 < d) (hx : cmp3 (a * d) (c * b) = x) (hm : cmp3 (flq a b) (flq c d) = m) : m ≠ 0 → m = x := by
  intro h0
  obtain ⟨h1, h2⟩ := flq_pos a pb
  obtain ⟨h3, h4⟩ := flq_pos c pd
  generalize flq a b = q at *
  generalize flq c d = r at *
  have key : ∀ {a b c d q r : Int}, 0 < b → 0 < d → a < (q + 1) * b → r * d ≤ c → q < r → a * d < c * b := by
    intro a b c d q r pb pd h2 h3 h
    have k1 : a * d < (q + 1) * b * d := Int.mul_lt_mul_of_pos_right h2 pd
    have k2 : r * d * b ≤ c * b := Int.mul_le_mul_of_nonneg_right h3 (by omega)
    have k3 : (q + 1) * (b * d) ≤ r * (b * d) := Int.mul_le_mul_of_nonneg_right (by omega) (Int.le_of_lt (Int.mul_pos pb pd))
    have e1 : (q + 1) * b * d = (q + 1) * (b * d) := Int.mul_assoc _ _ _
    have e2 : r * d * b = r * (b * d) := by ac_rfl
    rw [e1] at k1; rw [e2] at k2
    omega
  rcases cmp3_cases hm with ⟨rfl, h⟩ | ⟨rfl, h⟩ | ⟨rfl, h⟩
  · rw [← hx]; exact (cmp3_lt (key pb pd h2 h3 h)).symm
  · exact absurd rfl h0
  · rw [← hx]; exact (cmp3_gt (key pd pb h4 h1 h)).symm
end Go.Proofs.YtfjnplhhgdfepaaGreatDoor

/- What NumRing leans on of integers and of the laws' helpers. -/
namespace Go.Proofs.YtfjnplhhgdfepaaGreatDoor
open Go.RowKit

theorem sumR_comm {x y v e : Int} (h : sumR (x, 0) (y, 0) = (v, e)) : sumR (y, 0) (x, 0) = (v, e) := by
  unfold sumR at *; rw [if_pos ⟨rfl, rfl⟩] at *; rw [← h]; simp only [Int.add_comm]
theorem timesR_comm {x y v e : Int} (h : timesR (x, 0) (y, 0) = (v, e)) : timesR (y, 0) (x, 0) = (v, e) := by
  unfold timesR at *; rw [if_pos ⟨rfl, rfl⟩] at *; rw [← h]; simp only [Int.mul_comm]
theorem sum_assoc {a b c v1 e1 v3 e3 v4 e4 v5 e5 : Int} (h1 : sumR (a, 0) (b, 0) = (v1, e1)) (h3 : sumR (v1, e1) (c, 0) = (v3, e3)) (h4 : sumR (b, 0) (c, 0) = (v4, e4)) (h5 : sumR (a, 0) (v4, e4) = (v5, e5)) : e3 ≠ 0 ∨ e5 ≠ 0 ∨ v3 = v5 := by
  by_cases k3 : e3 = 0
  · by_cases k5 : e5 = 0
    · subst k3; subst k5
      obtain ⟨rfl, _, rfl⟩ := sumR_zero h3
      obtain ⟨_, rfl, rfl⟩ := sumR_zero h5
      obtain ⟨_, _, rfl⟩ := sumR_zero h1
      obtain ⟨_, _, rfl⟩ := sumR_zero h4
      exact .inr (.inr (Int.add_assoc _ _ _))
    · exact .inr (.inl k5)
  · exact .inl k3
theorem times_assoc {a b c v1 e1 v3 e3 v4 e4 v5 e5 : Int} (h1 : timesR (a, 0) (b, 0) = (v1, e1)) (h3 : timesR (v1, e1) (c, 0) = (v3, e3)) (h4 : timesR (b, 0) (c, 0) = (v4, e4)) (h5 : timesR (a, 0) (v4, e4) = (v5, e5)) : e3 ≠ 0 ∨ e5 ≠ 0 ∨ v3 = v5 := by
  by_cases k3 : e3 = 0
  · by_cases k5 : e5 = 0
    · subst k3; subst k5
      obtain ⟨rfl, _, rfl⟩ := timesR_zero h3
      obtain ⟨_, rfl, rfl⟩ := timesR_zero h5
      obtain ⟨_, _, rfl⟩ := timesR_zero h1
      obtain ⟨_, _, rfl⟩ := timesR_zero h4
      exact .inr (.inr (Int.mul_assoc _ _ _))
    · exact .inr (.inl k5)
  · exact .inl k3
theorem times_sum {a b c v4 e4 v9 e9 v2 e2 v10 e10 v11 e11 : Int} (h4 : sumR (b, 0) (c, 0) = (v4, e4)) (h9 : timesR (a, 0) (v4, e4) = (v9, e9)) (h2 : timesR (a, 0) (b, 0) = (v2, e2)) (h10 : timesR (a, 0) (c, 0) = (v10, e10)) (h11 : sumR (v2, e2) (v10, e10) = (v11, e11)) : e9 ≠ 0 ∨ e11 ≠ 0 ∨ v9 = v11 := by
  by_cases k3 : e9 = 0
  · by_cases k5 : e11 = 0
    · subst k3; subst k5
      obtain ⟨_, rfl, rfl⟩ := timesR_zero h9
      obtain ⟨_, _, rfl⟩ := sumR_zero h4
      obtain ⟨rfl, rfl, rfl⟩ := sumR_zero h11
      obtain ⟨_, _, rfl⟩ := timesR_zero h2
      obtain ⟨_, _, rfl⟩ := timesR_zero h10
      exact .inr (.inr (Int.mul_add _ _ _))
    · exact .inr (.inl k5)
  · exact .inl k3
theorem sumR_nil {a : Int} {n : Bool} {xs : List Int} (h : Num a n xs) : sumR (a, 0) (0, 0) = (a, 0) := by
  unfold sumR; rw [if_pos ⟨rfl, rfl⟩]; simp only [Int.add_zero]; exact fitR_ok h.1
theorem timesR_one {a : Int} {n : Bool} {xs : List Int} (h : Num a n xs) : timesR (a, 0) (1, 0) = (a, 0) := by
  unfold timesR; rw [if_pos ⟨rfl, rfl⟩]; simp only [Int.mul_one]; exact fitR_ok h.1
theorem timesR_nil (a : Int) : timesR (a, 0) (0, 0) = (0, 0) := by
  unfold timesR; rw [if_pos ⟨rfl, rfl⟩]; simp only [Int.mul_zero]; exact fitR_ok Lim.zero
theorem sumR_neg (a : Int) : sumR (a, 0) (-a, 0) = (0, 0) := by
  unfold sumR; rw [if_pos ⟨rfl, rfl⟩]; simp only [Int.add_right_neg]; exact fitR_ok Lim.zero
theorem sum_sub {a b v e : Int} (h : sumR (a, 0) (b, 0) = (v, e)) (he : e = 0) : v - b = a := by
  subst he
  obtain ⟨_, _, rfl⟩ := sumR_zero h
  omega
theorem neg_num {a : Int} {n : Bool} {xs : List Int} (h : Num a n xs) : ∃ m ys, Num (-a) m ys :=
  ⟨_, _, lim_mono (by omega) h.1, rfl, rfl⟩
theorem negQ {a : Int} {n m : Bool} {xs ys : List Int} (h : Num a n xs) (hm : Num (-a) m ys) (ao : Option Addr) (len cap : Nat) (w : World) (hs : Sl w ao len cap xs) :
    Calls Tryz.prog 42 #[.agg #[.bool n, .slice ao len cap]] w (RetPE m ys 0 w) := by
  obtain ⟨h1, rfl, rfl⟩ := h
  obtain ⟨_, rfl, rfl⟩ := hm
  exact Neg_ok a h1 ao len cap w hs
theorem subQ {x y z : Int} {n1 n2 n3 : Bool} {xs ys zs : List Int} (hx : Num x n1 xs) (hy : Num y n2 ys) (hz : Num z n3 zs) (he : x - y = z) (ax : Option Addr) (la ca : Nat) (ay : Option Addr) (lb cb : Nat) (w : World) (sx : Sl w ax la ca xs) (sy : Sl w ay lb cb ys) :
    Calls Tryz.prog 46 #[.agg #[.bool n1, .slice ax la ca], .agg #[.bool n2, .slice ay lb cb]] w (RetPE n3 zs 0 w) := by
  obtain ⟨h1, rfl, rfl⟩ := hx
  obtain ⟨h2, rfl, rfl⟩ := hy
  obtain ⟨h3, rfl, rfl⟩ := hz
  subst he
  exact (Sub_ok x y h1 h2 ax la ca ay lb cb w sx sy).mono fun _ _ h => h.1 h3
theorem lawValP {n : Bool} {ao : Option Addr} {len cap : Nat} {xs : List Int} {w : World} (hs : Sl w ao len cap xs) :
    Calls Tryz.prog 65 #[.agg #[.bool n, .slice ao len cap]] w (RetQ n xs 0 w) :=
  (lawVal_any n ao len cap w).mono fun _ _ h => ⟨ao, len, cap, h.1, hs.below h.2, h.2⟩
theorem lawGotP {n : Bool} {ao : Option Addr} {len cap : Nat} {xs : List Int} {er : Int} {w : World} (hs : Sl w ao len cap xs) :
    Calls Tryz.prog 28 #[.agg #[.bool n, .slice ao len cap], .int .i64 er] w (RetQ n xs er w) :=
  (got_any n ao len cap er w).mono fun _ _ h => ⟨ao, len, cap, h.1, hs.below h.2, h.2⟩
theorem quo_num' {a b : Int} {n : Bool} {xs : List Int} (ha : Num a n xs) (hb : b ≠ 0) : ∃ m ys, Num (flq a b) m ys := by
  rcases Int.lt_or_gt_of_ne hb with h | h
  · have e : flq a b = flq (-a) (-b) := by
      unfold flq; rw [if_neg (by omega), if_pos (by omega)]
    obtain ⟨m', ys', hn⟩ := neg_num ha
    rw [e]; exact quo_num hn (by omega)
  · exact quo_num ha h
theorem rem_num {a b : Int} {n : Bool} {xs : List Int} (hb' : Num b n xs) (hb : b ≠ 0) : ∃ m ys, Num (flr a b) m ys := by
  refine ⟨_, _, lim_mono ?_ hb'.1, rfl, rfl⟩
  obtain ⟨_, h2, h3⟩ := fl_spec a b hb
  rcases Int.lt_or_gt_of_ne hb with h | h
  · have := h3 h; omega
  · have := h2 h; omega
theorem rem_small (a : Int) {b : Int} (hb : b ≠ 0) : decide ((flr a b).natAbs < b.natAbs) = true := by
  obtain ⟨_, h2, h3⟩ := fl_spec a b hb
  refine decide_eq_true ?_
  rcases Int.lt_or_gt_of_ne hb with h | h
  · have := h3 h; omega
  · have := h2 h; omega
theorem rem_sign {a b : Int} {n m : Bool} {xs ys : List Int} (hb : b ≠ 0) (hr : Num (flr a b) n xs) (hn : Num b m ys) (h0 : flr a b ≠ 0) : (n == m) = true := by
  obtain ⟨_, rfl, _⟩ := hr
  obtain ⟨_, rfl, _⟩ := hn
  obtain ⟨_, h2, h3⟩ := fl_spec a b hb
  rw [beq_iff_eq, decide_eq_decide]
  rcases Int.lt_or_gt_of_ne hb with h | h
  · have := h3 h; omega
  · have := h2 h; omega
theorem div_back {a b v e v' e' : Int} (h1 : timesR (flq a b, 0) (b, 0) = (v, e)) (h2 : sumR (v, e) (flr a b, 0) = (v', e')) : e' ≠ 0 ∨ (0 : Int) ≠ 0 ∨ v' = a := by
  by_cases k : e' = 0
  · subst k
    obtain ⟨rfl, _, rfl⟩ := sumR_zero h2
    obtain ⟨_, _, rfl⟩ := timesR_zero h1
    right; right
    unfold flr
    rw [Int.mul_comm (flq a b) b]; omega
  · exact .inl k
theorem mod0P {x y : Int} {n1 n2 : Bool} {xs ys : List Int} (hx : Num x n1 xs) (hy : Num y n2 ys) (h0 : y = 0) (ax : Option Addr) (la ca : Nat) (ay : Option Addr) (lb cb : Nat) (w : World) (sx : Sl w ax la ca xs) (sy : Sl w ay lb cb ys) :
    Calls Tryz.prog 52 #[.agg #[.bool n1, .slice ax la ca], .agg #[.bool n2, .slice ay lb cb]] w (RetPE false [] 11 w) := by
  obtain ⟨h1, rfl, rfl⟩ := hx
  obtain ⟨h2, rfl, rfl⟩ := hy
  refine (Mod_zero x y h1 h2 h0 ax la ca ay lb cb w sx sy).mono ?_
  rintro e w' ⟨ao, len, cap, rfl, hs, hb⟩
  exact ⟨ao, len, cap, rfl, by rw [show (0 : Int).natAbs = 0 from rfl, parts_zero] at hs; exact hs, hb⟩
end Go.Proofs.YtfjnplhhgdfepaaGreatDoor

/- A region that draws its order, by one relation that each operation keeps, whatever came up before it: a goal an operation, in the place of one for each order. -/
namespace Go.Proofs.YtfjnplhhgdfepaaGreatDoor
open Go Go.RowKit

/-- The frame with the slots ds filled by us. -/
def fillA (a : Act) : List (Option Tmp) → List Value → Act
  | d :: ds, v :: vs => fillA (a.put d v) ds vs
  | _, _ => a
theorem put_twice (a : Act) (d : Option Tmp) (u v : Value) : (a.put d u).put d v = a.put d v := by
  cases d with
  | none => rfl
  | some t => simp [Act.put]
theorem fillA_put : ∀ (ds : List (Option Tmp)) (us : List Value) (a : Act) (d : Option Tmp) (v : Value), (∀ t, d = some t → some t ∉ ds) → fillA (a.put d v) ds us = (fillA a ds us).put d v
  | [], _, _, _, _, _ => rfl
  | _ :: _, [], _, _, _, _ => rfl
  | d' :: ds, u :: us, a, d, v, h => by
    show fillA ((a.put d v).put d' u) ds us = (fillA (a.put d' u) ds us).put d v
    rw [← fillA_put ds us (a.put d' u) d v (fun t ht hm => h t ht (List.mem_cons_of_mem _ hm)), Act.put_comm a v u (fun t ht hd => h t ht (by rw [hd]; exact List.mem_cons_self))]
/-- No slot is written by two operations. -/
def ApartD : List (Option Tmp) → Bool
  | [] => true
  | none :: ds => ApartD ds
  | some t :: ds => !(ds.contains (some t)) && ApartD ds
theorem fillA_set : ∀ (ds : List (Option Tmp)) (us : List Value) (a : Act) (i : Nat) (d : Option Tmp) (v : Value), ApartD ds = true → ds[i]? = some d → i < us.length → (fillA a ds us).put d v = fillA a ds (us.set i v)
  | [], _, _, _, _, _, _, h, _ => by simp at h
  | _ :: _, [], _, _, _, _, _, _, h => by simp at h
  | d' :: ds, u :: us, a, 0, d, v, hA, h, _ => by
    simp only [List.length_cons, Nat.zero_lt_succ, getElem?_pos, List.getElem_cons_zero, Option.some.injEq] at h
    subst h
    have hn : ∀ t, d' = some t → some t ∉ ds := by
      intro t ht hm
      subst ht
      simp [ApartD, hm] at hA
    show (fillA (a.put d' u) ds us).put d' v = fillA (a.put d' v) ds us
    rw [← fillA_put ds us _ d' v hn, put_twice]
  | d' :: ds, u :: us, a, i + 1, d, v, hA, h, hl => by
    have hA' : ApartD ds = true := by
      cases d' with
      | none => exact hA
      | some t => simp [ApartD] at hA; exact hA.2
    exact fillA_set ds us (a.put d' u) i d v hA' (by simpa using h) (by simpa using hl)
/-- What the slots ds hold. -/
def heldIn (a : Act) (ds : List (Option Tmp)) : List Value := ds.map fun d => match d with | some t => a.tmps.getD t undef | none => undef
theorem put_held (a : Act) (d : Option Tmp) : a.put d (match d with | some t => a.tmps.getD t undef | none => undef) = a := by
  cases d with
  | none => rfl
  | some t =>
    show ({ a with tmps := a.tmps.setIfInBounds t (a.tmps.getD t undef) } : Act) = a
    have : a.tmps.setIfInBounds t (a.tmps.getD t undef) = a.tmps := by
      apply Array.ext (by simp)
      intro j h1 h2
      rw [Array.getElem_setIfInBounds]
      split
      · rename_i h; subst h; simp [Array.getD, h2]
      · rfl
    rw [this]
theorem fillA_held : ∀ (ds : List (Option Tmp)) (a : Act), fillA a ds (heldIn a ds) = a
  | [], _ => rfl
  | d :: ds, a => by
    show fillA (a.put d _) ds (heldIn a ds) = a
    rw [put_held]; exact fillA_held ds a

/-- What an operation waits for has come up. -/
def Met (L : Nat → Bool) : List Edge → Prop
  | [] => True
  | e :: r => (Region.binds .any e = true → L e.on = true) ∧ Met L r
theorem Met.of {L : Nat → Bool} : ∀ {l : List Edge}, (∀ e ∈ l, Region.binds .any e = true → L e.on = true) → Met L l
  | [], _ => trivial
  | _ :: _, h => ⟨h _ List.mem_cons_self, Met.of fun e he => h e (List.mem_cons_of_mem _ he)⟩
def hasE (j : Nat) : List Edge → Bool
  | [] => false
  | e :: r => (Region.binds .any e && e.on == j) || hasE j r
theorem Met.get {L : Nat → Bool} {j : Nat} : ∀ {l : List Edge}, Met L l → hasE j l = true → L j = true
  | [], _, h => by cases h
  | e :: r, hm, h => by
    simp only [hasE, Bool.or_eq_true, Bool.and_eq_true, beq_iff_eq] at h
    rcases h with ⟨h1, h2⟩ | h
    · rw [← h2]; exact hm.1 h1
    · exact hm.2.get h
theorem getD_r {l : Array Value} {i : Nat} {u v : Value} (h : l.getD i u = v) : l[i]?.getD u = v := by rw [← Array.getD_eq_getD_getElem?]; exact h
/-- i has come up too. -/
def more (L : Nat → Bool) (i j : Nat) : Bool := if j = i then true else L j
/-- Operation i has yielded v. -/
def upd (U : Nat → Value) (i : Nat) (v : Value) (j : Nat) : Value := if j = i then v else U j
theorem map_upd (U : Nat → Value) (n i : Nat) (v : Value) : ((List.range n).map U).set i v = (List.range n).map (upd U i v) := by
  apply List.ext_getElem (by simp)
  intro j h1 h2
  simp only [List.getElem_set, List.getElem_map, List.getElem_range, upd]
  by_cases h : i = j
  · rw [if_pos h, if_pos h.symm]
  · rw [if_neg h, if_neg (Ne.symm h)]
theorem fillA_size : ∀ (ds : List (Option Tmp)) (us : List Value) (a : Act), (fillA a ds us).tmps.size = a.tmps.size
  | [], _, _ => rfl
  | _ :: _, [], _ => rfl
  | d :: ds, u :: us, a => by
    show (fillA (a.put d u) ds us).tmps.size = _
    rw [fillA_size ds us]
    cases d with
    | none => rfl
    | some t => simp [Act.put]
theorem fillA_other : ∀ (ds : List (Option Tmp)) (us : List Value) (a : Act) (t : Tmp), ds.contains (some t) = false → (fillA a ds us).tmps.getD t undef = a.tmps.getD t undef
  | [], _, _, _, _ => rfl
  | _ :: _, [], _, _, _ => rfl
  | d :: ds, u :: us, a, t, h => by
    simp only [List.contains_cons, Bool.or_eq_false_iff] at h
    show (fillA (a.put d u) ds us).tmps.getD t undef = _
    rw [fillA_other ds us _ t h.2]
    cases d with
    | none => rfl
    | some s =>
      have hs : s ≠ t := by
        intro hh; subst hh; simp at h
      simp only [Act.put, Array.getD_eq_getD_getElem?]
      rw [Array.getElem?_setIfInBounds_ne hs]
theorem fillA_get : ∀ (ds : List (Option Tmp)) (us : List Value) (a : Act) (j : Nat) (t : Tmp) (v : Value), ApartD ds = true → ds[j]? = some (some t) → us[j]? = some v → t < a.tmps.size → (fillA a ds us).tmps.getD t undef = v
  | [], _, _, _, _, _, _, h, _, _ => by simp at h
  | _ :: _, [], _, _, _, _, _, _, h, _ => by simp at h
  | d :: ds, u :: us, a, 0, t, v, hA, h, hu, hlt => by
    simp at h hu
    subst h; subst hu
    have hn : ds.contains (some t) = false := by
      simp [ApartD] at hA; simp; exact hA.1
    show (fillA (a.put (some t) u) ds us).tmps.getD t undef = u
    rw [fillA_other ds us _ t hn]
    simp [Act.put, hlt]
  | d :: ds, u :: us, a, j + 1, t, v, hA, h, hu, hlt => by
    have hA' : ApartD ds = true := by
      cases d with
      | none => exact hA
      | some t => simp [ApartD] at hA; exact hA.2
    refine fillA_get ds us (a.put d u) j t v hA' (by simpa using h) (by simpa using hu) ?_
    cases d with
    | none => exact hlt
    | some t => simpa [Act.put] using hlt
/-- Each slot of ds is one of the frame's. -/
def SizedD (m : Nat) (ds : List (Option Tmp)) : Bool := ds.all fun d => match d with | some t => decide (t < m) | none => true
/-- f of each operation and its number. -/
def EachO (f : Nat → Oper → Prop) : Nat → List Oper → Prop
  | _, [] => True
  | k, o :: r => f k o ∧ EachO f (k + 1) r
theorem EachO.get {f : Nat → Oper → Prop} : ∀ {l : List Oper} {k : Nat}, EachO f k l → ∀ {i : Nat} {o : Oper}, l[i]? = some o → f (k + i) o
  | [], _, _, _, _, h => by simp at h
  | o' :: r, k, hE, 0, o, h => by
    simp at h; subst h; exact hE.1
  | o' :: r, k, hE, i + 1, o, h => by
    have := hE.2.get (i := i) (o := o) (by simpa using h)
    rwa [show k + 1 + i = k + (i + 1) by omega] at this
/-- Each operation waits for earlier ones alone. -/
def BackB (ops : Array Oper) : Bool := (List.range ops.size).all fun i => ((ops[i]?).map fun o => o.after.all fun e => !Region.binds .any e || decide (e.on < i)).getD true

section
variable {P : Program} {ops : Array Oper} {Q : Exit → Act → World → Prop}

theorem all_met {l : Array Bool} (hb : BackB ops = true) (hsz : l.size = ops.size) (hr : Region.ready .any ops l = []) : ∀ (n i : Nat), i ≤ n → i < ops.size → l.getD i false = true := by
  intro n
  induction n with
  | zero =>
    intro i hi hlt
    obtain rfl : i = 0 := by omega
    cases hc : l.getD 0 false with
    | true => rfl
    | false =>
      have hm : 0 ∈ Region.ready .any ops l := by
        rw [mem_ready]
        refine ⟨?_, ops[0], by simp [hlt], fun e he hbd => ?_⟩
        · have h0 : 0 < l.size := by omega
          simp only [Array.getD, h0, dif_pos] at hc ⊢; exact hc
        · have h1 := List.all_eq_true.1 hb 0 (List.mem_range.2 hlt)
          rw [show ops[0]? = some ops[0] by simp [hlt]] at h1
          simp only [Option.map_some, Option.getD_some] at h1
          have h2 := Array.all_eq_true'.1 h1 e he
          rw [hbd] at h2
          simp at h2
      rw [hr] at hm; cases hm
  | succ n ih =>
    intro i hi hlt
    rcases Nat.lt_or_ge i (n + 1) with h | h
    · exact ih i (by omega) hlt
    obtain rfl : i = n + 1 := by omega
    cases hc : l.getD (n + 1) false with
    | true => rfl
    | false =>
      have hm : n + 1 ∈ Region.ready .any ops l := by
        rw [mem_ready]
        refine ⟨?_, ops[n + 1], by simp [hlt], fun e he hbd => ?_⟩
        · have h0 : n + 1 < l.size := by omega
          simp only [Array.getD, h0, dif_pos] at hc ⊢; exact hc
        · have h1 := List.all_eq_true.1 hb (n + 1) (List.mem_range.2 hlt)
          rw [show ops[n + 1]? = some ops[n + 1] by simp [hlt]] at h1
          simp only [Option.map_some, Option.getD_some] at h1
          have h2 := Array.all_eq_true'.1 h1 e he
          rw [hbd] at h2
          simp only [Bool.not_true, Bool.false_or, decide_eq_true_eq] at h2
          exact ih e.on (by omega) (by omega)
      rw [hr] at hm; cases hm

theorem keep_any {I : Array Bool → Act → World → Prop} (hb : BackB ops = true)
    (hs : ∀ i l a w, l.size = ops.size → I l a w → i ∈ Region.ready .any ops l → wpOp P ops Q i (I (l.setIfInBounds i true)) a w)
    (he : ∀ l a w, l.size = ops.size → I l a w → (∀ i, i < ops.size → l.getD i false = true) → Q .normal a w) :
    ∀ (k : Nat) (l : Array Bool) (a : Act) (w : World), l.size = ops.size → l.toList.count false ≤ k → I l a w → wpAny P .any ops Q k l a w
  | 0, l, a, w, hz, hk, h => by
    have hr : Region.ready .any ops l = [] := by
      rcases hh : Region.ready .any ops l with _ | ⟨i, r⟩
      · rfl
      · exfalso
        have hi : i ∈ Region.ready .any ops l := by rw [hh]; exact List.mem_cons_self
        have h1 := (mem_ready.1 hi).1
        have h2 : i < l.size := by
          rcases Nat.lt_or_ge i l.size with h' | h'
          · exact h'
          · simp [Array.getElem?_eq_none h'] at h1
        have h3 : false ∈ l.toList := by
          have : l[i] = false := by simpa [Array.getD, h2] using h1
          rw [← this]; simp
        have := List.count_pos_iff.2 h3
        omega
    exact ⟨hr, he l a w hz h fun i hi => all_met hb hz hr i i (Nat.le_refl _) hi⟩
  | k + 1, l, a, w, hz, hk, h => by
    refine ⟨fun hr => he l a w hz h fun i hi => all_met hb hz hr i i (Nat.le_refl _) hi, fun i hi => ?_⟩
    have h1 := (mem_ready.1 hi).1
    have h2 : i < l.size := by
      rcases Nat.lt_or_ge i l.size with h' | h'
      · exact h'
      · simp [Array.getElem?_eq_none h'] at h1
    have h3 : l[i] = false := by simpa [Array.getD, h2] using h1
    have h4 : (l.setIfInBounds i true).toList.count false ≤ k := by
      have h5 : (l.setIfInBounds i true).toList = l.toList.set i true := by simp
      rw [h5, List.count_set (by simpa using h2), if_pos (by simp [h3]), if_neg (by decide)]
      omega
    exact wpOp_mono (fun a' w' h' => keep_any hb hs he k _ a' w' (by simp [hz]) h4 h') (hs i l a w hz h hi)

/-- A region that draws its order: F (which operations have come up, what each has yielded, the world) is kept by each of them, whatever the frame, if it holds what they have yielded. -/
theorem region_kept {id : Nat} {a : Act} {w : World} (n : Nat) (ds : List (Option Tmp)) (vs : (Nat → Value) → List Value) (F : (Nat → Bool) → (Nat → Value) → World → Prop) (hn : ops.size = n) (hds : ops.toList.map (·.dst) = ds) (hvs : ∀ U, vs U = (List.range n).map U) (hm : P.follows .mixedOrders = true)
    (hb : BackB ops = true) (hap : ApartD ds = true) (hsz : SizedD a.tmps.size ds = true)
    (start : ∀ U, F (fun _ => false) U w.drew)
    (step : EachO (fun i o => ∀ (L : Nat → Bool) (U : Nat → Value) (w : World) (b : Act), F L U w → L i = false → Met L o.after.toList →
      (∀ (j : Nat) (t : Tmp), ds[j]? = some (some t) → b.tmps.getD t undef = U j) → (∀ t : Tmp, ds.contains (some t) = false → b.tmps.getD t undef = a.tmps.getD t undef) →
      ∀ K : Act → World → Prop, Shut (∀ v w', F (more L i) (upd U i v) w' → K (b.put o.dst v) w') →
        if Region.wanted o (yielded ops b.tmps) = true then Oper.wp P o b w K Q else K (b.put o.dst undef) w) 0 ops.toList)
    (fin : ∀ (L : Nat → Bool) (U : Nat → Value) (w : World), F L U w → (∀ i, i < n → L i = true) → Q .normal (fillA a ds (vs U)) w) :
    (Code.region id ops true).wp P Q a w := by
  subst hn; subst hds
  refine wp_region_any hm ?_
  refine keep_any (I := fun l b w => ∃ U : Nat → Value, b = fillA a (ops.toList.map (·.dst)) ((List.range ops.size).map U) ∧ F (fun i => l.getD i false) U w) hb ?_ ?_ _ _ _ _ (by simp) ?_ ?_
  · rintro i l b w hz ⟨U, rfl, hF⟩ hi
    obtain ⟨h1, o, ho, hmet⟩ := mem_ready.1 hi
    have h2 : i < l.size := by
      rcases Nat.lt_or_ge i l.size with h' | h'
      · exact h'
      · simp [Array.getElem?_eq_none h'] at h1
    have h3 : l.getD i false = false := by
      simp only [Array.getD, h2, dif_pos] at h1 ⊢; exact h1
    have hst := step.get (i := i) (o := o) (by simpa using ho)
    rw [Nat.zero_add] at hst
    refine wpOp_step ho fun K' hK => hst _ U w _ hF h3 (Met.of fun e he hbd => hmet e (by simpa using he) hbd) (fun j t hj => ?_) (fun t ht => fillA_other _ _ a t ht) K' ?_
    · have hlt : t < a.tmps.size := by
        have := List.all_eq_true.1 hsz (some t) (List.mem_of_getElem? hj)
        simpa using this
      have hj' : j < ops.size := by
        have h := (List.getElem?_eq_some_iff.1 hj).1
        simpa using h
      exact fillA_get _ _ a j t (U j) hap hj (by simp [hj']) hlt
    intro v w' hF'
    refine hK _ _ ⟨upd U i v, ?_, ?_⟩
    · rw [← map_upd]
      exact fillA_set _ _ a i o.dst v hap (by simp [ho]) (by simp; omega)
    · have hL : (fun j => (l.setIfInBounds i true).getD j false) = more (fun j => l.getD j false) i := by
        funext j
        unfold more
        by_cases hj : j = i
        · subst hj; simp [h2]
        · rw [_root_.Go.getD_set_ne false (Ne.symm hj), if_neg hj]
      rw [hL]; exact hF'
  · rintro l b w hz ⟨U, rfl, hF⟩ hall
    have := fin _ U w hF hall
    rwa [hvs] at this
  · simp
  · refine ⟨fun j => (heldIn a (ops.toList.map (·.dst))).getD j undef, ?_, ?_⟩
    · have e : (List.range ops.size).map (fun j => (heldIn a (ops.toList.map (·.dst))).getD j undef) = heldIn a (ops.toList.map (·.dst)) := by
        apply List.ext_getElem (by simp [heldIn])
        intro j h1 h2
        simp [h2]
      rw [e]; exact (fillA_held _ _).symm
    · have : (fun i => (Array.replicate ops.size false).getD i false) = fun _ => false := by
        funext i
        rcases Nat.lt_or_ge i ops.size with h | h
        · simp [h]
        · simp [h]
      rw [this]; exact start _
end
end Go.Proofs.YtfjnplhhgdfepaaGreatDoor

/- What a drawn region makes: pairs of a number and an error, boxes of such pairs; what a store into a box that is new leaves as it was. -/
namespace Go.Proofs.YtfjnplhhgdfepaaGreatDoor
open Go.RowKit

/-- u is the pair of a sign, parts and an error. -/
def HasP (w : World) (u : Value) (n : Bool) (xs : List Int) (e : Int) : Prop := ∃ ap lp cp, u = .agg #[.bool n, .slice ap lp cp, .int .i64 e] ∧ Sl w ap lp cp xs
theorem HasP.below {w w' : World} {u : Value} {n : Bool} {xs : List Int} {e : Int} (h : HasP w u n xs e) (hb : Below w.heap.size w w') : HasP w' u n xs e := by
  obtain ⟨a, l, c, h1, h2⟩ := h
  exact ⟨a, l, c, h1, h2.below hb⟩
/-- u points to a box, at B or above, that holds the zero pair till the pair is stored into it. -/
def PBox (B : Nat) (w : World) (u : Value) (st : Bool) (n : Bool) (xs : List Int) (e : Int) : Prop :=
  ∃ g, u = .pointer (some ⟨g, 0, none⟩) ∧ B ≤ g ∧ g < w.heap.size ∧ (st = false → Zr w g) ∧ (st = true → ∃ a l c, Box3 w g n a l c e ∧ Sl w a l c xs)
theorem PBox.below {B : Nat} {w w' : World} {u : Value} {st n : Bool} {xs : List Int} {e : Int} (h : PBox B w u st n xs e) (hb : Below w.heap.size w w') : PBox B w' u st n xs e := by
  obtain ⟨g, h1, h2, h3, h4, h5⟩ := h
  refine ⟨g, h1, h2, Nat.lt_of_lt_of_le h3 hb.size, fun h => (h4 h).below hb, fun h => ?_⟩
  obtain ⟨a, l, c, h6, h7⟩ := h5 h
  exact ⟨a, l, c, h6.below hb, h7.below hb⟩
theorem PBox.new {B : Nat} {w : World} {n : Bool} {xs : List Int} {e : Int} {st : Bool} (hB : B ≤ w.heap.size) (hst : st = false) : PBox B (w.alloc (.cells #[.bool false, .slice none 0 0, .int .i64 0] 38)) (.pointer (some ⟨w.heap.size, 0, none⟩)) st n xs e := by
  subst hst
  exact ⟨w.heap.size, rfl, hB, by simp, fun _ => heap_new w _, (fun h => by cases h)⟩
theorem PBox.fresh {B : Nat} {w : World} {u : Value} {st n : Bool} {xs : List Int} {e : Int} (h : PBox B w u st n xs e) : u ≠ .pointer (some ⟨w.heap.size, 0, none⟩) := by
  obtain ⟨g, rfl, _, h3, _⟩ := h
  intro hh
  injection hh with hh
  injection hh with hh
  injection hh with hh
  omega
theorem HasP.set {w : World} {u : Value} {n : Bool} {xs : List Int} {e : Int} (h : HasP w u n xs e) (hl : xs.getLast? ≠ some 0) {g : Nat} (z : Zr w g) (n' : Bool) (a' : Option Addr) (l' c' : Nat) (e' : Int) :
    HasP (((w.setCell ⟨g, 0, none⟩ (.bool n')).setCell ⟨g, 1, none⟩ (.slice a' l' c')).setCell ⟨g, 2, none⟩ (.int .i64 e')) u n xs e := by
  obtain ⟨a, l, c, h1, h2⟩ := h
  exact ⟨a, l, c, h1, h2.pair hl z _ _ _ _ _⟩
theorem PBox.other {B : Nat} {w : World} {u : Value} {st n : Bool} {xs : List Int} {e : Int} (h : PBox B w u st n xs e) (hl : xs.getLast? ≠ some 0) {g : Nat} (z : Zr w g) (hne : u ≠ .pointer (some ⟨g, 0, none⟩)) (n' : Bool) (a' : Option Addr) (l' c' : Nat) (e' : Int) :
    PBox B (((w.setCell ⟨g, 0, none⟩ (.bool n')).setCell ⟨g, 1, none⟩ (.slice a' l' c')).setCell ⟨g, 2, none⟩ (.int .i64 e')) u st n xs e := by
  obtain ⟨k, rfl, h2, h3, h4, h5⟩ := h
  have hk : k ≠ g := fun h => hne (by rw [h])
  have hh := heap_set3 (w := w) hk (.bool n') (.slice a' l' c') (.int .i64 e')
  refine ⟨k, rfl, h2, by simpa using h3, fun h => hh.trans (h4 h), fun h => ?_⟩
  obtain ⟨a, l, c, h6, h7⟩ := h5 h
  exact ⟨a, l, c, hh.trans h6, h7.pair hl z _ _ _ _ _⟩
theorem PBox.self {B : Nat} {w : World} {n : Bool} {xs : List Int} {e : Int} {g : Nat} (z : Zr w g) (hB : B ≤ g) {a : Option Addr} {l c : Nat} (s : Sl w a l c xs) (hl : xs.getLast? ≠ some 0) :
    PBox B (((w.setCell ⟨g, 0, none⟩ (.bool n)).setCell ⟨g, 1, none⟩ (.slice a l c)).setCell ⟨g, 2, none⟩ (.int .i64 e)) (.pointer (some ⟨g, 0, none⟩)) true n xs e :=
  ⟨g, rfl, hB, by simpa using Box3.lt z, (fun h => by cases h), fun _ => ⟨a, l, c, Box3.set z, s.pair hl z _ _ _ _ _⟩⟩
theorem PBox.selfOf {B : Nat} {w : World} {n : Bool} {xs : List Int} {e : Int} {g : Nat} {u : Value} (hu : u = .pointer (some ⟨g, 0, none⟩)) (z : Zr w g) (hB : B ≤ g) {a : Option Addr} {l c : Nat} (s : Sl w a l c xs) (hl : xs.getLast? ≠ some 0) :
    PBox B (((w.setCell ⟨g, 0, none⟩ (.bool n)).setCell ⟨g, 1, none⟩ (.slice a l c)).setCell ⟨g, 2, none⟩ (.int .i64 e)) u true n xs e := by
  subst hu; exact PBox.self z hB s hl
/-- u is the integer of a sign and parts; the same with an error, as two results. -/
def HasI (w : World) (u : Value) (n : Bool) (xs : List Int) : Prop := ∃ ap lp cp, u = .agg #[.bool n, .slice ap lp cp] ∧ Sl w ap lp cp xs
theorem HasI.below {w w' : World} {u : Value} {n : Bool} {xs : List Int} (h : HasI w u n xs) (hb : Below w.heap.size w w') : HasI w' u n xs := by
  obtain ⟨a, l, c, h1, h2⟩ := h
  exact ⟨a, l, c, h1, h2.below hb⟩
def HasT (w : World) (u : Value) (n : Bool) (xs : List Int) (e : Int) : Prop := ∃ ap lp cp, u = .tuple #[.agg #[.bool n, .slice ap lp cp], .int .i64 e] ∧ Sl w ap lp cp xs
theorem HasT.below {w w' : World} {u : Value} {n : Bool} {xs : List Int} {e : Int} (h : HasT w u n xs e) (hb : Below w.heap.size w w') : HasT w' u n xs e := by
  obtain ⟨a, l, c, h1, h2⟩ := h
  exact ⟨a, l, c, h1, h2.below hb⟩
theorem yielded_of {ops : Array Oper} {tmps : Array Value} {j : Nat} {t : Tmp} {v : Bool} (ho : (ops[j]?).bind (·.dst) = some t) (h : tmps.getD t undef = .bool v) : yielded ops tmps j = some v := by
  unfold yielded
  rw [ho]
  have h1 : tmps[t]? = some (.bool v) := by
    rw [Array.getD_eq_getD_getElem?] at h
    cases hh : tmps[t]? with
    | none => rw [hh] at h; cases h
    | some x => rw [hh] at h; simp at h; rw [h]
  simp [h1]
theorem wants {o : Oper} {ops : Array Oper} {tmps : Array Value} {j : Nat} {t : Tmp} {v : Bool} (hg : o.guard = some (j, v)) (ho : (ops[j]?).bind (·.dst) = some t) (h : tmps.getD t undef = .bool v) : Region.wanted o (yielded ops tmps) = true := by
  unfold Region.wanted
  rw [hg]
  simp [yielded_of ho h]
theorem wants_not {o : Oper} {ops : Array Oper} {tmps : Array Value} {j : Nat} {t : Tmp} {v u : Bool} (hg : o.guard = some (j, v)) (ho : (ops[j]?).bind (·.dst) = some t) (h : tmps.getD t undef = .bool u) (hu : u ≠ v) : ¬ Region.wanted o (yielded ops tmps) = true := by
  unfold Region.wanted
  rw [hg]
  simp [yielded_of ho h, hu]
theorem wants_none {o : Oper} {ops : Array Oper} {tmps : Array Value} {j : Nat} {t : Tmp} {v : Bool} (hg : o.guard = some (j, v)) (ho : (ops[j]?).bind (·.dst) = some t) (h : tmps.getD t undef = undef) : ¬ Region.wanted o (yielded ops tmps) = true := by
  have h1 : yielded ops tmps j = none := by
    unfold yielded
    rw [ho]
    rw [Array.getD_eq_getD_getElem?] at h
    cases hh : tmps[t]? with
    | none => simp [hh]
    | some x => rw [hh] at h; simp at h; subst h; simp [hh, undef]
  unfold Region.wanted
  rw [hg]
  simp [h1]
theorem not_yet {L : Nat → Bool} {i j : Nat} (h : L i = true → L j = true) (hj : L j = false) : L i = false := by
  cases hi : L i with
  | false => rfl
  | true => rw [h hi] at hj; cases hj
end Go.Proofs.YtfjnplhhgdfepaaGreatDoor

/- A region that draws its order and stores nothing: what each operation has yielded is told by a list, which every later world keeps. -/
namespace Go.Proofs.YtfjnplhhgdfepaaGreatDoor
open Go Go.RowKit

/-- What is so stays so, whatever blocks are added. -/
def Mono (Q : World → Value → Prop) : Prop := ∀ w w' u, Q w u → Below w.heap.size w w' → Q w' u
theorem Mono.is {v : Value} : Mono (fun _ u => u = v) := fun _ _ _ h _ => h
theorem Mono.pair {n : Bool} {xs : List Int} {e : Int} : Mono (fun w u => HasP w u n xs e) := fun _ _ _ h b => h.below b
theorem Mono.int {n : Bool} {xs : List Int} : Mono (fun w u => HasI w u n xs) := fun _ _ _ h b => h.below b
theorem Mono.tuple {n : Bool} {xs : List Int} {e : Int} : Mono (fun w u => HasT w u n xs e) := fun _ _ _ h b => h.below b
def AllQ : List (World → Value → Prop) → Prop
  | [] => True
  | q :: r => Mono q ∧ AllQ r
theorem AllQ.get : ∀ {l : List (World → Value → Prop)} {j : Nat} {q : World → Value → Prop}, AllQ l → l[j]? = some q → Mono q
  | [], _, _, _, h => by simp at h
  | _ :: _, 0, _, hA, h => by simp at h; subst h; exact hA.1
  | _ :: r, j + 1, _, hA, h => AllQ.get (l := r) (j := j) hA.2 (by simpa using h)
/-- The operations that have come up have yielded what the list says. -/
def Upto (W : World) (Qs : List (World → Value → Prop)) (L : Nat → Bool) (U : Nat → Value) (w : World) : Prop :=
  Below W.heap.size W w ∧ ∀ j q, Qs[j]? = some q → L j = true → q w (U j)
theorem Upto.start (W : World) (Qs : List (World → Value → Prop)) (U : Nat → Value) : Upto W Qs (fun _ => false) U W.drew :=
  ⟨(Below.refl _ _).drew, fun _ _ _ h => by cases h⟩
theorem Upto.at {W : World} {Qs : List (World → Value → Prop)} {L : Nat → Bool} {U : Nat → Value} {w : World} (h : Upto W Qs L U w) (j : Nat) {q : World → Value → Prop} (hq : Qs[j]? = some q) (hL : L j = true) : q w (U j) := h.2 j q hq hL
theorem Upto.next {W : World} {Qs : List (World → Value → Prop)} {L : Nat → Bool} {U : Nat → Value} {w w' : World} (h : Upto W Qs L U w) (hm : AllQ Qs) (i : Nat) {q : World → Value → Prop} (hq : Qs[i]? = some q) (hb : Below w.heap.size w w') {v : Value} (hv : q w' v) : Upto W Qs (more L i) (upd U i v) w' := by
  refine ⟨h.1.trans (hb.mono h.1.size), fun j p hp hL => ?_⟩
  by_cases hj : j = i
  · subst hj
    have e : q = p := Option.some.inj (hq.symm.trans hp)
    subst e
    show q w' (upd U j v j)
    rw [show upd U j v j = v by unfold upd; rw [if_pos rfl]]
    exact hv
  · have hLj : L j = true := by unfold more at hL; rwa [if_neg hj] at hL
    have := hm.get hp _ _ _ (h.2 j p hp hLj) hb
    rwa [show upd U i v j = U j by unfold upd; rw [if_neg hj]]
theorem Upto.same {W : World} {Qs : List (World → Value → Prop)} {L : Nat → Bool} {U : Nat → Value} {w : World} (h : Upto W Qs L U w) (hm : AllQ Qs) (i : Nat) {q : World → Value → Prop} (hq : Qs[i]? = some q) {v : Value} (hv : q w v) : Upto W Qs (more L i) (upd U i v) w :=
  h.next hm i hq (Below.refl _ _) hv
theorem fillA_defers : ∀ (ds : List (Option Tmp)) (us : List Value) (a : Act), (fillA a ds us).defers = a.defers
  | [], _, _ => rfl
  | _ :: _, [], _ => rfl
  | d :: ds, u :: us, a => by
    show (fillA (a.put d u) ds us).defers = _
    rw [fillA_defers ds us]
    cases d <;> rfl
end Go.Proofs.YtfjnplhhgdfepaaGreatDoor

/- The reference's shorn. -/
namespace Go.Proofs.YtfjnplhhgdfepaaGreatDoor
open Go.RowKit

set_option maxRecDepth 100000 in
set_option maxHeartbeats 1000000 in
theorem shorn_any (ao : Option Addr) (len cap : Nat) (xs : List Int) (w : World) (hs : Sl w ao len cap xs) (hm : len ≤ 1000000) :
    Calls Tryz.prog 92 #[.slice ao len cap] w (RetS (trim xs) w) := by
  have hb := hs.len_le
  have hlx := Lib.hid hs.length
  obtain ⟨i0, hi, hz0, hz1, hz2⟩ := info_parts Tryz.info3
  go_enter Tryz.func92, Tryz.ntmps92
  go_wp2
  go_loop [3] (fun s => ∃ n : Nat, n ≤ len ∧ s = .int .i64 n ∧ trim (xs.take n) = trim xs) (fun s => (intOf s).toNat)
  case atStart => exact ⟨len, Nat.le_refl _, rfl, by rw [← hlx.out, List.take_length]⟩
  case round =>
    obtain ⟨n, hn, rfl, ht⟩ := hrel
    have Ht := Lib.hid ht
    clear ht
    rcases n with _ | n
    · have e : trim xs = [] := by rw [← Ht.out]; rfl
      rw [e]
      rcases hs.2.2.2 with ⟨rfl, hc⟩ | ⟨b, o, rfl, hc⟩
      · obtain rfl : len = 0 := by omega
        subst hc
        go_wp2
        go_ret
        exact ⟨none, 0, 0, rfl, Sl.nil _, Below.refl _ _⟩
      · clear hc
        go_wp2_with (at_builtin; refine wpList_append_own _ rfl _ _ 22 rfl w.heap.size 3 i0 (.int .i64 0) 1 8 Tryz.underlying22 hi hz0 hz1 hz2 rfl (by decide) _ _ _ rfl (show w.ownsRow w.heap.size 3 1 (.slice none 0 0) 0 [] from ⟨rfl, .inl ⟨rfl, rfl⟩⟩) ⟨b, o, none⟩ 0 cap ((xs.take 0).map (Value.int .i64)) rfl ?qa1 ?qa2 ?qa3 ?qa4 ?qa5 ?qa6 ?_)
        all_goals (first | rfl | (simp; done) | omega | skip)
        intro v' w1 hown hgrow hnil
        subst hnil
        go_wp2
        go_ret
        exact ⟨none, 0, 0, rfl, by rw [e]; exact Sl.nil _, (Below.refl _ w).grown hgrow (Nat.le_refl _) (by intro k hk; simp [Value.ownBlock] at hk)⟩
    · obtain ⟨b, o, rfl, hc⟩ := hs.at (by omega)
      have hcn := hc n (by omega)
      have hi1 : (((n : Int) + 1 - 1)) = (n : Int) := by omega
      have hlt : (n : Int) < (len : Int) := by omega
      by_cases hz : xs.getD n 0 = 0
      · have Hz := Lib.hid hz
        rw [hz] at hcn
        clear hz hc
        go_wp2
        go_round
        case rel => exact ⟨n, by omega, by go_num, by rw [← Ht.out, trim_take_succ xs n (by have := hlx.out; omega) Hz.out]⟩
        case measure => simp [intOf]
      · have hz' : (xs.getD n 0 == 0) = false := by simpa using hz
        obtain ⟨v, hv⟩ : ∃ v, v = xs.getD n 0 := ⟨_, rfl⟩
        rw [← hv] at hcn hz'
        have HT := Lib.hid (trim_take_stop xs n (by have := hlx.out; omega) hz)
        have HC := Lib.hid hc
        clear hz hv hc
        go_wp2_with (at_builtin; refine wpList_append_own _ rfl _ _ 22 rfl w.heap.size 3 i0 (.int .i64 0) 1 8 Tryz.underlying22 hi hz0 hz1 hz2 rfl (by decide) _ _ _ rfl (show w.ownsRow w.heap.size 3 1 (.slice none 0 0) 0 [] from ⟨rfl, .inl ⟨rfl, rfl⟩⟩) ⟨b, o, none⟩ (n + 1) cap ((xs.take (n + 1)).map (Value.int .i64)) rfl ?qb1 ?qb2 ?qb3 ?qb4 ?qb5 ?qb6 ?_)
        case qb1 => rw [hlx.out]; omega
        case qb2 =>
          intro j u hj
          have hjn : j < n + 1 := by
            have := (List.getElem?_eq_some_iff.1 hj).1
            rw [List.length_take] at this; omega
          rw [HC.out j (by omega)]
          rw [List.getElem?_take, if_pos hjn, List.getElem?_map, List.getElem?_eq_getElem (by rw [hlx.out]; omega)] at hj
          rw [getD_of_lt _ _ (by rw [hlx.out]; omega)]
          exact hj
        case qb3 =>
          have := ints_oneCell .i64 (xs.take (n + 1))
          rw [List.map_take] at this
          exact this
        case qb4 => unfold maxLen; omega
        case qb5 => omega
        intro v' w1 hown hgrow hnil
        go_wp2
        go_ret
        rw [← List.map_take] at hown
        obtain ⟨ao', cap', hv, hsl⟩ := Sl.of_owns hown
        have e : trim xs = xs.take (n + 1) := by rw [← Ht.out]; exact HT.out
        rw [e]
        exact ⟨ao', _, cap', by rw [hv]; rfl, hsl, (Below.refl _ w).grown hgrow (Nat.le_refl _) (by intro k hk; simp [Value.ownBlock] at hk)⟩
end Go.Proofs.YtfjnplhhgdfepaaGreatDoor

/- The reference's product of two numbers' parts. -/
namespace Go.Proofs.YtfjnplhhgdfepaaGreatDoor
open Go.RowKit

/-- At the head of a round of the outer loop. -/
def RMul (xs ys : List Int) (i : Nat) (zs : List Int) : Prop :=
  zs.length = xs.length + ys.length + 1 ∧ Dig zs ∧ (∀ j, i + ys.length ≤ j → zs.getD j 0 = 0) ∧ val zs = val (xs.take i) * val ys
theorem RMul.start (xs ys : List Int) : RMul xs ys 0 (List.replicate (xs.length + ys.length + 1) 0) :=
  ⟨by simp, Dig.replicate _, fun j _ => getD_replicate _ _, by rw [val_replicate]; simp [val]⟩
theorem RMul.enter {xs ys : List Int} {i : Nat} {zs : List Int} (h : RMul xs ys i zs) (x : Int) : MulInv i x ys (val zs) (xs.length + ys.length + 1) 0 0 zs :=
  ⟨h.1, h.2.1, h.2.2.1, by omega, by omega, by simp [val]⟩
theorem RMul.leave {xs ys : List Int} {i : Nat} {zs : List Int} (h : RMul xs ys i zs) (hi : i < xs.length) {c : Int} {zs' : List Int}
    (k : MulInv i (xs.getD i 0) ys (val zs) (xs.length + ys.length + 1) ys.length c zs') : RMul xs ys (i + 1) (zs'.set (i + ys.length) c) := by
  obtain ⟨_, _, _, g4⟩ := h
  obtain ⟨k1, k2, k3, k4, k5, k6⟩ := k
  refine ⟨by simp [k1], k2.set _ _ k4 k5, fun j hj => ?_, ?_⟩
  · rw [getD_set_ne _ _ _ _ (by omega)]; exact k3 j (by omega)
  · rw [val_set _ _ _ (by omega), k3 _ (Nat.le_refl _), val_take_step]
    rw [List.take_length] at k6
    grind

set_option maxRecDepth 100000 in
set_option maxHeartbeats 4000000 in
theorem refTimes_any (ax : Option Addr) (la ca : Nat) (xs : List Int) (ay : Option Addr) (lb cb : Nat) (ys : List Int) (w : World) (hx : Sl w ax la ca xs) (hy : Sl w ay lb cb ys)
    (dx : Dig xs) (dy : Dig ys) (hm : la ≤ 100000) (hn : lb ≤ 100000) :
    Calls Tryz.prog 91 #[.slice ax la ca, .slice ay lb cb] w (RetS (parts (val xs * val ys).toNat) w) := by
  obtain ⟨i0, hi, hz0, hz1, hz2⟩ := info_parts Tryz.info3
  go_enter Tryz.func91, Tryz.ntmps91
  go_wp2_with (at_make; refine wpList_make_full _ rfl _ _ 22 rfl w.heap.size 3 i0 (.int .i64 0) 1 Tryz.underlying22 hi hz0 hz1 _ _ _ _ (la + lb + 1) rfl rfl ?c1 ?c2 ?c3 ?c4 ?c5 ?_)
  case c1 => omega
  case c2 => omega
  case c3 => rw [hz2]; omega
  case c4 => unfold maxLen; omega
  case c5 => omega
  intro w1 hown hgrow
  have hrow := RowOf.made hown rfl
  have hb1 : Below w.heap.size w w1 := (Below.refl _ _).grown hgrow (Nat.le_refl _) (fun _ h => by cases h)
  generalize hg : w.heap.size = g at *
  have Hg := Lib.hid hg
  clear hg hown hgrow
  go_wp2
  have hlx := Lib.hid hx.length
  have hly := Lib.hid hy.length
  go_loopw [6, 7, 8, 9] (fun i _ _ _ wr => ∃ (k : Nat) (zs : List Int), k ≤ la ∧ i = .int .i64 k ∧ RMul xs ys k zs ∧ RowOf wr g zs ∧ Below g w wr) (fun i _ _ _ _ => la - (intOf i).toNat)
  case atStart => exact ⟨0, _, Nat.zero_le _, rfl, by have := RMul.start xs ys; rwa [hlx.out, hly.out] at this, hrow, hb1⟩
  case round =>
    clear hb1 hrow
    obtain ⟨k, zs, hk, rfl, hout, hrow, hbel⟩ := hrel
    have hsx := hx.below (by rw [Hg.out]; exact hbel)
    by_cases hlt : k < la
    · obtain ⟨bx, ox, rfl, hcx⟩ := hsx.at (by omega)
      have hxd := dx.getD k
      generalize hxk : xs.getD k 0 = x at hxd
      have Hxk := Lib.hid hxk
      clear hcx hxk
      obtain ⟨hx0, hx1⟩ := hxd
      go_wp2
      obtain ⟨wo, rfl⟩ : ∃ wo : World, wo = wr := ⟨_, rfl⟩
      go_loopw [7, 8, 9] (fun c i _ wr => ∃ (j : Nat) (cv : Int) (vs : List Int), j ≤ lb ∧ i = .int .i64 j ∧ c = .int .i64 cv ∧ MulInv k x ys (val zs) (la + lb + 1) j cv vs ∧ RowOf wr g vs ∧ Below g w wr) (fun _ i _ _ => lb - (intOf i).toNat)
      case atStart => exact ⟨0, 0, zs, Nat.zero_le _, rfl, rfl, by have := hout.enter x; rwa [hlx.out, hly.out] at this, hrow, hbel⟩
      case round =>
        clear hrow hbel
        obtain ⟨j, cv, vs, hj, rfl, rfl, hinv, hrow, hbel⟩ := hrel
        have hsx := hx.below (by rw [Hg.out]; exact hbel)
        have hsy := hy.below (by rw [Hg.out]; exact hbel)
        have hc0 := hinv.2.2.2.1
        have hc1 := hinv.2.2.2.2.1
        have hzl := Lib.hid hinv.1
        by_cases hjt : j < lb
        · obtain ⟨by', oy, rfl, hcy⟩ := hsy.at (by omega)
          have hcyk := hcy j hjt
          have hyd := dy.getD j
          generalize hyk : ys.getD j 0 = y at hcyk hyd
          have Hyk := Lib.hid hyk
          have hcxk := hsx.cellAt k hlt
          rw [Hxk.out] at hcxk
          have hfz := hrow.frozen (k + j)
          have hcz := hrow.cell (k + j) (by rw [hzl.out]; omega)
          have hzd := hinv.2.1.getD (k + j)
          generalize hzk : vs.getD (k + j) 0 = z at hcz hzd
          have Hzk := Lib.hid hzk
          obtain ⟨hp0, hp1⟩ := mul_bd hx0 (show x ≤ 999999999 by omega) hyd.1 (show y ≤ 999999999 by omega)
          have hI1 : (k : Int) < (la : Int) := by omega
          have hI2 : (j : Int) < (lb : Int) := by omega
          have hI3 : (k : Int) + (j : Int) < (la : Int) + (lb : Int) + 1 := by omega
          clear hcy hyk hzk
          go_wp2
          go_region
          go_wp2
          go_roundw
          case rel => exact ⟨j + 1, _, _, hjt, by go_num, rfl, hinv.step (by rw [hly.out]; exact hjt) (by omega) hx0 (by omega) dy _ (by rw [Hyk.out, Hzk.out]), (by first | exact hrow.set _ _ | exact hrow.drew.set _ _), (by first | exact hbel.setCell (Nat.le_refl _) _ | exact hbel.drew.setCell (Nat.le_refl _) _)⟩
          case measure => simp [intOf]; omega
        · have hjl : j = lb := by omega
          subst hjl
          have hfz := hrow.frozen (k + j)
          have hcz := hrow.cell (k + j) (by rw [hzl.out]; omega)
          rw [hinv.2.2.1 (k + j) (by rw [hly.out]; omega)] at hcz
          go_wp2
          go_roundw
          case rel => exact ⟨k + 1, _, hlt, by go_num, by have := hout.leave (c := cv) (zs' := vs) (by rw [hlx.out]; exact hlt) (by rw [Hxk.out, hlx.out, hly.out]; exact hinv); rwa [hly.out] at this, hrow.set _ _, hbel.setCell (Nat.le_refl _) _⟩
          case measure => simp [intOf]; omega
    · have hkl : k = la := by omega
      subst hkl
      have hsl := hrow.sl (k + lb + 1) (by rw [hout.1, hlx.out, hly.out]) (by omega)
      have hfin := Lib.hid hout
      clear hout
      go_wp2_with fail
      refine (shorn_any _ _ _ _ _ hsl (by omega)).mono ?_
      rintro e w2 ⟨a3, l3, c3, rfl, hs3, hb3⟩
      go_wp2
      go_ret
      refine ⟨a3, l3, c3, rfl, ?_, ?_⟩
      · rw [trim_eq hfin.out.2.1, hfin.out.2.2.2, ← hlx.out, List.take_length] at hs3
        exact hs3
      · rw [Hg.out]; exact hbel.trans (hb3.mono (by rw [← Hg.out]; exact hbel.size))
end Go.Proofs.YtfjnplhhgdfepaaGreatDoor

/- The reference's sum of two numbers' parts. -/
namespace Go.Proofs.YtfjnplhhgdfepaaGreatDoor
open Go.RowKit

def RAdd (xs ys : List Int) (k : Nat) (c : Int) (zs : List Int) : Prop :=
  zs.length = k ∧ Dig zs ∧ 0 ≤ c ∧ c ≤ 1 ∧ val zs + 1000000000 ^ k * c = val (xs.take k) + val (ys.take k)
theorem RAdd.start (xs ys : List Int) : RAdd xs ys 0 0 [] := ⟨rfl, (fun _ h => by cases h), by omega, by omega, by simp [val]⟩
theorem RAdd.step {xs ys : List Int} {k : Nat} {c : Int} {zs : List Int} (h : RAdd xs ys k c zs) (hx : Dig xs) (hy : Dig ys) (p : Int) (hp : p = c + xs.getD k 0 + ys.getD k 0) :
    RAdd xs ys (k + 1) (p / 1000000000) (zs ++ [p % 1000000000]) := by
  obtain ⟨h1, h2, h4, h5, h6⟩ := h
  have hxk := hx.getD k
  have hyk := hy.getD k
  refine ⟨by simp [h1], ?_, by omega, by omega, ?_⟩
  · intro y hy'
    rcases List.mem_append.1 hy' with h | h
    · exact h2 y h
    · rw [List.mem_singleton.1 h]; omega
  · rw [val_append, h1, val_take_step, val_take_step, Int.pow_succ]
    have e : p % 1000000000 + 1000000000 * (p / 1000000000) = p := by omega
    simp only [val]
    grind
theorem RAdd.finish {xs ys : List Int} {k : Nat} {c : Int} {zs : List Int} (h : RAdd xs ys k c zs) (hx : xs.length ≤ k) (hy : ys.length ≤ k) :
    Dig (zs ++ [c]) ∧ val (zs ++ [c]) = val xs + val ys := by
  obtain ⟨h1, h2, h4, h5, h6⟩ := h
  refine ⟨?_, ?_⟩
  · intro y hy'
    rcases List.mem_append.1 hy' with h | h
    · exact h2 y h
    · rw [List.mem_singleton.1 h]; omega
  · rw [List.take_of_length_le hx, List.take_of_length_le hy] at h6
    rw [val_append, h1]
    simp only [val]
    grind
set_option maxRecDepth 100000 in
set_option maxHeartbeats 4000000 in
theorem refSum_lt (ax : Option Addr) (la ca : Nat) (xs : List Int) (ay : Option Addr) (lb cb : Nat) (ys : List Int) (w : World) (hx : Sl w ax la ca xs) (hy : Sl w ay lb cb ys) (dx : Dig xs) (dy : Dig ys) (hm : la ≤ 100000) (hn : lb ≤ 100000) (hab : (la : Int) < (lb : Int)) :
    Calls Tryz.prog 90 #[.slice ax la ca, .slice ay lb cb] w (RetS (parts (val xs + val ys).toNat) w) := by
  have hlx := Lib.hid hx.length
  have hly := Lib.hid hy.length
  obtain ⟨i0, hi, hz0, hz1, hz2⟩ := info_parts Tryz.info3
  go_enter Tryz.func90, Tryz.ntmps90
  go_wp2
  go_loopw [5, 6, 7] (fun v c i wr => ∃ (k : Nat) (cv : Int) (zs : List Int), k ≤ lb ∧ i = .int .i64 k ∧ c = .int .i64 cv ∧ RAdd xs ys k cv zs ∧ wr.ownsRow w.heap.size 3 1 v zs.length (zs.map (Value.int .i64)) ∧ Below w.heap.size w wr) (fun _ _ i _ => lb - (intOf i).toNat)
  case atStart => exact ⟨0, 0, [], Nat.zero_le _, rfl, rfl, RAdd.start xs ys, ⟨rfl, .inl ⟨rfl, rfl⟩⟩, Below.refl _ _⟩
  case round =>
    obtain ⟨k, cv, zs, hk, rfl, rfl, hinv, hown, hbel⟩ := hrel
    have hsx := hx.below hbel
    have hsy := hy.below hbel
    have hc0 := hinv.2.2.1
    have hc1 := hinv.2.2.2.1
    have hzk : zs.length ≤ 100000 := by have := hinv.1; omega
    have hbz := hbel.size
    have HI := Lib.hid hinv
    clear hinv
    by_cases hlt : k < lb
    · obtain ⟨by', oy, rfl, hcy⟩ := hsy.at (by omega)
      have hcyk := hcy k (by omega)
      have hyd := dy.getD k
      generalize hyk : ys.getD k 0 = y at hcyk hyd
      have Hyk := Lib.hid hyk
      clear hcy hyk
      by_cases hks : k < la
      · obtain ⟨bx, ox, rfl, hcx⟩ := hsx.at (by omega)
        have hcxk := hcx k (by omega)
        have hxd := dx.getD k
        generalize hxk : xs.getD k 0 = x at hcxk hxd
        have Hxk := Lib.hid hxk
        clear hcx hxk
        go_wp2_with (at_builtin; refine wpList_append_own _ rfl _ _ 22 rfl w.heap.size 3 i0 (.int .i64 0) 1 8 Tryz.underlying22 hi hz0 hz1 hz2 rfl (by decide) _ _ _ rfl (hown.alloc _) ⟨wr.heap.size, 0, none⟩ 1 1 [.int .i64 ((cv + x + y) % 1000000000)] rfl ?qab1 ?qab2 ?qab3 ?qab4 ?qab5 ?qab6 ?_)
        case qab1 => rfl
        case qab2 => exact cell_one_new _ _ _
        case qab3 => exact ints_oneCell .i64 [(cv + x + y) % 1000000000]
        case qab4 => unfold maxLen; omega
        case qab5 => omega
        case qab6 => simp; omega
        intro v2 w1 hown2 hgrow _
        go_wp2
        go_roundw
        case rel =>
          refine ⟨k + 1, _, zs ++ [(cv + x + y) % 1000000000], hlt, by go_num, rfl, HI.out.step dx dy (cv + x + y) (by rw [Hxk.out, Hyk.out]), ?_, (hbel.alloc (by omega) _).grown hgrow (by simp; omega) ?_⟩
          · rw [List.length_append, List.map_append]; exact hown2
          · intro k' hk'
            rcases hown.2 with ⟨rfl, _⟩ | ⟨g, cap, cur, rfl, hge, _⟩
            · simp [Value.ownBlock] at hk'
            · simp [Value.ownBlock] at hk'; omega
        case measure => simp [intOf]; omega
      · have Hxk := Lib.hid (show xs.getD k 0 = 0 from getD_of_ge xs k (by rw [hlx.out]; omega))
        go_wp2_with (at_builtin; refine wpList_append_own _ rfl _ _ 22 rfl w.heap.size 3 i0 (.int .i64 0) 1 8 Tryz.underlying22 hi hz0 hz1 hz2 rfl (by decide) _ _ _ rfl (hown.alloc _) ⟨wr.heap.size, 0, none⟩ 1 1 [.int .i64 ((cv + y) % 1000000000)] rfl ?qnb1 ?qnb2 ?qnb3 ?qnb4 ?qnb5 ?qnb6 ?_)
        case qnb1 => rfl
        case qnb2 => exact cell_one_new _ _ _
        case qnb3 => exact ints_oneCell .i64 [(cv + y) % 1000000000]
        case qnb4 => unfold maxLen; omega
        case qnb5 => omega
        case qnb6 => simp; omega
        intro v2 w1 hown2 hgrow _
        go_wp2
        go_roundw
        case rel =>
          refine ⟨k + 1, _, zs ++ [(cv + y) % 1000000000], hlt, by go_num, rfl, HI.out.step dx dy (cv + y) (by rw [Hxk.out, Hyk.out]; omega), ?_, (hbel.alloc (by omega) _).grown hgrow (by simp; omega) ?_⟩
          · rw [List.length_append, List.map_append]; exact hown2
          · intro k' hk'
            rcases hown.2 with ⟨rfl, _⟩ | ⟨g, cap, cur, rfl, hge, _⟩
            · simp [Value.ownBlock] at hk'
            · simp [Value.ownBlock] at hk'; omega
        case measure => simp [intOf]; omega
    · obtain rfl : k = lb := by omega
      go_wp2_with (at_builtin; refine wpList_append_own _ rfl _ _ 22 rfl w.heap.size 3 i0 (.int .i64 0) 1 8 Tryz.underlying22 hi hz0 hz1 hz2 rfl (by decide) _ _ _ rfl (hown.alloc _) ⟨wr.heap.size, 0, none⟩ 1 1 [.int .i64 (cv)] rfl ?qz1 ?qz2 ?qz3 ?qz4 ?qz5 ?qz6 ?_)
      case qz1 => rfl
      case qz2 => exact cell_one_new _ _ _
      case qz3 => exact ints_oneCell .i64 [cv]
      case qz4 => unfold maxLen; omega
      case qz5 => omega
      case qz6 => simp; omega
      intro v2 w1 hown2 hgrow _
      have hfin := HI.out.finish (by rw [hlx.out]; omega) (by rw [hly.out]; omega)
      have hbel2 : Below w.heap.size w w1 := (hbel.alloc (by omega) _).grown hgrow (by simp; omega) (by
        intro k' hk'
        rcases hown.2 with ⟨rfl, _⟩ | ⟨g, cap, cur, rfl, hge, _⟩
        · simp [Value.ownBlock] at hk'
        · simp [Value.ownBlock] at hk'; omega)
      rw [show (List.map (Value.int .i64) zs ++ [.int .i64 cv]) = (zs ++ [cv]).map (Value.int .i64) by simp] at hown2
      obtain ⟨a2, c2, hv, hsl⟩ := Sl.of_owns (n := zs.length + 1) hown2
      subst hv
      have HF := Lib.hid hfin
      clear hfin hown2 hgrow hown
      go_wp2_with fail
      refine (shorn_any _ _ _ _ _ hsl (by omega)).mono ?_
      rintro e w2 ⟨a3, l3, c3, rfl, hs3, hb3⟩
      go_wp2
      go_ret
      refine ⟨a3, l3, c3, rfl, ?_, hbel2.trans (hb3.mono hbel2.size)⟩
      rw [trim_eq HF.out.1, HF.out.2] at hs3
      exact hs3
set_option maxRecDepth 100000 in
set_option maxHeartbeats 4000000 in
theorem refSum_ge (ax : Option Addr) (la ca : Nat) (xs : List Int) (ay : Option Addr) (lb cb : Nat) (ys : List Int) (w : World) (hx : Sl w ax la ca xs) (hy : Sl w ay lb cb ys) (dx : Dig xs) (dy : Dig ys) (hm : la ≤ 100000) (hn : lb ≤ 100000) (hab : ¬ ((la : Int) < (lb : Int))) :
    Calls Tryz.prog 90 #[.slice ax la ca, .slice ay lb cb] w (RetS (parts (val xs + val ys).toNat) w) := by
  have hlx := Lib.hid hx.length
  have hly := Lib.hid hy.length
  obtain ⟨i0, hi, hz0, hz1, hz2⟩ := info_parts Tryz.info3
  go_enter Tryz.func90, Tryz.ntmps90
  go_wp2
  go_loopw [5, 6, 7] (fun v c i wr => ∃ (k : Nat) (cv : Int) (zs : List Int), k ≤ la ∧ i = .int .i64 k ∧ c = .int .i64 cv ∧ RAdd xs ys k cv zs ∧ wr.ownsRow w.heap.size 3 1 v zs.length (zs.map (Value.int .i64)) ∧ Below w.heap.size w wr) (fun _ _ i _ => la - (intOf i).toNat)
  case atStart => exact ⟨0, 0, [], Nat.zero_le _, rfl, rfl, RAdd.start xs ys, ⟨rfl, .inl ⟨rfl, rfl⟩⟩, Below.refl _ _⟩
  case round =>
    obtain ⟨k, cv, zs, hk, rfl, rfl, hinv, hown, hbel⟩ := hrel
    have hsx := hx.below hbel
    have hsy := hy.below hbel
    have hc0 := hinv.2.2.1
    have hc1 := hinv.2.2.2.1
    have hzk : zs.length ≤ 100000 := by have := hinv.1; omega
    have hbz := hbel.size
    have HI := Lib.hid hinv
    clear hinv
    by_cases hlt : k < la
    · obtain ⟨bx, ox, rfl, hcx⟩ := hsx.at (by omega)
      have hcxk := hcx k (by omega)
      have hxd := dx.getD k
      generalize hxk : xs.getD k 0 = x at hcxk hxd
      have Hxk := Lib.hid hxk
      clear hcx hxk
      by_cases hks : k < lb
      · obtain ⟨by', oy, rfl, hcy⟩ := hsy.at (by omega)
        have hcyk := hcy k (by omega)
        have hyd := dy.getD k
        generalize hyk : ys.getD k 0 = y at hcyk hyd
        have Hyk := Lib.hid hyk
        clear hcy hyk
        go_wp2_with (at_builtin; refine wpList_append_own _ rfl _ _ 22 rfl w.heap.size 3 i0 (.int .i64 0) 1 8 Tryz.underlying22 hi hz0 hz1 hz2 rfl (by decide) _ _ _ rfl (hown.alloc _) ⟨wr.heap.size, 0, none⟩ 1 1 [.int .i64 ((cv + x + y) % 1000000000)] rfl ?qab1 ?qab2 ?qab3 ?qab4 ?qab5 ?qab6 ?_)
        case qab1 => rfl
        case qab2 => exact cell_one_new _ _ _
        case qab3 => exact ints_oneCell .i64 [(cv + x + y) % 1000000000]
        case qab4 => unfold maxLen; omega
        case qab5 => omega
        case qab6 => simp; omega
        intro v2 w1 hown2 hgrow _
        go_wp2
        go_roundw
        case rel =>
          refine ⟨k + 1, _, zs ++ [(cv + x + y) % 1000000000], hlt, by go_num, rfl, HI.out.step dx dy (cv + x + y) (by rw [Hxk.out, Hyk.out]), ?_, (hbel.alloc (by omega) _).grown hgrow (by simp; omega) ?_⟩
          · rw [List.length_append, List.map_append]; exact hown2
          · intro k' hk'
            rcases hown.2 with ⟨rfl, _⟩ | ⟨g, cap, cur, rfl, hge, _⟩
            · simp [Value.ownBlock] at hk'
            · simp [Value.ownBlock] at hk'; omega
        case measure => simp [intOf]; omega
      · have Hyk := Lib.hid (show ys.getD k 0 = 0 from getD_of_ge ys k (by rw [hly.out]; omega))
        go_wp2_with (at_builtin; refine wpList_append_own _ rfl _ _ 22 rfl w.heap.size 3 i0 (.int .i64 0) 1 8 Tryz.underlying22 hi hz0 hz1 hz2 rfl (by decide) _ _ _ rfl (hown.alloc _) ⟨wr.heap.size, 0, none⟩ 1 1 [.int .i64 ((cv + x) % 1000000000)] rfl ?qan1 ?qan2 ?qan3 ?qan4 ?qan5 ?qan6 ?_)
        case qan1 => rfl
        case qan2 => exact cell_one_new _ _ _
        case qan3 => exact ints_oneCell .i64 [(cv + x) % 1000000000]
        case qan4 => unfold maxLen; omega
        case qan5 => omega
        case qan6 => simp; omega
        intro v2 w1 hown2 hgrow _
        go_wp2
        go_roundw
        case rel =>
          refine ⟨k + 1, _, zs ++ [(cv + x) % 1000000000], hlt, by go_num, rfl, HI.out.step dx dy (cv + x) (by rw [Hxk.out, Hyk.out]; omega), ?_, (hbel.alloc (by omega) _).grown hgrow (by simp; omega) ?_⟩
          · rw [List.length_append, List.map_append]; exact hown2
          · intro k' hk'
            rcases hown.2 with ⟨rfl, _⟩ | ⟨g, cap, cur, rfl, hge, _⟩
            · simp [Value.ownBlock] at hk'
            · simp [Value.ownBlock] at hk'; omega
        case measure => simp [intOf]; omega
    · obtain rfl : k = la := by omega
      go_wp2_with (at_builtin; refine wpList_append_own _ rfl _ _ 22 rfl w.heap.size 3 i0 (.int .i64 0) 1 8 Tryz.underlying22 hi hz0 hz1 hz2 rfl (by decide) _ _ _ rfl (hown.alloc _) ⟨wr.heap.size, 0, none⟩ 1 1 [.int .i64 (cv)] rfl ?qz1 ?qz2 ?qz3 ?qz4 ?qz5 ?qz6 ?_)
      case qz1 => rfl
      case qz2 => exact cell_one_new _ _ _
      case qz3 => exact ints_oneCell .i64 [cv]
      case qz4 => unfold maxLen; omega
      case qz5 => omega
      case qz6 => simp; omega
      intro v2 w1 hown2 hgrow _
      have hfin := HI.out.finish (by rw [hlx.out]; omega) (by rw [hly.out]; omega)
      have hbel2 : Below w.heap.size w w1 := (hbel.alloc (by omega) _).grown hgrow (by simp; omega) (by
        intro k' hk'
        rcases hown.2 with ⟨rfl, _⟩ | ⟨g, cap, cur, rfl, hge, _⟩
        · simp [Value.ownBlock] at hk'
        · simp [Value.ownBlock] at hk'; omega)
      rw [show (List.map (Value.int .i64) zs ++ [.int .i64 cv]) = (zs ++ [cv]).map (Value.int .i64) by simp] at hown2
      obtain ⟨a2, c2, hv, hsl⟩ := Sl.of_owns (n := zs.length + 1) hown2
      subst hv
      have HF := Lib.hid hfin
      clear hfin hown2 hgrow hown
      go_wp2_with fail
      refine (shorn_any _ _ _ _ _ hsl (by omega)).mono ?_
      rintro e w2 ⟨a3, l3, c3, rfl, hs3, hb3⟩
      go_wp2
      go_ret
      refine ⟨a3, l3, c3, rfl, ?_, hbel2.trans (hb3.mono hbel2.size)⟩
      rw [trim_eq HF.out.1, HF.out.2] at hs3
      exact hs3
theorem refSum_any (ax : Option Addr) (la ca : Nat) (xs : List Int) (ay : Option Addr) (lb cb : Nat) (ys : List Int) (w : World) (hx : Sl w ax la ca xs) (hy : Sl w ay lb cb ys) (dx : Dig xs) (dy : Dig ys) (hm : la ≤ 100000) (hn : lb ≤ 100000) :
    Calls Tryz.prog 90 #[.slice ax la ca, .slice ay lb cb] w (RetS (parts (val xs + val ys).toNat) w) := by
  by_cases h : (la : Int) < (lb : Int)
  · exact refSum_lt ax la ca xs ay lb cb ys w hx hy dx dy hm hn h
  · exact refSum_ge ax la ca xs ay lb cb ys w hx hy dx dy hm hn h
end Go.Proofs.YtfjnplhhgdfepaaGreatDoor

/- The reference's difference of two numbers' parts. -/
namespace Go.Proofs.YtfjnplhhgdfepaaGreatDoor
open Go.RowKit

def RSub (xs ys : List Int) (k : Nat) (c : Int) (zs : List Int) : Prop :=
  zs.length = k ∧ Dig zs ∧ 0 ≤ c ∧ c ≤ 1 ∧ val zs + val (ys.take k) = val (xs.take k) + 1000000000 ^ k * c
theorem RSub.start (xs ys : List Int) : RSub xs ys 0 0 [] := ⟨rfl, (fun _ h => by cases h), by omega, by omega, by simp [val]⟩
theorem RSub.step {xs ys : List Int} {k : Nat} {c : Int} {zs : List Int} (h : RSub xs ys k c zs) (hx : Dig xs) (hy : Dig ys) (p d : Int) (hp : p = xs.getD k 0 - c - ys.getD k 0 + d * 1000000000) (h0 : 0 ≤ p) (h1 : p < 1000000000) (hd : 0 ≤ d ∧ d ≤ 1) :
    RSub xs ys (k + 1) d (zs ++ [p]) := by
  have _ := hx; have _ := hy
  obtain ⟨h1', h2, h4, h5, h6⟩ := h
  refine ⟨by simp [h1'], ?_, hd.1, hd.2, ?_⟩
  · intro y hy'
    rcases List.mem_append.1 hy' with h | h
    · exact h2 y h
    · rw [List.mem_singleton.1 h]; omega
  · rw [val_append, h1', val_take_step, val_take_step, Int.pow_succ]
    simp only [val]
    grind
theorem RSub.finish {xs ys : List Int} {k : Nat} {c : Int} {zs : List Int} (h : RSub xs ys k c zs) (hx : xs.length = k) (hy : ys.length ≤ k) (hle : val ys ≤ val xs) :
    Dig zs ∧ val zs = val xs - val ys := by
  obtain ⟨h1, h2, h4, h5, h6⟩ := h
  rw [List.take_of_length_le (l := xs) (by omega), List.take_of_length_le (l := ys) hy] at h6
  have h7 := val_lt h2
  rw [h1] at h7
  have hc : c = 0 ∨ c = 1 := by omega
  rcases hc with rfl | rfl
  · exact ⟨h2, by simp at h6; omega⟩
  · exfalso; simp at h6; omega

set_option maxRecDepth 100000 in
set_option maxHeartbeats 4000000 in
theorem refLess_any (ax : Option Addr) (la ca : Nat) (xs : List Int) (ay : Option Addr) (lb cb : Nat) (ys : List Int) (w : World) (hx : Sl w ax la ca xs) (hy : Sl w ay lb cb ys) (dx : Dig xs) (dy : Dig ys) (hm : la ≤ 100000) (hn : lb ≤ la) (hle : val ys ≤ val xs) :
    Calls Tryz.prog 100 #[.slice ax la ca, .slice ay lb cb] w (RetS (parts (val xs - val ys).toNat) w) := by
  have hlx := Lib.hid hx.length
  have hly := Lib.hid hy.length
  have Hle := Lib.hid hle
  clear hle
  obtain ⟨i0, hi, hz0, hz1, hz2⟩ := info_parts Tryz.info3
  go_enter Tryz.func100, Tryz.ntmps100
  go_wp2
  go_loopw [5, 6, 7, 8] (fun v c i _ wr => ∃ (k : Nat) (cv : Int) (zs : List Int), k ≤ la ∧ i = .int .i64 k ∧ c = .int .i64 cv ∧ RSub xs ys k cv zs ∧ wr.ownsRow w.heap.size 3 1 v zs.length (zs.map (Value.int .i64)) ∧ Below w.heap.size w wr) (fun _ _ i _ _ => la - (intOf i).toNat)
  case atStart => exact ⟨0, 0, [], Nat.zero_le _, rfl, rfl, RSub.start xs ys, ⟨rfl, .inl ⟨rfl, rfl⟩⟩, Below.refl _ _⟩
  case round =>
    obtain ⟨k, cv, zs, hk, rfl, rfl, hinv, hown, hbel⟩ := hrel
    have hsx := hx.below hbel
    have hsy := hy.below hbel
    have hc0 := hinv.2.2.1
    have hc1 := hinv.2.2.2.1
    have hzk : zs.length ≤ 100000 := by have := hinv.1; omega
    have hbz := hbel.size
    have HI := Lib.hid hinv
    clear hinv
    by_cases hlt : k < la
    · obtain ⟨bx, ox, rfl, hcx⟩ := hsx.at (by omega)
      have hcxk := hcx k (by omega)
      have hxd := dx.getD k
      generalize hxk : xs.getD k 0 = x at hcxk hxd
      have Hxk := Lib.hid hxk
      clear hcx hxk
      by_cases hks : k < lb
      · obtain ⟨by', oy, rfl, hcy⟩ := hsy.at (by omega)
        have hcyk := hcy k (by omega)
        have hyd := dy.getD k
        generalize hyk : ys.getD k 0 = y at hcyk hyd
        have Hyk := Lib.hid hyk
        clear hcy hyk
        by_cases hneg : x - cv - y < 0
        · have hs : decide (x - cv - y < 0) = true := decide_eq_true hneg
          go_wp2_with (at_builtin; refine wpList_append_own _ rfl _ _ 22 rfl w.heap.size 3 i0 (.int .i64 0) 1 8 Tryz.underlying22 hi hz0 hz1 hz2 rfl (by decide) _ _ _ rfl (hown.alloc _) ⟨wr.heap.size, 0, none⟩ 1 1 [.int .i64 (x - cv - y + 1000000000)] rfl ?qbm1 ?qbm2 ?qbm3 ?qbm4 ?qbm5 ?qbm6 ?_)
          (try case qbm1 => rfl)
          (try case qbm2 => exact cell_one_new _ _ _)
          (try case qbm3 => first | exact ints_oneCell .i64 [x - cv - y + 1000000000] | rfl)
          (try case qbm4 => unfold maxLen; omega)
          (try case qbm5 => omega)
          (try case qbm6 => first | omega | (simp; omega))
          intro v2 w1 hown2 hgrow _
          go_wp2
          go_roundw
          case rel =>
            refine ⟨k + 1, 1, zs ++ [x - cv - y + 1000000000], hlt, by go_num, rfl, HI.out.step dx dy (x - cv - y + 1000000000) 1 (by rw [Hxk.out, Hyk.out]; omega) (by omega) (by omega) (by omega), ?_, (hbel.alloc (by omega) _).grown hgrow (by simp; omega) ?_⟩
            · rw [List.length_append, List.map_append]; exact hown2
            · intro k' hk'
              rcases hown.2 with ⟨rfl, _⟩ | ⟨g, cap, cur, rfl, hge, _⟩
              · simp [Value.ownBlock] at hk'
              · simp [Value.ownBlock] at hk'; omega
          case measure => simp [intOf]; omega
        · have hs : decide (x - cv - y < 0) = false := decide_eq_false hneg
          go_wp2_with (at_builtin; refine wpList_append_own _ rfl _ _ 22 rfl w.heap.size 3 i0 (.int .i64 0) 1 8 Tryz.underlying22 hi hz0 hz1 hz2 rfl (by decide) _ _ _ rfl (hown.alloc _) ⟨wr.heap.size, 0, none⟩ 1 1 [.int .i64 (x - cv - y)] rfl ?qbp1 ?qbp2 ?qbp3 ?qbp4 ?qbp5 ?qbp6 ?_)
          (try case qbp1 => rfl)
          (try case qbp2 => exact cell_one_new _ _ _)
          (try case qbp3 => first | exact ints_oneCell .i64 [x - cv - y] | rfl)
          (try case qbp4 => unfold maxLen; omega)
          (try case qbp5 => omega)
          (try case qbp6 => first | omega | (simp; omega))
          intro v2 w1 hown2 hgrow _
          go_wp2
          go_roundw
          case rel =>
            refine ⟨k + 1, 0, zs ++ [x - cv - y], hlt, by go_num, rfl, HI.out.step dx dy (x - cv - y) 0 (by rw [Hxk.out, Hyk.out]; omega) (by omega) (by omega) (by omega), ?_, (hbel.alloc (by omega) _).grown hgrow (by simp; omega) ?_⟩
            · rw [List.length_append, List.map_append]; exact hown2
            · intro k' hk'
              rcases hown.2 with ⟨rfl, _⟩ | ⟨g, cap, cur, rfl, hge, _⟩
              · simp [Value.ownBlock] at hk'
              · simp [Value.ownBlock] at hk'; omega
          case measure => simp [intOf]; omega
      · have Hyk := Lib.hid (show ys.getD k 0 = 0 from getD_of_ge ys k (by rw [hly.out]; omega))
        by_cases hneg : x - cv < 0
        · have hs : decide (x - cv < 0) = true := decide_eq_true hneg
          go_wp2_with (at_builtin; refine wpList_append_own _ rfl _ _ 22 rfl w.heap.size 3 i0 (.int .i64 0) 1 8 Tryz.underlying22 hi hz0 hz1 hz2 rfl (by decide) _ _ _ rfl (hown.alloc _) ⟨wr.heap.size, 0, none⟩ 1 1 [.int .i64 (x - cv + 1000000000)] rfl ?qnm1 ?qnm2 ?qnm3 ?qnm4 ?qnm5 ?qnm6 ?_)
          (try case qnm1 => rfl)
          (try case qnm2 => exact cell_one_new _ _ _)
          (try case qnm3 => first | exact ints_oneCell .i64 [x - cv + 1000000000] | rfl)
          (try case qnm4 => unfold maxLen; omega)
          (try case qnm5 => omega)
          (try case qnm6 => first | omega | (simp; omega))
          intro v2 w1 hown2 hgrow _
          go_wp2
          go_roundw
          case rel =>
            refine ⟨k + 1, 1, zs ++ [x - cv + 1000000000], hlt, by go_num, rfl, HI.out.step dx dy (x - cv + 1000000000) 1 (by rw [Hxk.out, Hyk.out]; omega) (by omega) (by omega) (by omega), ?_, (hbel.alloc (by omega) _).grown hgrow (by simp; omega) ?_⟩
            · rw [List.length_append, List.map_append]; exact hown2
            · intro k' hk'
              rcases hown.2 with ⟨rfl, _⟩ | ⟨g, cap, cur, rfl, hge, _⟩
              · simp [Value.ownBlock] at hk'
              · simp [Value.ownBlock] at hk'; omega
          case measure => simp [intOf]; omega
        · have hs : decide (x - cv < 0) = false := decide_eq_false hneg
          go_wp2_with (at_builtin; refine wpList_append_own _ rfl _ _ 22 rfl w.heap.size 3 i0 (.int .i64 0) 1 8 Tryz.underlying22 hi hz0 hz1 hz2 rfl (by decide) _ _ _ rfl (hown.alloc _) ⟨wr.heap.size, 0, none⟩ 1 1 [.int .i64 (x - cv)] rfl ?qnp1 ?qnp2 ?qnp3 ?qnp4 ?qnp5 ?qnp6 ?_)
          (try case qnp1 => rfl)
          (try case qnp2 => exact cell_one_new _ _ _)
          (try case qnp3 => first | exact ints_oneCell .i64 [x - cv] | rfl)
          (try case qnp4 => unfold maxLen; omega)
          (try case qnp5 => omega)
          (try case qnp6 => first | omega | (simp; omega))
          intro v2 w1 hown2 hgrow _
          go_wp2
          go_roundw
          case rel =>
            refine ⟨k + 1, 0, zs ++ [x - cv], hlt, by go_num, rfl, HI.out.step dx dy (x - cv) 0 (by rw [Hxk.out, Hyk.out]; omega) (by omega) (by omega) (by omega), ?_, (hbel.alloc (by omega) _).grown hgrow (by simp; omega) ?_⟩
            · rw [List.length_append, List.map_append]; exact hown2
            · intro k' hk'
              rcases hown.2 with ⟨rfl, _⟩ | ⟨g, cap, cur, rfl, hge, _⟩
              · simp [Value.ownBlock] at hk'
              · simp [Value.ownBlock] at hk'; omega
          case measure => simp [intOf]; omega
    · obtain rfl : k = la := by omega
      have hfin := HI.out.finish hlx.out (by rw [hly.out]; omega) Hle.out
      obtain ⟨a2, c2, hv, hsl⟩ := Sl.of_owns hown
      subst hv
      have HF := Lib.hid hfin
      clear hfin hown
      go_wp2_with fail
      refine (shorn_any _ _ _ _ _ hsl (by omega)).mono ?_
      rintro e w2 ⟨a3, l3, c3, rfl, hs3, hb3⟩
      go_wp2
      go_ret
      refine ⟨a3, l3, c3, rfl, ?_, hbel.trans (hb3.mono hbel.size)⟩
      rw [trim_eq HF.out.1, HF.out.2] at hs3
      exact hs3
end Go.Proofs.YtfjnplhhgdfepaaGreatDoor

/- The reference's made. -/
namespace Go.Proofs.YtfjnplhhgdfepaaGreatDoor
open Go.RowKit

set_option maxRecDepth 100000 in
set_option maxHeartbeats 2000000 in
theorem made_any (neg : Bool) (ao : Option Addr) (len cap : Nat) (xs : List Int) (w : World) (hs : Sl w ao len cap xs) (dx : Dig xs) (hm : len ≤ 1000000) :
    Calls Tryz.prog 99 #[.bool neg, .slice ao len cap] w (RetE (fitR (num neg (val xs))).1 (fitR (num neg (val xs))).2 w) := by
  have hv := val_nonneg dx
  have hsh := fun w hs => shorn_any ao len cap xs w hs hm
  have ht : trim xs = parts (num neg (val xs)).natAbs := by rw [trim_eq dx, num_natAbs neg hv]
  have hd := num_neg neg hv
  have hpos : decide (0 < (trim xs).length) = decide (0 < val xs) := by
    rw [trim_eq dx]
    have := parts_nil_iff (val xs).toNat
    by_cases h : 0 < val xs
    · have h2 : parts (val xs).toNat ≠ [] := fun e => by have := this.1 e; omega
      have h3 := List.length_pos_iff.2 h2
      simp [h, h3]
    · have h2 : parts (val xs).toNat = [] := this.2 (by omega)
      simp [h, h2]
  generalize num neg (val xs) = z at *
  by_cases hl : Lim z
  · rw [fitR_ok hl]
    have hq : ¬ (40 : Int) < ((trim xs).length : Int) := by
      have := hl; unfold Lim at this; rw [ht]; omega
    have Hz := Lib.hid (show (neg && decide (0 < (trim xs).length)) = decide (z < 0) by rw [hpos, hd])
    have HT := Lib.hid ht
    have Hsh := Lib.hid hsh
    clear hsh ht hd hpos hl hv
    go_enter Tryz.func99, Tryz.ntmps99
    go_wp2_with fail
    refine (Hsh.out _ (hs.alloc _)).mono ?_
    rintro e w1 ⟨a1, l1, c1, rfl, s1, b1⟩
    have hl1 := s1.length
    obtain ⟨hR, hzz, hbb⟩ := kept1 _ _ b1
    obtain ⟨f1, f2, f3, f4, f5⟩ := box2 hR
    subst hl1
    clear hR b1
    cases neg
    · go_wp2
      refine bodyPost_ret (v := .tuple #[.agg #[.bool false, .slice a1 (trim xs).length c1], .int .i64 0]) (by simp [results, Tryz.results99, go_sem, f1, f2]) rfl ?_
      exact ⟨a1, _, c1, by rw [← Hz.out]; rfl, by rw [← HT.out]; exact s1.store2 f1 f2 _ _, (hbb.setCell (Nat.le_refl _) _).setCell (Nat.le_refl _) _⟩
    · go_wp2
      refine bodyPost_ret (v := .tuple #[.agg #[.bool (decide (0 < (trim xs).length)), .slice a1 (trim xs).length c1], .int .i64 0]) (by simp [results, Tryz.results99, go_sem, f1, f2]) rfl ?_
      exact ⟨a1, _, c1, by rw [← Hz.out]; rfl, by rw [← HT.out]; exact s1.store2 f1 f2 _ _, (hbb.setCell (Nat.le_refl _) _).setCell (Nat.le_refl _) _⟩
  · rw [fitR_no hl]
    have hq : (40 : Int) < ((trim xs).length : Int) := by
      have := hl; unfold Lim at this; rw [ht]; omega
    have Hsh := Lib.hid hsh
    clear hsh ht hd hpos hl hv
    go_enter Tryz.func99, Tryz.ntmps99
    go_wp2_with fail
    refine (Hsh.out _ (hs.alloc _)).mono ?_
    rintro e w1 ⟨a1, l1, c1, rfl, s1, b1⟩
    have hl1 := s1.length
    obtain ⟨hR, hzz, hbb⟩ := kept1 _ _ b1
    obtain ⟨f1, f2, f3, f4, f5⟩ := box2 hR
    subst hl1
    clear hR b1
    go_wp2
    refine bodyPost_ret (v := .tuple #[.agg #[.bool false, .slice none 0 0], .int .i64 2]) (by simp [results, Tryz.results99, go_sem, f1, f2]) rfl ?_
    exact ⟨none, 0, 0, rfl, by rw [show (0 : Int).natAbs = 0 from rfl, parts_zero]; exact Sl.nil _, (hbb.setCell (Nat.le_refl _) _).setCell (Nat.le_refl _) _⟩
end Go.Proofs.YtfjnplhhgdfepaaGreatDoor

/- The reference's Are. -/
namespace Go.Proofs.YtfjnplhhgdfepaaGreatDoor
open Go.RowKit

set_option maxRecDepth 100000 in
set_option maxHeartbeats 1000000 in
theorem are_any (n1 : Bool) (ax : Option Addr) (la ca : Nat) (xs : List Int) (n2 : Bool) (ay : Option Addr) (lb cb : Nat) (ys : List Int) (w : World) (hx : Sl w ax la ca xs) (hy : Sl w ay lb cb ys) :
    Calls Tryz.prog 98 #[.agg #[.bool n1, .slice ax la ca], .agg #[.bool n2, .slice ay lb cb]] w (RetBool (okInt n1 xs && okInt n2 ys) w) := by
  have h1 := fun w h => is_any n1 ax la ca xs w h
  have h2 := fun w h => is_any n2 ay lb cb ys w h
  generalize okInt n1 xs = r1 at *
  generalize okInt n2 ys = r2 at *
  have H1 := Lib.hid h1
  have H2 := Lib.hid h2
  clear h1 h2
  go_enter Tryz.func98, Tryz.ntmps98
  go_wp2_with fail
  have Ta := BoxI.new w w.heap.size rfl n1 ax la ca
  have Tb := BoxI.new (w.alloc (.cells #[.bool n1, .slice ax la ca] 24)) (w.heap.size + 1) (by simp) n2 ay lb cb
  replace Ta := Ta.alloc (.cells #[.bool n2, .slice ay lb cb] 24)
  refine (H1.out _ ((hx.alloc _).alloc _)).mono ?_
  rintro e w1 ⟨rfl, b1⟩
  have hy1 := ((hy.alloc (.cells #[.bool n1, .slice ax la ca] 24)).alloc (.cells #[.bool n2, .slice ay lb cb] 24)).below b1
  replace Tb := Tb.below b1
  have c0 := Tb.cells.1
  have c1 := Tb.cells.2
  have z1 := Tb.lt
  have hbb := (below2 w _ _).trans (b1.mono (by simp; omega))
  clear b1 Ta
  go_wp2_with fail
  refine (H2.out _ hy1).mono ?_
  rintro e w2 ⟨rfl, b2⟩
  cases r1
  · go_wp2
    go_ret
    exact ⟨rfl, hbb.trans (b2.mono hbb.size)⟩
  · go_wp2
    go_ret
    exact ⟨rfl, hbb.trans (b2.mono hbb.size)⟩
end Go.Proofs.YtfjnplhhgdfepaaGreatDoor

/- The reference's Mul, Add and Sub of two integers. -/
namespace Go.Proofs.YtfjnplhhgdfepaaGreatDoor
open Go.RowKit

theorem BoxI.set2 {w : World} {a g : Nat} {n : Bool} {ao : Option Addr} {l c : Nat} (h : BoxI w a n ao l c) (hne : a ≠ g) (u v : Value) : BoxI ((w.setCell ⟨g, 0, none⟩ u).setCell ⟨g, 1, none⟩ v) a n ao l c := (heap_set2_ne hne).trans h

set_option maxRecDepth 100000 in
set_option maxHeartbeats 4000000 in
theorem refMul_ok (x y : Int) (hlx : Lim x) (hly : Lim y) (ax : Option Addr) (la ca : Nat) (ay : Option Addr) (lb cb : Nat) (w : World) (hx : Sl w ax la ca (parts x.natAbs)) (hy : Sl w ay lb cb (parts y.natAbs)) :
    Calls Tryz.prog 49 #[.agg #[.bool (decide (x < 0)), .slice ax la ca], .agg #[.bool (decide (y < 0)), .slice ay lb cb]] w (RetE (fitR (x * y)).1 (fitR (x * y)).2 w) := by
  have hok := two_ok ⟨hlx, hly, rfl, rfl, rfl, rfl⟩
  have h1 : la ≤ 40 := by have := hlx; unfold Lim at this; rwa [hx.length] at this
  have h2 : lb ≤ 40 := by have := hly; unfold Lim at this; rwa [hy.length] at this
  have hA := fun w hx hy => are_any (decide (x < 0)) ax la ca (parts x.natAbs) (decide (y < 0)) ay lb cb (parts y.natAbs) w hx hy
  rw [hok] at hA
  have hT := fun w hx hy => refTimes_any ax la ca (parts x.natAbs) ay lb cb (parts y.natAbs) w hx hy (parts_dig _) (parts_dig _) (by omega) (by omega)
  have e1 : parts (val (parts x.natAbs) * val (parts y.natAbs)).toNat = parts (x.natAbs * y.natAbs) := by
    rw [val_parts, val_parts, show ((x.natAbs : Int) * (y.natAbs : Int)).toNat = x.natAbs * y.natAbs from by rw [← Int.natCast_mul]; exact Int.toNat_natCast _]
  rw [e1] at hT
  have hM := fun ao len cap w hs hm => made_any (!(decide (x < 0) == decide (y < 0))) ao len cap (parts (x.natAbs * y.natAbs)) w hs (parts_dig _) hm
  rw [num_mul x y] at hM
  have hlen : (parts (x.natAbs * y.natAbs)).length ≤ 80 := by
    rw [parts_len]
    have := (lim_iff x).1 hlx; have := (lim_iff y).1 hly
    rw [show (80 : Nat) = 40 + 40 from rfl, Nat.pow_add]
    exact Nat.mul_lt_mul'' (by assumption) (by assumption)
  generalize parts (x.natAbs * y.natAbs) = ps at *
  generalize (fitR (x * y)).1 = z at *
  generalize (fitR (x * y)).2 = er at *
  generalize hsx : decide (x < 0) = sx at *
  generalize hsy : decide (y < 0) = sy at *
  have HA := Lib.hid hA; have HT := Lib.hid hT; have HM := Lib.hid hM
  have Hlen := Lib.hid hlen
  clear hA hT hM e1 hsx hsy hok hlx hly hlen
  go_enter Tryz.func49, Tryz.ntmps49
  go_wp2_with fail
  refine (HA.out _ (((hx.alloc _).alloc _).alloc _) (((hy.alloc _).alloc _).alloc _)).mono ?_
  rintro e w1 ⟨rfl, b1⟩
  obtain ⟨Ta, Tb, Tr, hz, hbb⟩ := kept3 _ _ _ _ b1
  have sx1 := (((hx.alloc (.cells #[.bool sx, .slice ax la ca] 24)).alloc (.cells #[.bool sy, .slice ay lb cb] 24)).alloc (.cells #[.bool false, .slice none 0 0] 24)).below b1
  have sy1 := (((hy.alloc (.cells #[.bool sx, .slice ax la ca] 24)).alloc (.cells #[.bool sy, .slice ay lb cb] 24)).alloc (.cells #[.bool false, .slice none 0 0] 24)).below b1
  replace Ta : BoxI w1.drew w.heap.size sx ax la ca := Ta
  replace Tb : BoxI w1.drew (w.heap.size + 1) sy ay lb cb := Tb
  replace Tr : BoxI w1.drew (w.heap.size + 1 + 1) false none 0 0 := Tr
  replace hbb := hbb.drew
  replace sx1 := sx1.drew
  replace sy1 := sy1.drew
  clear b1 hx hy hz
  have ca0 := Ta.cells.1; have ca1 := Ta.cells.2; have cb0 := Tb.cells.1; have cb1 := Tb.cells.2
  have cr0 := Tr.cells.1; have cr1 := Tr.cells.2; have fr0 := Tr.froz.1; have fr1 := Tr.froz.2; have zr := Tr.lt
  go_wp2
  go_region_held3 (fun w' => w'.cell? ⟨w.heap.size, 0, none⟩ = some (.bool sx) ∧ w'.cell? ⟨w.heap.size, 1, none⟩ = some (.slice ax la ca) ∧ w'.cell? ⟨w.heap.size + 1, 0, none⟩ = some (.bool sy) ∧ w'.cell? ⟨w.heap.size + 1, 1, none⟩ = some (.slice ay lb cb)) (first | with_reducible exact ⟨ca0, ca1, cb0, cb1⟩ | with_reducible exact ⟨(Ta.set2 (by omega) _ _).cells.1, (Ta.set2 (by omega) _ _).cells.2, (Tb.set2 (by omega) _ _).cells.1, (Tb.set2 (by omega) _ _).cells.2⟩) (first | (go_at_call 91; (with_reducible refine (HT.out _ sx1 sy1).mono ?_); rintro e wq ⟨ap, lp, cp, rfl, sp, bq⟩; replace Ta := Ta.below bq; replace Tb := Tb.below bq; replace Tr := Tr.below bq; replace hbb := hbb.trans (bq.mono hbb.size); replace ca0 := Ta.cells.1; replace ca1 := Ta.cells.2; replace cb0 := Tb.cells.1; replace cb1 := Tb.cells.2; replace cr0 := Tr.cells.1; replace cr1 := Tr.cells.2; replace fr0 := Tr.froz.1; replace fr1 := Tr.froz.2; replace zr := Tr.lt; have hlp := sp.length; clear bq) | (go_at_call 99; (with_reducible refine (HM.out _ _ _ _ sp (by have := Hlen.out; omega)).mono ?_); rintro e wq ⟨az, lz, cz, rfl, sz, bq⟩; replace Ta := Ta.below bq; replace Tb := Tb.below bq; replace Tr := Tr.below bq; replace hbb := hbb.trans (bq.mono hbb.size); replace ca0 := Ta.cells.1; replace ca1 := Ta.cells.2; replace cb0 := Tb.cells.1; replace cb1 := Tb.cells.2; replace cr0 := Tr.cells.1; replace cr1 := Tr.cells.2; replace fr0 := Tr.froz.1; replace fr1 := Tr.froz.2; replace zr := Tr.lt; clear bq))
  all_goals go_wp2
  all_goals (refine bodyPost_ret (v := .tuple #[.agg #[.bool (decide (z < 0)), .slice az lz cz], .int .i64 er]) (by simp [results, Tryz.results49, go_sem, cr0, cr1]) rfl ?_)
  all_goals exact ⟨az, lz, cz, rfl, sz.store2 cr0 cr1 _ _, (hbb.setCell (by simp; omega) _).setCell (by simp; omega) _⟩
end Go.Proofs.YtfjnplhhgdfepaaGreatDoor

/- The reference's Add of two integers. -/
namespace Go.Proofs.YtfjnplhhgdfepaaGreatDoor
open Go.RowKit

set_option maxRecDepth 100000 in
set_option maxHeartbeats 4000000 in
theorem refAdd_same (x y : Int) (hlx : Lim x) (hly : Lim y) (ax : Option Addr) (la ca : Nat) (ay : Option Addr) (lb cb : Nat) (w : World) (hx : Sl w ax la ca (parts x.natAbs)) (hy : Sl w ay lb cb (parts y.natAbs)) (hs : decide (x < 0) = decide (y < 0)) :
    Calls Tryz.prog 45 #[.agg #[.bool (decide (x < 0)), .slice ax la ca], .agg #[.bool (decide (y < 0)), .slice ay lb cb]] w (RetE (fitR (x + y)).1 (fitR (x + y)).2 w) := by
  have hok := two_ok ⟨hlx, hly, rfl, rfl, rfl, rfl⟩
  have h1 : la ≤ 40 := by have := hlx; unfold Lim at this; rwa [hx.length] at this
  have h2 : lb ≤ 40 := by have := hly; unfold Lim at this; rwa [hy.length] at this
  have hA := fun w hx hy => are_any (decide (x < 0)) ax la ca (parts x.natAbs) (decide (y < 0)) ay lb cb (parts y.natAbs) w hx hy
  rw [hok] at hA
  have hT := fun w hx hy => refSum_any ax la ca (parts x.natAbs) ay lb cb (parts y.natAbs) w hx hy (parts_dig _) (parts_dig _) (by omega) (by omega)
  have e1 : parts (val (parts x.natAbs) + val (parts y.natAbs)).toNat = parts (x.natAbs + y.natAbs) := by
    rw [val_parts, val_parts]; congr 1
  have e2 := num_add x y hs
  have hlen : (parts (x.natAbs + y.natAbs)).length ≤ 80 := by
    rw [parts_len]
    have := (lim_iff x).1 hlx; have := (lim_iff y).1 hly
    have : (1000000000 : Nat) ^ 80 = 1000000000 ^ 40 * 1000000000 ^ 40 := by rw [← Nat.pow_add]
    have h2 : 2 * 1000000000 ^ 40 ≤ 1000000000 ^ 40 * 1000000000 ^ 40 := Nat.mul_le_mul_right _ (by decide +kernel)
    omega
  have qs : (decide (x < 0) == decide (y < 0)) = true := by rw [hs]; simp
  rw [e1] at hT
  have hM := fun ao len cap w hs hm => made_any (decide (x < 0)) ao len cap (parts (x.natAbs + y.natAbs)) w hs (parts_dig _) hm
  rw [e2] at hM
  generalize parts (x.natAbs + y.natAbs) = ps at *
  generalize (fitR (x + y)).1 = z at *
  generalize (fitR (x + y)).2 = er at *
  generalize parts x.natAbs = px at *
  generalize parts y.natAbs = py at *
  clear hs e2
  generalize decide (x < 0) = sx at *
  generalize decide (y < 0) = sy at *
  have HA := Lib.hid hA; have HT := Lib.hid hT; have HM := Lib.hid hM
  have Hlen := Lib.hid hlen
  clear hA hT hM e1 hok hlx hly hlen
  go_enter Tryz.func45, Tryz.ntmps45
  go_wp2_with fail
  refine (HA.out _ (((hx.alloc _).alloc _).alloc _) (((hy.alloc _).alloc _).alloc _)).mono ?_
  rintro e w1 ⟨rfl, b1⟩
  obtain ⟨Ta, Tb, Tr, hz, hbb⟩ := kept3 _ _ _ _ b1
  have sx1 := (((hx.alloc (.cells #[.bool sx, .slice ax la ca] 24)).alloc (.cells #[.bool sy, .slice ay lb cb] 24)).alloc (.cells #[.bool false, .slice none 0 0] 24)).below b1
  have sy1 := (((hy.alloc (.cells #[.bool sx, .slice ax la ca] 24)).alloc (.cells #[.bool sy, .slice ay lb cb] 24)).alloc (.cells #[.bool false, .slice none 0 0] 24)).below b1
  replace Ta : BoxI w1 w.heap.size sx ax la ca := Ta
  replace Tb : BoxI w1 (w.heap.size + 1) sy ay lb cb := Tb
  replace Tr : BoxI w1 (w.heap.size + 1 + 1) false none 0 0 := Tr
  clear b1 hx hy hz
  have ca0 := Ta.cells.1; have ca1 := Ta.cells.2; have cb0 := Tb.cells.1; have cb1 := Tb.cells.2; have cr0 := Tr.cells.1; have cr1 := Tr.cells.2; have fr0 := Tr.froz.1; have fr1 := Tr.froz.2; have zr := Tr.lt
  replace Ta : BoxI w1.drew w.heap.size sx ax la ca := Ta
  replace Tb : BoxI w1.drew (w.heap.size + 1) sy ay lb cb := Tb
  replace Tr : BoxI w1.drew (w.heap.size + 1 + 1) false none 0 0 := Tr
  have sx2 := sx1.drew
  have sy2 := sy1.drew
  have hbd := hbb.drew
  go_wp2
  clear sx1 sy1 hbb
  have hbb := hbd
  clear hbd
  replace ca0 := Ta.cells.1; replace ca1 := Ta.cells.2; replace cb0 := Tb.cells.1; replace cb1 := Tb.cells.2; replace cr0 := Tr.cells.1; replace cr1 := Tr.cells.2; replace fr0 := Tr.froz.1; replace fr1 := Tr.froz.2; replace zr := Tr.lt
  go_region_held3 (fun w' => w'.cell? ⟨w.heap.size, 0, none⟩ = some (.bool sx) ∧ w'.cell? ⟨w.heap.size, 1, none⟩ = some (.slice ax la ca) ∧ w'.cell? ⟨w.heap.size + 1, 0, none⟩ = some (.bool sy) ∧ w'.cell? ⟨w.heap.size + 1, 1, none⟩ = some (.slice ay lb cb)) (first | with_reducible exact ⟨ca0, ca1, cb0, cb1⟩ | with_reducible exact ⟨(Ta.set2 (by omega) _ _).cells.1, (Ta.set2 (by omega) _ _).cells.2, (Tb.set2 (by omega) _ _).cells.1, (Tb.set2 (by omega) _ _).cells.2⟩) (first | (go_at_call 90; (with_reducible refine (HT.out _ sx2 sy2).mono ?_); rintro e wq ⟨ap, lp, cp, rfl, sp, bq⟩; replace Ta := Ta.below bq; replace Tb := Tb.below bq; replace Tr := Tr.below bq; replace hbb := hbb.trans (bq.mono hbb.size); replace ca0 := Ta.cells.1; replace ca1 := Ta.cells.2; replace cb0 := Tb.cells.1; replace cb1 := Tb.cells.2; replace cr0 := Tr.cells.1; replace cr1 := Tr.cells.2; replace fr0 := Tr.froz.1; replace fr1 := Tr.froz.2; replace zr := Tr.lt; have hlp := sp.length; clear bq) | (go_at_call 99; (with_reducible refine (HM.out _ _ _ _ sp (by have := Hlen.out; omega)).mono ?_); rintro e wq ⟨az, lz, cz, rfl, sz, bq⟩; replace Ta := Ta.below bq; replace Tb := Tb.below bq; replace Tr := Tr.below bq; replace hbb := hbb.trans (bq.mono hbb.size); replace ca0 := Ta.cells.1; replace ca1 := Ta.cells.2; replace cb0 := Tb.cells.1; replace cb1 := Tb.cells.2; replace cr0 := Tr.cells.1; replace cr1 := Tr.cells.2; replace fr0 := Tr.froz.1; replace fr1 := Tr.froz.2; replace zr := Tr.lt; clear bq))
  all_goals go_wp2
  all_goals (refine bodyPost_ret (v := .tuple #[.agg #[.bool (decide (z < 0)), .slice az lz cz], .int .i64 er]) (by simp [results, Tryz.results45, go_sem, cr0, cr1]) rfl ?_)
  all_goals exact ⟨az, lz, cz, rfl, sz.store2 cr0 cr1 _ _, (hbb.setCell (by simp; omega) _).setCell (by simp; omega) _⟩

set_option maxRecDepth 100000 in
set_option maxHeartbeats 4000000 in
theorem refAdd_big (x y : Int) (hlx : Lim x) (hly : Lim y) (ax : Option Addr) (la ca : Nat) (ay : Option Addr) (lb cb : Nat) (w : World) (hx : Sl w ax la ca (parts x.natAbs)) (hy : Sl w ay lb cb (parts y.natAbs)) (hs : decide (x < 0) ≠ decide (y < 0)) (hle : y.natAbs ≤ x.natAbs) :
    Calls Tryz.prog 45 #[.agg #[.bool (decide (x < 0)), .slice ax la ca], .agg #[.bool (decide (y < 0)), .slice ay lb cb]] w (RetE (fitR (x + y)).1 (fitR (x + y)).2 w) := by
  have hok := two_ok ⟨hlx, hly, rfl, rfl, rfl, rfl⟩
  have h1 : la ≤ 40 := by have := hlx; unfold Lim at this; rwa [hx.length] at this
  have h2 : lb ≤ 40 := by have := hly; unfold Lim at this; rwa [hy.length] at this
  have hA := fun w hx hy => are_any (decide (x < 0)) ax la ca (parts x.natAbs) (decide (y < 0)) ay lb cb (parts y.natAbs) w hx hy
  rw [hok] at hA
  have hll : lb ≤ la := by
    rw [← hx.length, ← hy.length, parts_len]
    exact Nat.lt_of_le_of_lt hle ((parts_len _ _).1 (Nat.le_refl _))
  have hT := fun w hx hy => refLess_any ax la ca (parts x.natAbs) ay lb cb (parts y.natAbs) w hx hy (parts_dig _) (parts_dig _) (by omega) hll (by rw [val_parts, val_parts]; omega)
  have e1 : parts (val (parts x.natAbs) - val (parts y.natAbs)).toNat = parts (x.natAbs - y.natAbs) := by
    rw [val_parts, val_parts]; congr 1; omega
  have e2 := num_sub x y hs hle
  have hlen : (parts (x.natAbs - y.natAbs)).length ≤ 80 := by
    rw [parts_len]
    have := (lim_iff x).1 hlx
    have : (1000000000 : Nat) ^ 40 ≤ 1000000000 ^ 80 := Nat.pow_le_pow_right (by omega) (by omega)
    omega
  have qs : (decide (x < 0) == decide (y < 0)) = false := by simpa using hs
  rw [e1] at hT
  have hM := fun ao len cap w hs hm => made_any (decide (x < 0)) ao len cap (parts (x.natAbs - y.natAbs)) w hs (parts_dig _) hm
  rw [e2] at hM
  have hS := fun w hx hy => size_below ax la ca (parts x.natAbs) ay lb cb (parts y.natAbs) w hx hy
  rw [cmpL_parts] at hS
  have hsv : decide ((0 : Int) ≤ cmp3 (x.natAbs : Int) (y.natAbs : Int)) = true := by
    refine decide_eq_true ?_
    unfold cmp3
    rw [if_neg (by omega)]; split <;> omega
  generalize cmp3 (x.natAbs : Int) (y.natAbs : Int) = sv at *
  have HS := Lib.hid hS
  clear hS
  generalize parts (x.natAbs - y.natAbs) = ps at *
  generalize (fitR (x + y)).1 = z at *
  generalize (fitR (x + y)).2 = er at *
  generalize parts x.natAbs = px at *
  generalize parts y.natAbs = py at *
  clear hs e2 hle hll
  generalize decide (x < 0) = sx at *
  generalize decide (y < 0) = sy at *
  have HA := Lib.hid hA; have HT := Lib.hid hT; have HM := Lib.hid hM
  have Hlen := Lib.hid hlen
  clear hA hT hM e1 hok hlx hly hlen
  go_enter Tryz.func45, Tryz.ntmps45
  go_wp2_with fail
  refine (HA.out _ (((hx.alloc _).alloc _).alloc _) (((hy.alloc _).alloc _).alloc _)).mono ?_
  rintro e w1 ⟨rfl, b1⟩
  obtain ⟨Ta, Tb, Tr, hz, hbb⟩ := kept3 _ _ _ _ b1
  have sx1 := (((hx.alloc (.cells #[.bool sx, .slice ax la ca] 24)).alloc (.cells #[.bool sy, .slice ay lb cb] 24)).alloc (.cells #[.bool false, .slice none 0 0] 24)).below b1
  have sy1 := (((hy.alloc (.cells #[.bool sx, .slice ax la ca] 24)).alloc (.cells #[.bool sy, .slice ay lb cb] 24)).alloc (.cells #[.bool false, .slice none 0 0] 24)).below b1
  replace Ta : BoxI w1 w.heap.size sx ax la ca := Ta
  replace Tb : BoxI w1 (w.heap.size + 1) sy ay lb cb := Tb
  replace Tr : BoxI w1 (w.heap.size + 1 + 1) false none 0 0 := Tr
  clear b1 hx hy hz
  have ca0 := Ta.cells.1; have ca1 := Ta.cells.2; have cb0 := Tb.cells.1; have cb1 := Tb.cells.2; have cr0 := Tr.cells.1; have cr1 := Tr.cells.2; have fr0 := Tr.froz.1; have fr1 := Tr.froz.2; have zr := Tr.lt
  go_wp2_with fail
  (with_reducible refine (HS.out _ sx1 sy1).mono ?_)
  rintro e w2 ⟨rfl, bq⟩
  replace sx1 := sx1.below bq
  replace sy1 := sy1.below bq
  replace Ta := Ta.below bq; replace Tb := Tb.below bq; replace Tr := Tr.below bq; replace hbb := hbb.trans (bq.mono hbb.size); replace ca0 := Ta.cells.1; replace ca1 := Ta.cells.2; replace cb0 := Tb.cells.1; replace cb1 := Tb.cells.2; replace cr0 := Tr.cells.1; replace cr1 := Tr.cells.2; replace fr0 := Tr.froz.1; replace fr1 := Tr.froz.2; replace zr := Tr.lt
  clear bq
  replace Ta : BoxI w2.drew w.heap.size sx ax la ca := Ta
  replace Tb : BoxI w2.drew (w.heap.size + 1) sy ay lb cb := Tb
  replace Tr : BoxI w2.drew (w.heap.size + 1 + 1) false none 0 0 := Tr
  have sx2 := sx1.drew
  have sy2 := sy1.drew
  have hbd := hbb.drew
  go_wp2
  clear sx1 sy1 hbb
  have hbb := hbd
  clear hbd
  replace ca0 := Ta.cells.1; replace ca1 := Ta.cells.2; replace cb0 := Tb.cells.1; replace cb1 := Tb.cells.2; replace cr0 := Tr.cells.1; replace cr1 := Tr.cells.2; replace fr0 := Tr.froz.1; replace fr1 := Tr.froz.2; replace zr := Tr.lt
  go_region_held3 (fun w' => w'.cell? ⟨w.heap.size, 0, none⟩ = some (.bool sx) ∧ w'.cell? ⟨w.heap.size, 1, none⟩ = some (.slice ax la ca) ∧ w'.cell? ⟨w.heap.size + 1, 0, none⟩ = some (.bool sy) ∧ w'.cell? ⟨w.heap.size + 1, 1, none⟩ = some (.slice ay lb cb)) (first | with_reducible exact ⟨ca0, ca1, cb0, cb1⟩ | with_reducible exact ⟨(Ta.set2 (by omega) _ _).cells.1, (Ta.set2 (by omega) _ _).cells.2, (Tb.set2 (by omega) _ _).cells.1, (Tb.set2 (by omega) _ _).cells.2⟩) (first | (go_at_call 100; (with_reducible refine (HT.out _ sx2 sy2).mono ?_); rintro e wq ⟨ap, lp, cp, rfl, sp, bq⟩; replace Ta := Ta.below bq; replace Tb := Tb.below bq; replace Tr := Tr.below bq; replace hbb := hbb.trans (bq.mono hbb.size); replace ca0 := Ta.cells.1; replace ca1 := Ta.cells.2; replace cb0 := Tb.cells.1; replace cb1 := Tb.cells.2; replace cr0 := Tr.cells.1; replace cr1 := Tr.cells.2; replace fr0 := Tr.froz.1; replace fr1 := Tr.froz.2; replace zr := Tr.lt; have hlp := sp.length; clear bq) | (go_at_call 99; (with_reducible refine (HM.out _ _ _ _ sp (by have := Hlen.out; omega)).mono ?_); rintro e wq ⟨az, lz, cz, rfl, sz, bq⟩; replace Ta := Ta.below bq; replace Tb := Tb.below bq; replace Tr := Tr.below bq; replace hbb := hbb.trans (bq.mono hbb.size); replace ca0 := Ta.cells.1; replace ca1 := Ta.cells.2; replace cb0 := Tb.cells.1; replace cb1 := Tb.cells.2; replace cr0 := Tr.cells.1; replace cr1 := Tr.cells.2; replace fr0 := Tr.froz.1; replace fr1 := Tr.froz.2; replace zr := Tr.lt; clear bq))
  all_goals go_wp2
  all_goals (refine bodyPost_ret (v := .tuple #[.agg #[.bool (decide (z < 0)), .slice az lz cz], .int .i64 er]) (by simp [results, Tryz.results45, go_sem, cr0, cr1]) rfl ?_)
  all_goals exact ⟨az, lz, cz, rfl, sz.store2 cr0 cr1 _ _, (hbb.setCell (by simp; omega) _).setCell (by simp; omega) _⟩

set_option maxRecDepth 100000 in
set_option maxHeartbeats 4000000 in
theorem refAdd_less (x y : Int) (hlx : Lim x) (hly : Lim y) (ax : Option Addr) (la ca : Nat) (ay : Option Addr) (lb cb : Nat) (w : World) (hx : Sl w ax la ca (parts x.natAbs)) (hy : Sl w ay lb cb (parts y.natAbs)) (hs : decide (x < 0) ≠ decide (y < 0)) (hle : x.natAbs < y.natAbs) :
    Calls Tryz.prog 45 #[.agg #[.bool (decide (x < 0)), .slice ax la ca], .agg #[.bool (decide (y < 0)), .slice ay lb cb]] w (RetE (fitR (x + y)).1 (fitR (x + y)).2 w) := by
  have hok := two_ok ⟨hlx, hly, rfl, rfl, rfl, rfl⟩
  have h1 : la ≤ 40 := by have := hlx; unfold Lim at this; rwa [hx.length] at this
  have h2 : lb ≤ 40 := by have := hly; unfold Lim at this; rwa [hy.length] at this
  have hA := fun w hx hy => are_any (decide (x < 0)) ax la ca (parts x.natAbs) (decide (y < 0)) ay lb cb (parts y.natAbs) w hx hy
  rw [hok] at hA
  have hll : la ≤ lb := by
    rw [← hx.length, ← hy.length, parts_len]
    exact Nat.lt_trans hle ((parts_len _ _).1 (Nat.le_refl _))
  have hT := fun w hx hy => refLess_any ay lb cb (parts y.natAbs) ax la ca (parts x.natAbs) w hy hx (parts_dig _) (parts_dig _) (by omega) hll (by rw [val_parts, val_parts]; omega)
  have e1 : parts (val (parts y.natAbs) - val (parts x.natAbs)).toNat = parts (y.natAbs - x.natAbs) := by
    rw [val_parts, val_parts]; congr 1; omega
  have e2 : num (decide (y < 0)) (val (parts (y.natAbs - x.natAbs))) = x + y := by rw [Int.add_comm]; exact num_sub y x (fun e => hs e.symm) (by omega)
  have hlen : (parts (y.natAbs - x.natAbs)).length ≤ 80 := by
    rw [parts_len]
    have := (lim_iff y).1 hly
    have : (1000000000 : Nat) ^ 40 ≤ 1000000000 ^ 80 := Nat.pow_le_pow_right (by omega) (by omega)
    omega
  have qs : (decide (x < 0) == decide (y < 0)) = false := by simpa using hs
  rw [e1] at hT
  have hM := fun ao len cap w hs hm => made_any (decide (y < 0)) ao len cap (parts (y.natAbs - x.natAbs)) w hs (parts_dig _) hm
  rw [e2] at hM
  have hS := fun w hx hy => size_below ax la ca (parts x.natAbs) ay lb cb (parts y.natAbs) w hx hy
  rw [cmpL_parts] at hS
  have hsv : decide ((0 : Int) ≤ cmp3 (x.natAbs : Int) (y.natAbs : Int)) = false := by
    refine decide_eq_false ?_
    unfold cmp3
    rw [if_pos (by omega)]; omega
  generalize cmp3 (x.natAbs : Int) (y.natAbs : Int) = sv at *
  have HS := Lib.hid hS
  clear hS
  generalize parts (y.natAbs - x.natAbs) = ps at *
  generalize (fitR (x + y)).1 = z at *
  generalize (fitR (x + y)).2 = er at *
  generalize parts x.natAbs = px at *
  generalize parts y.natAbs = py at *
  clear hs e2 hle hll
  generalize decide (x < 0) = sx at *
  generalize decide (y < 0) = sy at *
  have HA := Lib.hid hA; have HT := Lib.hid hT; have HM := Lib.hid hM
  have Hlen := Lib.hid hlen
  clear hA hT hM e1 hok hlx hly hlen
  go_enter Tryz.func45, Tryz.ntmps45
  go_wp2_with fail
  refine (HA.out _ (((hx.alloc _).alloc _).alloc _) (((hy.alloc _).alloc _).alloc _)).mono ?_
  rintro e w1 ⟨rfl, b1⟩
  obtain ⟨Ta, Tb, Tr, hz, hbb⟩ := kept3 _ _ _ _ b1
  have sx1 := (((hx.alloc (.cells #[.bool sx, .slice ax la ca] 24)).alloc (.cells #[.bool sy, .slice ay lb cb] 24)).alloc (.cells #[.bool false, .slice none 0 0] 24)).below b1
  have sy1 := (((hy.alloc (.cells #[.bool sx, .slice ax la ca] 24)).alloc (.cells #[.bool sy, .slice ay lb cb] 24)).alloc (.cells #[.bool false, .slice none 0 0] 24)).below b1
  replace Ta : BoxI w1 w.heap.size sx ax la ca := Ta
  replace Tb : BoxI w1 (w.heap.size + 1) sy ay lb cb := Tb
  replace Tr : BoxI w1 (w.heap.size + 1 + 1) false none 0 0 := Tr
  clear b1 hx hy hz
  have ca0 := Ta.cells.1; have ca1 := Ta.cells.2; have cb0 := Tb.cells.1; have cb1 := Tb.cells.2; have cr0 := Tr.cells.1; have cr1 := Tr.cells.2; have fr0 := Tr.froz.1; have fr1 := Tr.froz.2; have zr := Tr.lt
  go_wp2_with fail
  (with_reducible refine (HS.out _ sx1 sy1).mono ?_)
  rintro e w2 ⟨rfl, bq⟩
  replace sx1 := sx1.below bq
  replace sy1 := sy1.below bq
  replace Ta := Ta.below bq; replace Tb := Tb.below bq; replace Tr := Tr.below bq; replace hbb := hbb.trans (bq.mono hbb.size); replace ca0 := Ta.cells.1; replace ca1 := Ta.cells.2; replace cb0 := Tb.cells.1; replace cb1 := Tb.cells.2; replace cr0 := Tr.cells.1; replace cr1 := Tr.cells.2; replace fr0 := Tr.froz.1; replace fr1 := Tr.froz.2; replace zr := Tr.lt
  clear bq
  replace Ta : BoxI w2.drew w.heap.size sx ax la ca := Ta
  replace Tb : BoxI w2.drew (w.heap.size + 1) sy ay lb cb := Tb
  replace Tr : BoxI w2.drew (w.heap.size + 1 + 1) false none 0 0 := Tr
  have sx2 := sx1.drew
  have sy2 := sy1.drew
  have hbd := hbb.drew
  go_wp2
  clear sx1 sy1 hbb
  have hbb := hbd
  clear hbd
  replace ca0 := Ta.cells.1; replace ca1 := Ta.cells.2; replace cb0 := Tb.cells.1; replace cb1 := Tb.cells.2; replace cr0 := Tr.cells.1; replace cr1 := Tr.cells.2; replace fr0 := Tr.froz.1; replace fr1 := Tr.froz.2; replace zr := Tr.lt
  go_region_held3 (fun w' => w'.cell? ⟨w.heap.size, 0, none⟩ = some (.bool sx) ∧ w'.cell? ⟨w.heap.size, 1, none⟩ = some (.slice ax la ca) ∧ w'.cell? ⟨w.heap.size + 1, 0, none⟩ = some (.bool sy) ∧ w'.cell? ⟨w.heap.size + 1, 1, none⟩ = some (.slice ay lb cb)) (first | with_reducible exact ⟨ca0, ca1, cb0, cb1⟩ | with_reducible exact ⟨(Ta.set2 (by omega) _ _).cells.1, (Ta.set2 (by omega) _ _).cells.2, (Tb.set2 (by omega) _ _).cells.1, (Tb.set2 (by omega) _ _).cells.2⟩) (first | (go_at_call 100; (with_reducible refine (HT.out _ sx2 sy2).mono ?_); rintro e wq ⟨ap, lp, cp, rfl, sp, bq⟩; replace Ta := Ta.below bq; replace Tb := Tb.below bq; replace Tr := Tr.below bq; replace hbb := hbb.trans (bq.mono hbb.size); replace ca0 := Ta.cells.1; replace ca1 := Ta.cells.2; replace cb0 := Tb.cells.1; replace cb1 := Tb.cells.2; replace cr0 := Tr.cells.1; replace cr1 := Tr.cells.2; replace fr0 := Tr.froz.1; replace fr1 := Tr.froz.2; replace zr := Tr.lt; have hlp := sp.length; clear bq) | (go_at_call 99; (with_reducible refine (HM.out _ _ _ _ sp (by have := Hlen.out; omega)).mono ?_); rintro e wq ⟨az, lz, cz, rfl, sz, bq⟩; replace Ta := Ta.below bq; replace Tb := Tb.below bq; replace Tr := Tr.below bq; replace hbb := hbb.trans (bq.mono hbb.size); replace ca0 := Ta.cells.1; replace ca1 := Ta.cells.2; replace cb0 := Tb.cells.1; replace cb1 := Tb.cells.2; replace cr0 := Tr.cells.1; replace cr1 := Tr.cells.2; replace fr0 := Tr.froz.1; replace fr1 := Tr.froz.2; replace zr := Tr.lt; clear bq))
  all_goals go_wp2
  all_goals (refine bodyPost_ret (v := .tuple #[.agg #[.bool (decide (z < 0)), .slice az lz cz], .int .i64 er]) (by simp [results, Tryz.results45, go_sem, cr0, cr1]) rfl ?_)
  all_goals exact ⟨az, lz, cz, rfl, sz.store2 cr0 cr1 _ _, (hbb.setCell (by simp; omega) _).setCell (by simp; omega) _⟩

theorem refAdd_ok (x y : Int) (hlx : Lim x) (hly : Lim y) (ax : Option Addr) (la ca : Nat) (ay : Option Addr) (lb cb : Nat) (w : World) (hx : Sl w ax la ca (parts x.natAbs)) (hy : Sl w ay lb cb (parts y.natAbs)) :
    Calls Tryz.prog 45 #[.agg #[.bool (decide (x < 0)), .slice ax la ca], .agg #[.bool (decide (y < 0)), .slice ay lb cb]] w (RetE (fitR (x + y)).1 (fitR (x + y)).2 w) := by
  by_cases hs : decide (x < 0) = decide (y < 0)
  · exact refAdd_same x y hlx hly ax la ca ay lb cb w hx hy hs
  · by_cases hle : y.natAbs ≤ x.natAbs
    · exact refAdd_big x y hlx hly ax la ca ay lb cb w hx hy hs hle
    · exact refAdd_less x y hlx hly ax la ca ay lb cb w hx hy hs (by omega)
end Go.Proofs.YtfjnplhhgdfepaaGreatDoor

/- The reference's negated, Neg and Sub. -/
namespace Go.Proofs.YtfjnplhhgdfepaaGreatDoor
open Go.RowKit

set_option maxRecDepth 100000 in
set_option maxHeartbeats 4000000 in
theorem negated_any (x : Int) (ax : Option Addr) (la ca : Nat) (w : World) (hx : Sl w ax la ca (parts x.natAbs)) (hm : la ≤ 40) :
    Calls Tryz.prog 96 #[.agg #[.bool (decide (x < 0)), .slice ax la ca]] w (RetN (-x) w) := by
  have hT := fun w hx => shorn_any ax la ca (parts x.natAbs) w hx (by omega)
  rw [trim_parts] at hT
  have hlen := hx.length
  have e1 : parts (-x).natAbs = parts x.natAbs := by rw [Int.natAbs_neg]
  have hpos : 0 < la ↔ x ≠ 0 := by
    rw [← hlen]
    have := parts_nil_iff x.natAbs
    rw [List.length_pos_iff]
    constructor
    · intro h h0; exact h (this.2 (by omega))
    · intro h h0; exact h (by have := this.1 h0; omega)
  by_cases hs : x < 0
  · have hs1 : decide (x < 0) = true := decide_eq_true hs
    have hr : decide (-x < 0) = false := decide_eq_false (by omega)
    rw [hs1]
    have HR := Lib.hid hr; have HE := Lib.hid e1
    generalize parts x.natAbs = px at *
    have HT := Lib.hid hT
    clear hT hs hs1 hr e1 hpos hlen
    go_enter Tryz.func96, Tryz.ntmps96
    go_wp2
    have Ta := (BoxI.new w w.heap.size rfl true ax la ca).alloc (.cells #[.bool false, .slice none 0 0] 24)
    have Tr := BoxI.new (w.alloc (.cells #[.bool true, .slice ax la ca] 24)) (w.heap.size + 1) (by simp) false none 0 0
    have sx1 := (hx.alloc (.cells #[.bool true, .slice ax la ca] 24)).alloc (.cells #[.bool false, .slice none 0 0] 24)
    have hbb := below2 w (.cells #[.bool true, .slice ax la ca] 24) (.cells #[.bool false, .slice none 0 0] 24)
    replace Ta := Ta.drew; replace Tr := Tr.drew; replace sx1 := sx1.drew; replace hbb := hbb.drew
    have ca0 := Ta.cells.1; have ca1 := Ta.cells.2
    have cr0 := Tr.cells.1; have cr1 := Tr.cells.2; have fr0 := Tr.froz.1; have fr1 := Tr.froz.2; have zr := Tr.lt
    first | (go_region_with (go_at_call 92; (with_reducible refine (HT.out _ sx1).mono ?_); rintro e wq ⟨ap, lp, cp, rfl, sp, bq⟩; replace Ta := Ta.below bq; replace Tr := Tr.below bq; replace hbb := hbb.trans (bq.mono hbb.size); replace ca0 := Ta.cells.1; replace ca1 := Ta.cells.2; replace cr0 := Tr.cells.1; replace cr1 := Tr.cells.2; replace fr0 := Tr.froz.1; replace fr1 := Tr.froz.2; replace zr := Tr.lt; clear bq)) | fail
    all_goals go_wp2
    all_goals (refine bodyPost_ret (v := .agg #[.bool false, .slice ap lp cp]) (by simp [results, Tryz.results96, go_sem, cr0, cr1]) rfl ?_)
    all_goals exact ⟨ap, lp, cp, by rw [HR.out], by rw [HE.out]; exact sp.store2 cr0 cr1 _ _, (hbb.setCell (by simp) _).setCell (by simp) _⟩
  · have hs1 : decide (x < 0) = false := decide_eq_false hs
    have hr : decide (0 < (la : Int)) = decide (-x < 0) := by
      refine decide_eq_decide.2 ?_
      omega
    rw [hs1]
    have HR := Lib.hid hr; have HE := Lib.hid e1
    generalize parts x.natAbs = px at *
    have HT := Lib.hid hT
    clear hT hs hs1 hr e1 hpos hlen
    go_enter Tryz.func96, Tryz.ntmps96
    go_wp2
    have Ta := (BoxI.new w w.heap.size rfl false ax la ca).alloc (.cells #[.bool false, .slice none 0 0] 24)
    have Tr := BoxI.new (w.alloc (.cells #[.bool false, .slice ax la ca] 24)) (w.heap.size + 1) (by simp) false none 0 0
    have sx1 := (hx.alloc (.cells #[.bool false, .slice ax la ca] 24)).alloc (.cells #[.bool false, .slice none 0 0] 24)
    have hbb := below2 w (.cells #[.bool false, .slice ax la ca] 24) (.cells #[.bool false, .slice none 0 0] 24)
    replace Ta := Ta.drew; replace Tr := Tr.drew; replace sx1 := sx1.drew; replace hbb := hbb.drew
    have ca0 := Ta.cells.1; have ca1 := Ta.cells.2
    have cr0 := Tr.cells.1; have cr1 := Tr.cells.2; have fr0 := Tr.froz.1; have fr1 := Tr.froz.2; have zr := Tr.lt
    first | (go_region_with (go_at_call 92; (with_reducible refine (HT.out _ sx1).mono ?_); rintro e wq ⟨ap, lp, cp, rfl, sp, bq⟩; replace Ta := Ta.below bq; replace Tr := Tr.below bq; replace hbb := hbb.trans (bq.mono hbb.size); replace ca0 := Ta.cells.1; replace ca1 := Ta.cells.2; replace cr0 := Tr.cells.1; replace cr1 := Tr.cells.2; replace fr0 := Tr.froz.1; replace fr1 := Tr.froz.2; replace zr := Tr.lt; clear bq)) | fail
    all_goals go_wp2
    all_goals (refine bodyPost_ret (v := .agg #[.bool (decide (0 < (la : Int))), .slice ap lp cp]) (by simp [results, Tryz.results96, go_sem, cr0, cr1]) rfl ?_)
    all_goals exact ⟨ap, lp, cp, by rw [HR.out], by rw [HE.out]; exact sp.store2 cr0 cr1 _ _, (hbb.setCell (by simp) _).setCell (by simp) _⟩
end Go.Proofs.YtfjnplhhgdfepaaGreatDoor

/- The reference's Neg and Sub. -/
namespace Go.Proofs.YtfjnplhhgdfepaaGreatDoor
open Go.RowKit

set_option maxRecDepth 100000 in
set_option maxHeartbeats 2000000 in
theorem refNeg_ok (x : Int) (hl : Lim x) (ax : Option Addr) (la ca : Nat) (w : World) (hx : Sl w ax la ca (parts x.natAbs)) :
    Calls Tryz.prog 43 #[.agg #[.bool (decide (x < 0)), .slice ax la ca]] w (RetE (-x) 0 w) := by
  have hok : okInt (decide (x < 0)) (parts x.natAbs) = true := (okInt_iff _ _).2 ⟨x, hl, rfl, rfl⟩
  have h1 : la ≤ 40 := by have := hl; unfold Lim at this; rwa [hx.length] at this
  have hI := fun w h => is_any (decide (x < 0)) ax la ca (parts x.natAbs) w h
  rw [hok] at hI
  have hN := fun w h => negated_any x ax la ca w h h1
  generalize parts x.natAbs = px at *
  generalize decide (x < 0) = sx at *
  generalize -x = z at *
  have HI := Lib.hid hI; have HN := Lib.hid hN
  clear hI hN hok hl
  go_enter Tryz.func43, Tryz.ntmps43
  go_wp2_with fail
  refine (HI.out _ ((hx.alloc _).alloc _)).mono ?_
  rintro e w1 ⟨rfl, b1⟩
  obtain ⟨Ta, Tr, hz, hbb⟩ := kept2 _ _ _ b1
  have sx1 := ((hx.alloc (.cells #[.bool sx, .slice ax la ca] 24)).alloc (.cells #[.bool false, .slice none 0 0] 24)).below b1
  replace Ta : BoxI w1 w.heap.size sx ax la ca := Ta
  replace Tr : BoxI w1 (w.heap.size + 1) false none 0 0 := Tr
  have ca0 := Ta.cells.1; have ca1 := Ta.cells.2; have za := Ta.lt
  clear b1 hx
  go_wp2_with fail
  refine (HN.out _ sx1).mono ?_
  rintro e w2 ⟨az, lz, cz, rfl, sz, b2⟩
  replace Tr := Tr.below b2
  replace hbb := hbb.trans (b2.mono hbb.size)
  have cr0 := Tr.cells.1; have cr1 := Tr.cells.2; have fr0 := Tr.froz.1; have fr1 := Tr.froz.2; have zr := Tr.lt
  clear b2
  go_wp2
  refine bodyPost_ret (v := .tuple #[.agg #[.bool (decide (z < 0)), .slice az lz cz], .int .i64 0]) (by simp [results, Tryz.results43, go_sem, cr0, cr1]) rfl ?_
  exact ⟨az, lz, cz, rfl, sz.store2 cr0 cr1 _ _, (hbb.setCell (by simp) _).setCell (by simp) _⟩

set_option maxRecDepth 100000 in
set_option maxHeartbeats 2000000 in
theorem refSub_ok (x y : Int) (hlx : Lim x) (hly : Lim y) (ax : Option Addr) (la ca : Nat) (ay : Option Addr) (lb cb : Nat) (w : World) (hx : Sl w ax la ca (parts x.natAbs)) (hy : Sl w ay lb cb (parts y.natAbs)) :
    Calls Tryz.prog 47 #[.agg #[.bool (decide (x < 0)), .slice ax la ca], .agg #[.bool (decide (y < 0)), .slice ay lb cb]] w (RetE (fitR (x - y)).1 (fitR (x - y)).2 w) := by
  have hok := two_ok ⟨hlx, hly, rfl, rfl, rfl, rfl⟩
  have h2 : lb ≤ 40 := by have := hly; unfold Lim at this; rwa [hy.length] at this
  have hA := fun w hx hy => are_any (decide (x < 0)) ax la ca (parts x.natAbs) (decide (y < 0)) ay lb cb (parts y.natAbs) w hx hy
  rw [hok] at hA
  have hN := fun w h => negated_any y ay lb cb w h h2
  have hD := fun an ln cn w h h' => refAdd_ok x (-y) hlx (by unfold Lim at *; rwa [Int.natAbs_neg]) ax la ca an ln cn w h h'
  rw [← Int.sub_eq_add_neg] at hD
  generalize (fitR (x - y)).1 = z at *
  generalize (fitR (x - y)).2 = er at *
  generalize parts x.natAbs = px at *
  generalize parts y.natAbs = py at *
  generalize decide (x < 0) = sx at *
  generalize decide (y < 0) = sy at *
  unfold RetN at hN
  generalize parts (-y).natAbs = pn at *
  generalize decide (-y < 0) = sn at *
  have HA := Lib.hid hA; have HN := Lib.hid hN; have HD := Lib.hid hD
  clear hA hN hD hok hlx hly
  go_enter Tryz.func47, Tryz.ntmps47
  go_wp2_with fail
  refine (HA.out _ (((hx.alloc _).alloc _).alloc _) (((hy.alloc _).alloc _).alloc _)).mono ?_
  rintro e w1 ⟨rfl, b1⟩
  obtain ⟨Ta, Tb, Tr, hz, hbb⟩ := kept3 _ _ _ _ b1
  have sx1 := (((hx.alloc (.cells #[.bool sx, .slice ax la ca] 24)).alloc (.cells #[.bool sy, .slice ay lb cb] 24)).alloc (.cells #[.bool false, .slice none 0 0] 24)).below b1
  have sy1 := (((hy.alloc (.cells #[.bool sx, .slice ax la ca] 24)).alloc (.cells #[.bool sy, .slice ay lb cb] 24)).alloc (.cells #[.bool false, .slice none 0 0] 24)).below b1
  replace Ta : BoxI w1 w.heap.size sx ax la ca := Ta
  replace Tb : BoxI w1 (w.heap.size + 1) sy ay lb cb := Tb
  replace Tr : BoxI w1 (w.heap.size + 1 + 1) false none 0 0 := Tr
  replace Ta : BoxI w1.drew w.heap.size sx ax la ca := Ta
  replace Tb : BoxI w1.drew (w.heap.size + 1) sy ay lb cb := Tb
  replace Tr : BoxI w1.drew (w.heap.size + 1 + 1) false none 0 0 := Tr
  replace sx1 := sx1.drew
  replace sy1 := sy1.drew
  replace hbb := hbb.drew
  have ca0 := Ta.cells.1; have ca1 := Ta.cells.2; have cb0 := Tb.cells.1; have cb1 := Tb.cells.2; have cr0 := Tr.cells.1; have cr1 := Tr.cells.2; have fr0 := Tr.froz.1; have fr1 := Tr.froz.2; have zr := Tr.lt
  clear b1 hx hy hz
  go_wp2
  go_region_held3 (fun w' => w'.cell? ⟨w.heap.size, 0, none⟩ = some (.bool sx) ∧ w'.cell? ⟨w.heap.size, 1, none⟩ = some (.slice ax la ca) ∧ w'.cell? ⟨w.heap.size + 1, 0, none⟩ = some (.bool sy) ∧ w'.cell? ⟨w.heap.size + 1, 1, none⟩ = some (.slice ay lb cb)) (first | with_reducible exact ⟨ca0, ca1, cb0, cb1⟩ | with_reducible exact ⟨(Ta.set2 (by omega) _ _).cells.1, (Ta.set2 (by omega) _ _).cells.2, (Tb.set2 (by omega) _ _).cells.1, (Tb.set2 (by omega) _ _).cells.2⟩) (first | (go_at_call 96; (with_reducible refine (HN.out _ sy1).mono ?_); rintro e wq ⟨an, ln, cn, rfl, sn1, bq⟩; replace sx1 := sx1.below bq; replace Ta := Ta.below bq; replace Tb := Tb.below bq; replace Tr := Tr.below bq; replace hbb := hbb.trans (bq.mono hbb.size); replace ca0 := Ta.cells.1; replace ca1 := Ta.cells.2; replace cb0 := Tb.cells.1; replace cb1 := Tb.cells.2; replace cr0 := Tr.cells.1; replace cr1 := Tr.cells.2; replace fr0 := Tr.froz.1; replace fr1 := Tr.froz.2; replace zr := Tr.lt; clear bq) | (go_at_call 45; (with_reducible refine (HD.out _ _ _ _ sx1 sn1).mono ?_); rintro e wq ⟨az, lz, cz, rfl, sz, bq⟩; replace Ta := Ta.below bq; replace Tb := Tb.below bq; replace Tr := Tr.below bq; replace hbb := hbb.trans (bq.mono hbb.size); replace ca0 := Ta.cells.1; replace ca1 := Ta.cells.2; replace cb0 := Tb.cells.1; replace cb1 := Tb.cells.2; replace cr0 := Tr.cells.1; replace cr1 := Tr.cells.2; replace fr0 := Tr.froz.1; replace fr1 := Tr.froz.2; replace zr := Tr.lt; clear bq))
  all_goals go_wp2
  all_goals (refine bodyPost_ret (v := .tuple #[.agg #[.bool (decide (z < 0)), .slice az lz cz], .int .i64 er]) (by simp [results, Tryz.results47, go_sem, cr0, cr1]) rfl ?_)
  all_goals exact ⟨az, lz, cz, rfl, sz.store2 cr0 cr1 _ _, (hbb.setCell (by simp; omega) _).setCell (by simp; omega) _⟩
end Go.Proofs.YtfjnplhhgdfepaaGreatDoor

/- The reference's Add, Sub, Mul, Div, Mod and Pow where a number is none. -/
namespace Go.Proofs.YtfjnplhhgdfepaaGreatDoor
open Go.RowKit

set_option maxRecDepth 100000 in
set_option maxHeartbeats 2000000 in
theorem refMul_bad (sx : Bool) (ax : Option Addr) (la ca : Nat) (px : List Int) (sy : Bool) (ay : Option Addr) (lb cb : Nat) (py : List Int) (w : World) (hx : Sl w ax la ca px) (hy : Sl w ay lb cb py) (hok : (okInt sx px && okInt sy py) = false) :
    Calls Tryz.prog 49 #[.agg #[.bool sx, .slice ax la ca], .agg #[.bool sy, .slice ay lb cb]] w (RetE 0 10 w) := by
  have hA := fun w hx hy => are_any sx ax la ca px sy ay lb cb py w hx hy
  rw [hok] at hA
  have HA := Lib.hid hA
  clear hA hok
  go_enter Tryz.func49, Tryz.ntmps49
  go_wp2_with fail
  refine (HA.out _ (((hx.alloc _).alloc _).alloc _) (((hy.alloc _).alloc _).alloc _)).mono ?_
  rintro e w1 ⟨rfl, b1⟩
  obtain ⟨Ta, Tb, Tr, hz, hbb⟩ := kept3 _ _ _ _ b1
  replace Tr : BoxI w1 (w.heap.size + 1 + 1) false none 0 0 := Tr
  clear b1 hx hy Ta Tb
  have cr0 := Tr.cells.1; have cr1 := Tr.cells.2; have fr0 := Tr.froz.1; have fr1 := Tr.froz.2; have zr := Tr.lt
  have cr2 : (w1.setCell ⟨w.heap.size + 1 + 1, 0, none⟩ (.bool false)).cell? ⟨w.heap.size + 1 + 1, 1, none⟩ = some (.slice none 0 0) := by rw [cell_set_ne (by simp) rfl rfl]; exact cr1
  go_wp2
  refine bodyPost_ret (v := .tuple #[.agg #[.bool false, .slice none 0 0], .int .i64 10]) (by simp [results, Tryz.results49, go_sem, cr0, cr1, cr2]) rfl ?_
  exact ⟨none, 0, 0, rfl, by rw [show (0 : Int).natAbs = 0 from rfl, parts_zero]; exact Sl.nil _, (hbb.setCell (by simp; omega) _).setCell (by simp; omega) _⟩

set_option maxRecDepth 100000 in
set_option maxHeartbeats 2000000 in
theorem refAdd_bad (sx : Bool) (ax : Option Addr) (la ca : Nat) (px : List Int) (sy : Bool) (ay : Option Addr) (lb cb : Nat) (py : List Int) (w : World) (hx : Sl w ax la ca px) (hy : Sl w ay lb cb py) (hok : (okInt sx px && okInt sy py) = false) :
    Calls Tryz.prog 45 #[.agg #[.bool sx, .slice ax la ca], .agg #[.bool sy, .slice ay lb cb]] w (RetE 0 10 w) := by
  have hA := fun w hx hy => are_any sx ax la ca px sy ay lb cb py w hx hy
  rw [hok] at hA
  have HA := Lib.hid hA
  clear hA hok
  go_enter Tryz.func45, Tryz.ntmps45
  go_wp2_with fail
  refine (HA.out _ (((hx.alloc _).alloc _).alloc _) (((hy.alloc _).alloc _).alloc _)).mono ?_
  rintro e w1 ⟨rfl, b1⟩
  obtain ⟨Ta, Tb, Tr, hz, hbb⟩ := kept3 _ _ _ _ b1
  replace Tr : BoxI w1 (w.heap.size + 1 + 1) false none 0 0 := Tr
  clear b1 hx hy Ta Tb
  have cr0 := Tr.cells.1; have cr1 := Tr.cells.2; have fr0 := Tr.froz.1; have fr1 := Tr.froz.2; have zr := Tr.lt
  have cr2 : (w1.setCell ⟨w.heap.size + 1 + 1, 0, none⟩ (.bool false)).cell? ⟨w.heap.size + 1 + 1, 1, none⟩ = some (.slice none 0 0) := by rw [cell_set_ne (by simp) rfl rfl]; exact cr1
  go_wp2
  refine bodyPost_ret (v := .tuple #[.agg #[.bool false, .slice none 0 0], .int .i64 10]) (by simp [results, Tryz.results45, go_sem, cr0, cr1, cr2]) rfl ?_
  exact ⟨none, 0, 0, rfl, by rw [show (0 : Int).natAbs = 0 from rfl, parts_zero]; exact Sl.nil _, (hbb.setCell (by simp; omega) _).setCell (by simp; omega) _⟩

set_option maxRecDepth 100000 in
set_option maxHeartbeats 2000000 in
theorem refSub_bad (sx : Bool) (ax : Option Addr) (la ca : Nat) (px : List Int) (sy : Bool) (ay : Option Addr) (lb cb : Nat) (py : List Int) (w : World) (hx : Sl w ax la ca px) (hy : Sl w ay lb cb py) (hok : (okInt sx px && okInt sy py) = false) :
    Calls Tryz.prog 47 #[.agg #[.bool sx, .slice ax la ca], .agg #[.bool sy, .slice ay lb cb]] w (RetE 0 10 w) := by
  have hA := fun w hx hy => are_any sx ax la ca px sy ay lb cb py w hx hy
  rw [hok] at hA
  have HA := Lib.hid hA
  clear hA hok
  go_enter Tryz.func47, Tryz.ntmps47
  go_wp2_with fail
  refine (HA.out _ (((hx.alloc _).alloc _).alloc _) (((hy.alloc _).alloc _).alloc _)).mono ?_
  rintro e w1 ⟨rfl, b1⟩
  obtain ⟨Ta, Tb, Tr, hz, hbb⟩ := kept3 _ _ _ _ b1
  replace Tr : BoxI w1 (w.heap.size + 1 + 1) false none 0 0 := Tr
  clear b1 hx hy Ta Tb
  have cr0 := Tr.cells.1; have cr1 := Tr.cells.2; have fr0 := Tr.froz.1; have fr1 := Tr.froz.2; have zr := Tr.lt
  have cr2 : (w1.setCell ⟨w.heap.size + 1 + 1, 0, none⟩ (.bool false)).cell? ⟨w.heap.size + 1 + 1, 1, none⟩ = some (.slice none 0 0) := by rw [cell_set_ne (by simp) rfl rfl]; exact cr1
  go_wp2
  refine bodyPost_ret (v := .tuple #[.agg #[.bool false, .slice none 0 0], .int .i64 10]) (by simp [results, Tryz.results47, go_sem, cr0, cr1, cr2]) rfl ?_
  exact ⟨none, 0, 0, rfl, by rw [show (0 : Int).natAbs = 0 from rfl, parts_zero]; exact Sl.nil _, (hbb.setCell (by simp; omega) _).setCell (by simp; omega) _⟩

set_option maxRecDepth 100000 in
set_option maxHeartbeats 2000000 in
theorem refDiv_bad (sx : Bool) (ax : Option Addr) (la ca : Nat) (px : List Int) (sy : Bool) (ay : Option Addr) (lb cb : Nat) (py : List Int) (w : World) (hx : Sl w ax la ca px) (hy : Sl w ay lb cb py) (hok : (okInt sx px && okInt sy py) = false) :
    Calls Tryz.prog 51 #[.agg #[.bool sx, .slice ax la ca], .agg #[.bool sy, .slice ay lb cb]] w (RetE 0 10 w) := by
  have hA := fun w hx hy => are_any sx ax la ca px sy ay lb cb py w hx hy
  rw [hok] at hA
  have HA := Lib.hid hA
  clear hA hok
  go_enter Tryz.func51, Tryz.ntmps51
  go_wp2_with fail
  refine (HA.out _ (((hx.alloc _).alloc _).alloc _) (((hy.alloc _).alloc _).alloc _)).mono ?_
  rintro e w1 ⟨rfl, b1⟩
  obtain ⟨Ta, Tb, Tr, hz, hbb⟩ := kept3 _ _ _ _ b1
  replace Tr : BoxI w1 (w.heap.size + 1 + 1) false none 0 0 := Tr
  clear b1 hx hy Ta Tb
  have cr0 := Tr.cells.1; have cr1 := Tr.cells.2; have fr0 := Tr.froz.1; have fr1 := Tr.froz.2; have zr := Tr.lt
  have cr2 : (w1.setCell ⟨w.heap.size + 1 + 1, 0, none⟩ (.bool false)).cell? ⟨w.heap.size + 1 + 1, 1, none⟩ = some (.slice none 0 0) := by rw [cell_set_ne (by simp) rfl rfl]; exact cr1
  go_wp2
  refine bodyPost_ret (v := .tuple #[.agg #[.bool false, .slice none 0 0], .int .i64 10]) (by simp [results, Tryz.results51, go_sem, cr0, cr1, cr2]) rfl ?_
  exact ⟨none, 0, 0, rfl, by rw [show (0 : Int).natAbs = 0 from rfl, parts_zero]; exact Sl.nil _, (hbb.setCell (by simp; omega) _).setCell (by simp; omega) _⟩

set_option maxRecDepth 100000 in
set_option maxHeartbeats 2000000 in
theorem refMod_bad (sx : Bool) (ax : Option Addr) (la ca : Nat) (px : List Int) (sy : Bool) (ay : Option Addr) (lb cb : Nat) (py : List Int) (w : World) (hx : Sl w ax la ca px) (hy : Sl w ay lb cb py) (hok : (okInt sx px && okInt sy py) = false) :
    Calls Tryz.prog 53 #[.agg #[.bool sx, .slice ax la ca], .agg #[.bool sy, .slice ay lb cb]] w (RetE 0 10 w) := by
  have hA := fun w hx hy => are_any sx ax la ca px sy ay lb cb py w hx hy
  rw [hok] at hA
  have HA := Lib.hid hA
  clear hA hok
  go_enter Tryz.func53, Tryz.ntmps53
  go_wp2_with fail
  refine (HA.out _ (((hx.alloc _).alloc _).alloc _) (((hy.alloc _).alloc _).alloc _)).mono ?_
  rintro e w1 ⟨rfl, b1⟩
  obtain ⟨Ta, Tb, Tr, hz, hbb⟩ := kept3 _ _ _ _ b1
  replace Tr : BoxI w1 (w.heap.size + 1 + 1) false none 0 0 := Tr
  clear b1 hx hy Ta Tb
  have cr0 := Tr.cells.1; have cr1 := Tr.cells.2; have fr0 := Tr.froz.1; have fr1 := Tr.froz.2; have zr := Tr.lt
  have cr2 : (w1.setCell ⟨w.heap.size + 1 + 1, 0, none⟩ (.bool false)).cell? ⟨w.heap.size + 1 + 1, 1, none⟩ = some (.slice none 0 0) := by rw [cell_set_ne (by simp) rfl rfl]; exact cr1
  go_wp2
  refine bodyPost_ret (v := .tuple #[.agg #[.bool false, .slice none 0 0], .int .i64 10]) (by simp [results, Tryz.results53, go_sem, cr0, cr1, cr2]) rfl ?_
  exact ⟨none, 0, 0, rfl, by rw [show (0 : Int).natAbs = 0 from rfl, parts_zero]; exact Sl.nil _, (hbb.setCell (by simp; omega) _).setCell (by simp; omega) _⟩

set_option maxRecDepth 100000 in
set_option maxHeartbeats 2000000 in
theorem refPow_bad (sx : Bool) (ax : Option Addr) (la ca : Nat) (px : List Int) (sy : Bool) (ay : Option Addr) (lb cb : Nat) (py : List Int) (w : World) (hx : Sl w ax la ca px) (hy : Sl w ay lb cb py) (hok : (okInt sx px && okInt sy py) = false) :
    Calls Tryz.prog 55 #[.agg #[.bool sx, .slice ax la ca], .agg #[.bool sy, .slice ay lb cb]] w (RetE 0 10 w) := by
  have hA := fun w hx hy => are_any sx ax la ca px sy ay lb cb py w hx hy
  rw [hok] at hA
  have HA := Lib.hid hA
  clear hA hok
  go_enter Tryz.func55, Tryz.ntmps55
  go_wp2_with fail
  refine (HA.out _ (((hx.alloc _).alloc _).alloc _) (((hy.alloc _).alloc _).alloc _)).mono ?_
  rintro e w1 ⟨rfl, b1⟩
  obtain ⟨Ta, Tb, Tr, hz, hbb⟩ := kept3 _ _ _ _ b1
  replace Tr : BoxI w1 (w.heap.size + 1 + 1) false none 0 0 := Tr
  clear b1 hx hy Ta Tb
  have cr0 := Tr.cells.1; have cr1 := Tr.cells.2; have fr0 := Tr.froz.1; have fr1 := Tr.froz.2; have zr := Tr.lt
  have cr2 : (w1.setCell ⟨w.heap.size + 1 + 1, 0, none⟩ (.bool false)).cell? ⟨w.heap.size + 1 + 1, 1, none⟩ = some (.slice none 0 0) := by rw [cell_set_ne (by simp) rfl rfl]; exact cr1
  go_wp2
  refine bodyPost_ret (v := .tuple #[.agg #[.bool false, .slice none 0 0], .int .i64 10]) (by simp [results, Tryz.results55, go_sem, cr0, cr1, cr2]) rfl ?_
  exact ⟨none, 0, 0, rfl, by rw [show (0 : Int).natAbs = 0 from rfl, parts_zero]; exact Sl.nil _, (hbb.setCell (by simp; omega) _).setCell (by simp; omega) _⟩
end Go.Proofs.YtfjnplhhgdfepaaGreatDoor

/- The reference's Add, Sub, Mul, Div, Mod and Pow of no number, and by zero. -/
namespace Go.Proofs.YtfjnplhhgdfepaaGreatDoor
open Go.RowKit

set_option maxRecDepth 100000 in
set_option maxHeartbeats 2000000 in
theorem refDiv_zero (sx : Bool) (ax : Option Addr) (la ca : Nat) (px : List Int) (sy : Bool) (ay : Option Addr) (cb : Nat) (py : List Int) (w : World) (hx : Sl w ax la ca px) (hy : Sl w ay 0 cb py) (hok : (okInt sx px && okInt sy py) = true) :
    Calls Tryz.prog 51 #[.agg #[.bool sx, .slice ax la ca], .agg #[.bool sy, .slice ay 0 cb]] w (RetE 0 11 w) := by
  have hA := fun w hx hy => are_any sx ax la ca px sy ay 0 cb py w hx hy
  rw [hok] at hA
  have HA := Lib.hid hA
  clear hA hok
  go_enter Tryz.func51, Tryz.ntmps51
  go_wp2_with fail
  refine (HA.out _ (((hx.alloc _).alloc _).alloc _) (((hy.alloc _).alloc _).alloc _)).mono ?_
  rintro e w1 ⟨rfl, b1⟩
  obtain ⟨Ta, Tb, Tr, hz, hbb⟩ := kept3 _ _ _ _ b1
  replace Tb : BoxI w1 (w.heap.size + 1) sy ay 0 cb := Tb
  replace Tr : BoxI w1 (w.heap.size + 1 + 1) false none 0 0 := Tr
  clear b1 hx hy Ta
  have cb1 := Tb.cells.2
  have cr0 := Tr.cells.1; have cr1 := Tr.cells.2; have fr0 := Tr.froz.1; have fr1 := Tr.froz.2; have zr := Tr.lt
  have cr2 : (w1.setCell ⟨w.heap.size + 1 + 1, 0, none⟩ (.bool false)).cell? ⟨w.heap.size + 1 + 1, 1, none⟩ = some (.slice none 0 0) := by rw [cell_set_ne (by simp) rfl rfl]; exact cr1
  go_wp2
  refine bodyPost_ret (v := .tuple #[.agg #[.bool false, .slice none 0 0], .int .i64 11]) (by simp [results, Tryz.results51, go_sem, cr0, cr1, cr2]) rfl ?_
  exact ⟨none, 0, 0, rfl, by rw [show (0 : Int).natAbs = 0 from rfl, parts_zero]; exact Sl.nil _, (hbb.setCell (by simp; omega) _).setCell (by simp; omega) _⟩

set_option maxRecDepth 100000 in
set_option maxHeartbeats 2000000 in
theorem refMod_zero (sx : Bool) (ax : Option Addr) (la ca : Nat) (px : List Int) (sy : Bool) (ay : Option Addr) (cb : Nat) (py : List Int) (w : World) (hx : Sl w ax la ca px) (hy : Sl w ay 0 cb py) (hok : (okInt sx px && okInt sy py) = true) :
    Calls Tryz.prog 53 #[.agg #[.bool sx, .slice ax la ca], .agg #[.bool sy, .slice ay 0 cb]] w (RetE 0 11 w) := by
  have hA := fun w hx hy => are_any sx ax la ca px sy ay 0 cb py w hx hy
  rw [hok] at hA
  have HA := Lib.hid hA
  clear hA hok
  go_enter Tryz.func53, Tryz.ntmps53
  go_wp2_with fail
  refine (HA.out _ (((hx.alloc _).alloc _).alloc _) (((hy.alloc _).alloc _).alloc _)).mono ?_
  rintro e w1 ⟨rfl, b1⟩
  obtain ⟨Ta, Tb, Tr, hz, hbb⟩ := kept3 _ _ _ _ b1
  replace Tb : BoxI w1 (w.heap.size + 1) sy ay 0 cb := Tb
  replace Tr : BoxI w1 (w.heap.size + 1 + 1) false none 0 0 := Tr
  clear b1 hx hy Ta
  have cb1 := Tb.cells.2
  have cr0 := Tr.cells.1; have cr1 := Tr.cells.2; have fr0 := Tr.froz.1; have fr1 := Tr.froz.2; have zr := Tr.lt
  have cr2 : (w1.setCell ⟨w.heap.size + 1 + 1, 0, none⟩ (.bool false)).cell? ⟨w.heap.size + 1 + 1, 1, none⟩ = some (.slice none 0 0) := by rw [cell_set_ne (by simp) rfl rfl]; exact cr1
  go_wp2
  refine bodyPost_ret (v := .tuple #[.agg #[.bool false, .slice none 0 0], .int .i64 11]) (by simp [results, Tryz.results53, go_sem, cr0, cr1, cr2]) rfl ?_
  exact ⟨none, 0, 0, rfl, by rw [show (0 : Int).natAbs = 0 from rfl, parts_zero]; exact Sl.nil _, (hbb.setCell (by simp; omega) _).setCell (by simp; omega) _⟩

set_option maxRecDepth 100000 in
set_option maxHeartbeats 2000000 in
theorem refNeg_bad (sx : Bool) (ax : Option Addr) (la ca : Nat) (px : List Int) (w : World) (hx : Sl w ax la ca px) (hok : okInt sx px = false) :
    Calls Tryz.prog 43 #[.agg #[.bool sx, .slice ax la ca]] w (RetE 0 10 w) := by
  have hI := fun w h => is_any sx ax la ca px w h
  rw [hok] at hI
  have HI := Lib.hid hI
  clear hI hok
  go_enter Tryz.func43, Tryz.ntmps43
  go_wp2_with fail
  refine (HI.out _ ((hx.alloc _).alloc _)).mono ?_
  rintro e w1 ⟨rfl, b1⟩
  obtain ⟨Ta, Tr, hz, hbb⟩ := kept2 _ _ _ b1
  replace Tr : BoxI w1 (w.heap.size + 1) false none 0 0 := Tr
  clear b1 hx Ta
  have cr0 := Tr.cells.1; have cr1 := Tr.cells.2; have fr0 := Tr.froz.1; have fr1 := Tr.froz.2; have zr := Tr.lt
  have cr2 : (w1.setCell ⟨w.heap.size + 1, 0, none⟩ (.bool false)).cell? ⟨w.heap.size + 1, 1, none⟩ = some (.slice none 0 0) := by rw [cell_set_ne (by simp) rfl rfl]; exact cr1
  go_wp2
  refine bodyPost_ret (v := .tuple #[.agg #[.bool false, .slice none 0 0], .int .i64 10]) (by simp [results, Tryz.results43, go_sem, cr0, cr1, cr2]) rfl ?_
  exact ⟨none, 0, 0, rfl, by rw [show (0 : Int).natAbs = 0 from rfl, parts_zero]; exact Sl.nil _, (hbb.setCell (by simp) _).setCell (by simp) _⟩
end Go.Proofs.YtfjnplhhgdfepaaGreatDoor

/- The reference's digit: a binary search for a quotient of one part. -/
namespace Go.Proofs.YtfjnplhhgdfepaaGreatDoor
open Go.RowKit

theorem dig_one {m : Int} (h0 : 0 ≤ m) (h1 : m < 1000000000) : Dig [m] := by
  intro y hy
  rw [List.mem_singleton.1 hy]; omega
theorem one_new (w : World) (m : Int) : Sl (w.alloc (.cells #[.int .i64 m] 3)) (some ⟨w.heap.size, 0, none⟩) 1 1 [m] := by
  refine ⟨rfl, Nat.le_refl _, by unfold maxLen; omega, .inr ⟨w.heap.size, 0, rfl, fun j hj => ?_⟩⟩
  obtain rfl : j = 0 := by omega
  have hh := heap_new w (.cells #[.int .i64 m] 3)
  simp only [World.cell?, hh, Nat.zero_add]
  simp

set_option maxRecDepth 100000 in
set_option maxHeartbeats 4000000 in
theorem digit_any (ax : Option Addr) (la ca A : Nat) (ay : Option Addr) (lb cb B : Nat) (w : World) (hx : Sl w ax la ca (parts A)) (hy : Sl w ay lb cb (parts B)) (hB : 0 < B) (hA : A < B * 1000000000) (hn : lb ≤ 1000) :
    Calls Tryz.prog 129 #[.slice ax la ca, .slice ay lb cb] w fun e w' => e = .returned (.int .i64 ((A / B : Nat) : Int)) ∧ Below w.heap.size w w' := by
  obtain ⟨q, hq⟩ : ∃ q, A / B = q := ⟨_, rfl⟩
  have hq1 : q * B ≤ A := by rw [← hq]; exact Nat.div_mul_le_self A B
  have hq2 : A < (q + 1) * B := by rw [← hq]; have := Nat.div_add_mod A B; have := Nat.mod_lt A hB; rw [Nat.add_mul, Nat.mul_comm (A / B) B]; omega
  have hq3 : q < 1000000000 := by rw [← hq]; exact Nat.div_lt_of_lt_mul hA
  rw [hq]
  have HT := Lib.hid (fun ao l c (m : Int) (w : World) (h0 : 0 ≤ m) (h1 : m < 1000000000) (h2 : l ≤ 100000) (hy : Sl w ay lb cb (parts B)) (h : Sl w ao l c (parts m.toNat)) => refTimes_any ay lb cb (parts B) ao l c (parts m.toNat) w hy h (parts_dig _) (parts_dig _) (by omega) h2)
  have HS := Lib.hid (fun ao l c (xs : List Int) (w : World) (h : Sl w ao l c xs) (hx : Sl w ax la ca (parts A)) => size_below ao l c xs ax la ca (parts A) w h hx)
  have HQ := Lib.hid (And.intro hq1 hq2)
  clear hq hA hq1 hq2
  go_enter Tryz.func129, Tryz.ntmps129
  go_wp2
  go_loopw [5, 6, 7, 8] (fun lo hi_ _ _ wr => ∃ l h : Nat, lo = .int .i64 l ∧ hi_ = .int .i64 h ∧ l ≤ q ∧ q ≤ h ∧ h ≤ 999999999 ∧ Below w.heap.size w wr) (fun lo hi_ _ _ _ => (intOf hi_ - intOf lo).toNat)
  case atStart => exact ⟨0, 999999999, rfl, rfl, Nat.zero_le _, by omega, Nat.le_refl _, Below.refl _ _⟩
  case round =>
    obtain ⟨l, h, rfl, rfl, h1, h2, h3, hbel⟩ := hrel
    have hsx := hx.below hbel
    have hsy := hy.below hbel
    have hbz := hbel.size
    by_cases hlt : l < h
    · obtain ⟨m, hm⟩ : ∃ m : Nat, (l + h + 1) / 2 = m := ⟨_, rfl⟩
      have hm1 : l < m := by omega
      have hm2 : m ≤ h := by omega
      have hmI : Int.tdiv ((l : Int) + (h : Int) + 1) 2 = (m : Int) := by
        rw [Int.tdiv_eq_ediv_of_nonneg (by omega)]; omega
      have hmJ : ((l : Int) + (h : Int) + 1) / 2 = (m : Int) := by omega
      have Hm := Lib.hid hm
      clear hm
      have hb2 : Below w.heap.size w (wr.alloc (.cells #[.int .i64 (m : Int)] 3)) := hbel.alloc hbz _
      have hsx2 := hsx.alloc (.cells #[.int .i64 (m : Int)] 3)
      have hsy2 := hsy.alloc (.cells #[.int .i64 (m : Int)] 3)
      go_wp2_with fail
      refine (shorn_any _ _ _ _ _ (one_new wr (m : Int)) (by omega)).mono ?_
      rintro e w2 ⟨a2, l2, c2, rfl, s2, b2⟩
      rw [trim_eq (dig_one (by omega) (by omega)), show val [(m : Int)] = (m : Int) by simp [val]] at s2
      have hl2 : l2 ≤ 40 := by
        rw [← s2.length, parts_len]
        have : (1000000000 : Nat) ^ 1 ≤ 1000000000 ^ 40 := Nat.pow_le_pow_right (by omega) (by omega)
        omega
      replace hsx2 := hsx2.below b2
      replace hsy2 := hsy2.below b2
      replace hb2 := hb2.trans (b2.mono hb2.size)
      clear b2 hsx hsy hbel
      go_wp2_with fail
      refine (HT.out _ _ _ _ _ (by omega) (by omega) (by omega) hsy2 s2).mono ?_
      rintro e w3 ⟨a3, l3, c3, rfl, s3, b3⟩
      rw [val_parts, val_parts, show ((B : Int) * (((m : Int).toNat : Nat) : Int)).toNat = B * m by rw [Int.toNat_natCast, ← Int.natCast_mul]; exact Int.toNat_natCast _] at s3
      replace hsx2 := hsx2.below b3
      replace hb2 := hb2.trans (b3.mono hb2.size)
      clear b3 s2 hsy2
      go_wp2_with fail
      refine (HS.out _ _ _ _ _ s3 hsx2).mono ?_
      rintro e w4 ⟨rfl, b4⟩
      replace hb2 := hb2.trans (b4.mono hb2.size)
      rw [cmpL_parts]
      clear b4 s3 hsx2
      by_cases hle : B * m ≤ A
      · have hs : decide (cmp3 ((B * m : Nat) : Int) (A : Int) ≤ 0) = true := by
          refine decide_eq_true ?_
          unfold cmp3; split
          · omega
          · split <;> omega
        have hmq : m ≤ q := by
          obtain ⟨g1, g2⟩ := HQ.out
          rcases Nat.lt_or_ge q m with h' | h'
          · have : (q + 1) * B ≤ m * B := Nat.mul_le_mul_right B h'
            rw [Nat.mul_comm] at hle; omega
          · exact h'
        generalize cmp3 ((B * m : Nat) : Int) (A : Int) = v at *
        go_wp2
        go_roundw
        case rel => exact ⟨m, h, rfl, rfl, hmq, h2, h3, hb2⟩
        case measure => simp [intOf]; omega
      · have hs : decide (cmp3 ((B * m : Nat) : Int) (A : Int) ≤ 0) = false := by
          refine decide_eq_false ?_
          unfold cmp3; rw [if_neg (by omega), if_neg (by omega)]; omega
        have hmq : q < m := by
          obtain ⟨g1, g2⟩ := HQ.out
          rcases Nat.lt_or_ge q m with h' | h'
          · exact h'
          · have : m * B ≤ q * B := Nat.mul_le_mul_right B h'
            rw [Nat.mul_comm] at hle; omega
        generalize cmp3 ((B * m : Nat) : Int) (A : Int) = v at *
        obtain ⟨m', hm'⟩ : ∃ m' : Nat, m = m' + 1 := ⟨m - 1, by omega⟩
        subst hm'
        go_wp2
        go_roundw
        case rel => exact ⟨l, m', rfl, by go_num, h1, by omega, by omega, hb2⟩
        case measure => simp [intOf]; omega
    · obtain rfl : l = q := by omega
      go_wp2
      go_ret
      exact ⟨rfl, hbel⟩
end Go.Proofs.YtfjnplhhgdfepaaGreatDoor

/- The reference's long division: plain mathematics. -/
namespace Go.Proofs.YtfjnplhhgdfepaaGreatDoor

theorem val_drop1 (xs : List Int) (k : Nat) (h : k < xs.length) : val (xs.drop k) = xs.getD k 0 + 1000000000 * val (xs.drop (k + 1)) := by
  rw [List.drop_eq_getElem_cons h, getD_of_lt _ _ h]; rfl

/-- divide, with k parts left. -/
def RDiv (A B k R : Nat) (Z : List Int) : Prop :=
  Z.length = (parts A).length ∧ Dig Z ∧ R < B ∧ val ((parts A).drop k) = val (Z.drop k) * B + R
theorem RDiv.start {A B : Nat} (hB : 0 < B) : RDiv A B (parts A).length 0 (List.replicate (parts A).length 0) := by
  refine ⟨by simp, fun x hx => ?_, hB, ?_⟩
  · rw [(List.mem_replicate.1 hx).2]; omega
  · rw [List.drop_of_length_le (Nat.le_refl _), List.drop_of_length_le (by simp)]; simp [val]
theorem RDiv.rest {A B k R : Nat} {Z : List Int} (h : RDiv A B (k + 1) R Z) (R' : Nat) (hR : (R' : Int) = (parts A).getD k 0 + 1000000000 * R) :
    R' < B * 1000000000 ∧ trim ((parts A).getD k 0 :: parts R) = parts R' := by
  obtain ⟨h1, h2, h3, h4⟩ := h
  have hx := (parts_dig A).getD k
  refine ⟨by omega, ?_⟩
  have hd : Dig ((parts A).getD k 0 :: parts R) := by
    intro y hy
    rcases List.mem_cons.1 hy with e | e
    · rw [e]; exact hx
    · exact parts_dig R y e
  rw [trim_eq hd]
  have e : val ((parts A).getD k 0 :: parts R) = (R' : Int) := by
    rw [hR, show val ((parts A).getD k 0 :: parts R) = (parts A).getD k 0 + 1000000000 * val (parts R) from rfl, val_parts]
  rw [e, Int.toNat_natCast]
theorem RDiv.step {A B k R : Nat} {Z : List Int} (h : RDiv A B (k + 1) R Z) (hB : 0 < B) (hk : k < (parts A).length) (R' : Nat) (hR : (R' : Int) = (parts A).getD k 0 + 1000000000 * R) :
    RDiv A B k (R' % B) (Z.set k ((R' / B : Nat) : Int)) := by
  have hr := (h.rest R' hR).1
  obtain ⟨h1, h2, h3, h4⟩ := h
  have hq : R' / B < 1000000000 := Nat.div_lt_of_lt_mul hr
  refine ⟨by simp [h1], fun y hy => ?_, Nat.mod_lt _ hB, ?_⟩
  · rcases List.mem_or_eq_of_mem_set hy with e | e
    · exact h2 y e
    · rw [e]; generalize R' / B = q at hq; omega
  · rw [val_drop1 _ _ hk, h4, val_drop1 (Z.set k ((R' / B : Nat) : Int)) k (by rw [List.length_set, h1]; exact hk), getD_set_eq _ _ _ (by omega)]
    have e : (Z.set k ((R' / B : Nat) : Int)).drop (k + 1) = Z.drop (k + 1) := by simp [List.drop_set]
    rw [e]
    have hm : (R' : Int) = (B : Int) * ((R' / B : Nat) : Int) + ((R' % B : Nat) : Int) := by
      have := Nat.div_add_mod R' B
      exact_mod_cast this.symm
    generalize ((R' / B : Nat) : Int) = q at *
    generalize ((R' % B : Nat) : Int) = m at *
    grind
theorem RDiv.finish {A B R : Nat} {Z : List Int} (h : RDiv A B 0 R Z) : trim Z = parts (A / B) ∧ R = A % B := by
  obtain ⟨h1, h2, h3, h4⟩ := h
  rw [List.drop_zero, List.drop_zero, val_parts] at h4
  have hB : 0 < B := by omega
  obtain ⟨z, hz⟩ := Int.eq_ofNat_of_zero_le (val_nonneg h2)
  rw [hz] at h4
  have h5 : A = z * B + R := by exact_mod_cast h4
  rw [trim_eq h2, hz, Int.toNat_natCast]
  subst h5
  constructor
  · rw [Nat.mul_comm, Nat.mul_add_div hB, Nat.div_eq_of_lt h3, Nat.add_zero]
  · rw [Nat.mul_comm, Nat.mul_add_mod, Nat.mod_eq_of_lt h3]
end Go.Proofs.YtfjnplhhgdfepaaGreatDoor

/- The reference's shorn: where its copy lies. -/
namespace Go.Proofs.YtfjnplhhgdfepaaGreatDoor
open Go.RowKit

theorem Sl.of_owns_new {w : World} {base n : Nat} {v : Value} {xs : List Int} (h : w.ownsRow base 3 1 v n (xs.map (Value.int .i64))) :
    ∃ ao cap, v = .slice ao n cap ∧ Sl w ao n cap xs ∧ ∀ b o t, ao = some ⟨b, o, t⟩ → base ≤ b := by
  obtain ⟨ao, cap, h1, h2⟩ := Sl.of_owns h
  refine ⟨ao, cap, h1, h2, fun b o t e => ?_⟩
  subst e
  obtain ⟨_, ⟨h3, _⟩ | ⟨g, c, cur, h3, h4, _⟩⟩ := h
  · rw [h1] at h3; cases h3
  · rw [h1] at h3; injection h3 with e1 e2 e3; injection e1 with e1; injection e1 with e1 e2 e3; omega
def RetNew (xs : List Int) (w : World) (e : Ending) (w' : World) : Prop := ∃ ao len cap, e = .returned (.slice ao len cap) ∧ Sl w' ao len cap xs ∧ Below w.heap.size w w' ∧ ∀ b o t, ao = some ⟨b, o, t⟩ → w.heap.size ≤ b
theorem Sl.off {w : World} {ao : Option Addr} {len cap : Nat} {xs : List Int} (h : Sl w ao len cap xs) {g o : Nat} (hn : ∀ b p t, ao = some ⟨b, p, t⟩ → g < b) (u : Value) :
    Sl (w.setCell ⟨g, o, none⟩ u) ao len cap xs := by
  obtain ⟨h1, h2, h3, h4 | ⟨b, p, h5, h6⟩⟩ := h
  · exact ⟨h1, h2, h3, .inl h4⟩
  · refine ⟨h1, h2, h3, .inr ⟨b, p, h5, fun j hj => ?_⟩⟩
    have := hn b p none h5
    rw [cell_set_ne (fun e => by injection e with e1 e2; omega) rfl rfl]
    exact h6 j hj

set_option maxRecDepth 100000 in
set_option maxHeartbeats 1000000 in
theorem shorn_new (ao : Option Addr) (len cap : Nat) (xs : List Int) (w : World) (hs : Sl w ao len cap xs) (hm : len ≤ 1000000) :
    Calls Tryz.prog 92 #[.slice ao len cap] w (RetNew (trim xs) w) := by
  have hb := hs.len_le
  have hlx := Lib.hid hs.length
  obtain ⟨i0, hi, hz0, hz1, hz2⟩ := info_parts Tryz.info3
  go_enter Tryz.func92, Tryz.ntmps92
  go_wp2
  go_loop [3] (fun s => ∃ n : Nat, n ≤ len ∧ s = .int .i64 n ∧ trim (xs.take n) = trim xs) (fun s => (intOf s).toNat)
  case atStart => exact ⟨len, Nat.le_refl _, rfl, by rw [← hlx.out, List.take_length]⟩
  case round =>
    obtain ⟨n, hn, rfl, ht⟩ := hrel
    have Ht := Lib.hid ht
    clear ht
    rcases n with _ | n
    · have e : trim xs = [] := by rw [← Ht.out]; rfl
      rw [e]
      rcases hs.2.2.2 with ⟨rfl, hc⟩ | ⟨b, o, rfl, hc⟩
      · obtain rfl : len = 0 := by omega
        subst hc
        go_wp2
        go_ret
        exact ⟨none, 0, 0, rfl, Sl.nil _, Below.refl _ _, fun _ _ _ e => by cases e⟩
      · clear hc
        go_wp2_with (at_builtin; refine wpList_append_own _ rfl _ _ 22 rfl w.heap.size 3 i0 (.int .i64 0) 1 8 Tryz.underlying22 hi hz0 hz1 hz2 rfl (by decide) _ _ _ rfl (show w.ownsRow w.heap.size 3 1 (.slice none 0 0) 0 [] from ⟨rfl, .inl ⟨rfl, rfl⟩⟩) ⟨b, o, none⟩ 0 cap ((xs.take 0).map (Value.int .i64)) rfl ?qa1 ?qa2 ?qa3 ?qa4 ?qa5 ?qa6 ?_)
        all_goals (first | rfl | (simp; done) | omega | skip)
        intro v' w1 hown hgrow hnil
        subst hnil
        go_wp2
        go_ret
        exact ⟨none, 0, 0, rfl, by rw [e]; exact Sl.nil _, (Below.refl _ w).grown hgrow (Nat.le_refl _) (by intro k hk; simp [Value.ownBlock] at hk), fun _ _ _ e => by cases e⟩
    · obtain ⟨b, o, rfl, hc⟩ := hs.at (by omega)
      have hcn := hc n (by omega)
      have hi1 : (((n : Int) + 1 - 1)) = (n : Int) := by omega
      have hlt : (n : Int) < (len : Int) := by omega
      by_cases hz : xs.getD n 0 = 0
      · have Hz := Lib.hid hz
        rw [hz] at hcn
        clear hz hc
        go_wp2
        go_round
        case rel => exact ⟨n, by omega, by go_num, by rw [← Ht.out, trim_take_succ xs n (by have := hlx.out; omega) Hz.out]⟩
        case measure => simp [intOf]
      · have hz' : (xs.getD n 0 == 0) = false := by simpa using hz
        obtain ⟨v, hv⟩ : ∃ v, v = xs.getD n 0 := ⟨_, rfl⟩
        rw [← hv] at hcn hz'
        have HT := Lib.hid (trim_take_stop xs n (by have := hlx.out; omega) hz)
        have HC := Lib.hid hc
        clear hz hv hc
        go_wp2_with (at_builtin; refine wpList_append_own _ rfl _ _ 22 rfl w.heap.size 3 i0 (.int .i64 0) 1 8 Tryz.underlying22 hi hz0 hz1 hz2 rfl (by decide) _ _ _ rfl (show w.ownsRow w.heap.size 3 1 (.slice none 0 0) 0 [] from ⟨rfl, .inl ⟨rfl, rfl⟩⟩) ⟨b, o, none⟩ (n + 1) cap ((xs.take (n + 1)).map (Value.int .i64)) rfl ?qb1 ?qb2 ?qb3 ?qb4 ?qb5 ?qb6 ?_)
        case qb1 => rw [hlx.out]; omega
        case qb2 =>
          intro j u hj
          have hjn : j < n + 1 := by
            have := (List.getElem?_eq_some_iff.1 hj).1
            rw [List.length_take] at this; omega
          rw [HC.out j (by omega)]
          rw [List.getElem?_take, if_pos hjn, List.getElem?_map, List.getElem?_eq_getElem (by rw [hlx.out]; omega)] at hj
          rw [getD_of_lt _ _ (by rw [hlx.out]; omega)]
          exact hj
        case qb3 =>
          have := ints_oneCell .i64 (xs.take (n + 1))
          rw [List.map_take] at this
          exact this
        case qb4 => unfold maxLen; omega
        case qb5 => omega
        intro v' w1 hown hgrow hnil
        go_wp2
        go_ret
        rw [← List.map_take] at hown
        obtain ⟨ao', cap', hv, hsl, hat⟩ := Sl.of_owns_new hown
        have e : trim xs = xs.take (n + 1) := by rw [← Ht.out]; exact HT.out
        rw [e]
        exact ⟨ao', _, cap', by rw [hv]; rfl, hsl, (Below.refl _ w).grown hgrow (Nat.le_refl _) (by intro k hk; simp [Value.ownBlock] at hk), hat⟩
end Go.Proofs.YtfjnplhhgdfepaaGreatDoor

/- The reference's divide. -/
namespace Go.Proofs.YtfjnplhhgdfepaaGreatDoor
open Go.RowKit

theorem own_one (w : World) (x : Int) : (w.alloc (.cells #[.int .i64 x] 3)).ownsRow w.heap.size 3 1 (.slice (some ⟨w.heap.size, 0, none⟩) 1 1) 1 [.int .i64 x] :=
  ⟨rfl, .inr ⟨w.heap.size, 1, #[.int .i64 x], rfl, Nat.le_refl _, heap_alloc_new w _, Nat.le_refl _, by unfold maxLen; omega, rfl, rfl⟩⟩

set_option maxRecDepth 100000 in
set_option maxHeartbeats 4000000 in
theorem refDivide_any (ax : Option Addr) (la ca A : Nat) (ay : Option Addr) (lb cb B : Nat) (w : World) (hx : Sl w ax la ca (parts A)) (hy : Sl w ay lb cb (parts B)) (hB : 0 < B) (hm : la ≤ 1000) (hn : lb ≤ 1000) :
    Calls Tryz.prog 101 #[.slice ax la ca, .slice ay lb cb] w (fun e w' => ∃ ao l c bo l' c', e = .returned (.tuple #[.slice ao l c, .slice bo l' c']) ∧ Sl w' ao l c (parts (A / B)) ∧ Sl w' bo l' c' (parts (A % B)) ∧ Below w.heap.size w w') := by
  obtain ⟨i0, hi, hz0, hz1, hz2⟩ := info_parts Tryz.info3
  have hlx := Lib.hid hx.length
  go_enter Tryz.func101, Tryz.ntmps101
  go_wp2_with (at_make; refine wpList_make_full _ rfl _ _ 22 rfl w.heap.size 3 i0 (.int .i64 0) 1 Tryz.underlying22 hi hz0 hz1 _ _ _ _ la rfl rfl ?c1 ?c2 ?c3 ?c4 ?c5 ?_)
  case c1 => omega
  case c2 => omega
  case c3 => rw [hz2]; omega
  case c4 => unfold maxLen; omega
  case c5 => omega
  intro w1 hown hgrow
  have hrow := RowOf.made hown rfl
  have hb1 : Below w.heap.size w w1 := (Below.refl _ _).grown hgrow (Nat.le_refl _) (fun _ h => by cases h)
  generalize hg : w.heap.size = g at *
  have Hg := Lib.hid hg
  clear hg hown hgrow
  go_wp2
  have hsz1 := hb1.size
  go_loopw [7, 8, 9] (fun r i _ wr => ∃ (k R : Nat) (Z : List Int) (ar : Option Addr) (lr cr : Nat), k ≤ la ∧ i = .int .i64 ((k : Int) - 1) ∧ r = .slice ar lr cr ∧ RDiv A B k R Z ∧ RowOf wr g Z ∧ Sl wr ar lr cr (parts R) ∧ Below g w wr) (fun _ i _ _ => (intOf i + 1).toNat)
  case atStart => exact ⟨la, 0, _, none, 0, 0, Nat.le_refl _, rfl, rfl, by have := RDiv.start (A := A) hB; rwa [hlx.out] at this, hrow, by rw [parts_zero]; exact Sl.nil _, hb1⟩
  case round =>
    clear hb1 hrow hsz1
    obtain ⟨k, R, Z, ar, lr, cr, hk, rfl, rfl, hinv, hrow, hsr, hbel⟩ := hrel
    have hsx := hx.below (by rw [Hg.out]; exact hbel)
    have hsy := hy.below (by rw [Hg.out]; exact hbel)
    have hbz := hbel.size
    have hlr : lr ≤ 1000 := by
      have h1 := (parts_len B lb).1 (by rw [hy.length]; exact Nat.le_refl _)
      have h2 := (parts_len R lb).2 (Nat.lt_trans hinv.2.2.1 h1)
      rw [hsr.length] at h2
      omega
    have HI := Lib.hid hinv
    clear hinv
    rcases k with _ | k
    · obtain ⟨hf1, hf2⟩ := HI.out.finish
      have hzl : Z.length = la := by rw [HI.out.1]; exact hlx.out
      go_wp2_with fail
      refine (shorn_any _ _ _ _ _ (hrow.sl la hzl (by omega)) (by omega)).mono ?_
      rintro e w3 ⟨a3, l3, c3, rfl, s3, b3⟩
      rw [hf1] at s3
      rw [hf2] at hsr
      replace hsr := hsr.below b3
      replace hbel := hbel.trans (b3.mono (by rw [← Hg.out]; exact hbel.size))
      go_wp2
      go_ret2
      exact ⟨a3, l3, c3, ar, lr, cr, rfl, s3, hsr, by rw [Hg.out]; exact hbel⟩
    · obtain ⟨bx, ox, rfl, hcx⟩ := hsx.at (by omega)
      have hcxk := hcx k (by omega)
      have hxd := parts_dig A |>.getD k
      generalize hxk : (parts A).getD k 0 = x at hcxk hxd
      have Hxk := Lib.hid hxk
      clear hcx hxk
      have hkI : ((k + 1 : Nat) : Int) - 1 = (k : Int) := by omega
      rw [hkI]
      have hla2 := Lib.hid hsr.length
      rcases hsr.2.2.2 with ⟨rfl, hc0⟩ | ⟨br, orr, rfl, hcr⟩
      · obtain rfl : lr = 0 := by have := hsr.len_le; omega
        subst hc0
        have hpR : parts R = [] := List.eq_nil_of_length_eq_zero hla2.out
        go_wp2_with (at_builtin; refine wpList_append_own_none rfl _ _ 22 rfl wr.heap.size 3 i0 1 Tryz.underlying22 hi _ _ _ rfl (own_one wr x) rfl ?_)
        have hsl2 := one_new wr x
        rw [show [x] = x :: parts R by rw [hpR]] at hsl2
        have hb2 : Below wr.heap.size wr (wr.alloc (.cells #[.int .i64 x] 3)) := (Below.refl _ _).alloc (Nat.le_refl _) _
        obtain ⟨R', hR'⟩ : ∃ R' : Nat, (R' : Int) = x + 1000000000 * R := ⟨(x + 1000000000 * R).toNat, by omega⟩
        obtain ⟨hr1, hr2⟩ := HI.out.rest R' (by rw [Hxk.out]; exact hR')
        rw [Hxk.out] at hr2
        obtain ⟨q, hq⟩ : ∃ q, R' / B = q := ⟨_, rfl⟩
        have hq1 : B * q ≤ R' := by rw [← hq]; exact Nat.mul_div_le R' B
        have hq3 : q < 1000000000 := by rw [← hq]; exact Nat.div_lt_of_lt_mul hr1
        have hq4 : R' - B * q = R' % B := by rw [← hq]; have := Nat.div_add_mod R' B; omega
        have HF := Lib.hid (HI.out.step hB (by rw [hlx.out]; omega) R' (by rw [Hxk.out]; exact hR'))
        rw [hq] at HF
        have Hq := Lib.hid hq
        have Hq4 := Lib.hid hq4
        clear hR' hq hq4
        replace hsx := hsx.below hb2
        replace hsy := hsy.below hb2
        replace hrow := hrow.below hb2
        replace hbel := hbel.trans (hb2.mono (by rw [← Hg.out]; exact hbel.size))
        clear hb2
        go_wp2_with fail
        refine (shorn_new _ _ _ _ _ hsl2 (by omega)).mono ?_
        rintro e w3 ⟨a3, l3, c3, rfl, s3, b3, hat⟩
        have hoff : ∀ b p t, a3 = some ⟨b, p, t⟩ → g < b := fun b p t e => Nat.lt_of_lt_of_le hrow.lt (hat b p t e)
        clear hat
        rw [hr2] at s3
        replace hsx := hsx.below b3
        replace hsy := hsy.below b3
        replace hrow := hrow.below b3
        replace hbel := hbel.trans (b3.mono (by rw [← Hg.out]; exact hbel.size))
        clear b3 hsl2
        go_wp2_with fail
        refine (digit_any _ _ _ R' _ _ _ B _ s3 hsy hB hr1 hn).mono ?_
        rintro e w4 ⟨rfl, b4⟩
        rw [Hq.out]
        replace hsx := hsx.below b4
        replace hsy := hsy.below b4
        replace hrow := hrow.below b4
        replace s3 := s3.below b4
        replace hbel := hbel.trans (b4.mono (by rw [← Hg.out]; exact hbel.size))
        clear b4
        have hzl : Z.length = la := by rw [HI.out.1]; exact hlx.out
        have hfz := hrow.frozen k
        have hcz := hrow.cell k (by omega)
        have hrow2 := hrow.set k (q : Int)
        have hcz2 := hrow2.cell k (by simp; omega)
        rw [getD_set_eq _ _ _ (by omega)] at hcz2
        have hl3 := Lib.hid s3.length
        have hl3m : l3 ≤ 1001 := by
          have h1 := (parts_len B lb).1 (by rw [hy.length]; exact Nat.le_refl _)
          have h2 := (parts_len R' (lb + 1)).2 (by rw [Nat.pow_succ]; exact Nat.lt_trans hr1 (Nat.mul_lt_mul_of_pos_right h1 (by omega)))
          rw [hl3.out] at h2
          omega
        have hbelS : Below g w (w4.setCell ⟨g, k, none⟩ (.int .i64 q)) := hbel.setCell (Nat.le_refl _) _
        have hsyS : Sl (w4.setCell ⟨g, k, none⟩ (.int .i64 q)) ay lb cb (parts B) := hy.below (by rw [Hg.out]; exact hbelS)
        have hs3S := s3.off (o := k) hoff (.int .i64 (q : Int))
        clear hbel hsy hrow s3
        have hsyA := hsyS.alloc (.cells #[.int .i64 (q : Int)] 3)
        have hs3A := hs3S.alloc (.cells #[.int .i64 (q : Int)] 3)
        have hrowA := hrow2.alloc (.cells #[.int .i64 (q : Int)] 3)
        have hbelA := hbelS.alloc (by have := hbelS.size; have := Hg.out; omega) (.cells #[.int .i64 (q : Int)] 3)
        have hone := one_new (w4.setCell ⟨g, k, none⟩ (.int .i64 (q : Int))) (q : Int)
        rw [World.size_setCell] at hone
        go_wp2_with fail
        refine (shorn_any _ _ _ _ _ hone (by omega)).mono ?_
        rintro e w5 ⟨a5, l5, c5, rfl, s5, b5⟩
        rw [trim_eq (dig_one (by omega) (by omega)), show val [(q : Int)] = (q : Int) by simp [val], Int.toNat_natCast] at s5
        have hl5 : l5 ≤ 40 := by
          rw [← s5.length, parts_len]
          have : (1000000000 : Nat) ^ 1 ≤ 1000000000 ^ 40 := Nat.pow_le_pow_right (by omega) (by omega)
          omega
        clear hsyS hs3S hrow2 hbelS hcz2 hcz hone hfz
        replace hsyA := hsyA.below b5
        replace hs3A := hs3A.below b5
        replace hrowA := hrowA.below b5
        replace hbelA := hbelA.trans (b5.mono (by have := hbelA.size; have := Hg.out; omega))
        clear b5
        go_wp2_with fail
        refine (refTimes_any _ _ _ (parts B) _ _ _ (parts q) _ hsyA s5 (parts_dig _) (parts_dig _) (by omega) (by omega)).mono ?_
        rintro e w6 ⟨a6, l6, c6, rfl, s6, b6⟩
        rw [val_parts, val_parts, show ((B : Int) * (q : Int)).toNat = B * q by rw [← Int.natCast_mul]; exact Int.toNat_natCast _] at s6
        replace hs3A := hs3A.below b6
        replace hrowA := hrowA.below b6
        replace hbelA := hbelA.trans (b6.mono (by have := hbelA.size; have := Hg.out; omega))
        clear b6 s5 hsyA
        have hl6 : l6 ≤ l3 := by rw [← s6.length, ← hl3.out]; exact parts_len_mono hq1
        go_wp2_with fail
        refine (refLess_any _ _ _ (parts R') _ _ _ (parts (B * q)) _ hs3A s6 (parts_dig _) (parts_dig _) (by omega) hl6 (by rw [val_parts, val_parts]; exact_mod_cast hq1)).mono ?_
        rintro e w7 ⟨a7, l7, c7, rfl, s7, b7⟩
        rw [val_parts, val_parts, show ((R' : Int) - ((B * q : Nat) : Int)).toNat = R' % B by rw [← Hq4.out]; omega] at s7
        replace hrowA := hrowA.below b7
        replace hbelA := hbelA.trans (b7.mono (by have := hbelA.size; have := Hg.out; omega))
        clear b7 s6 hs3A
        go_wp2
        go_roundw
        case rel => exact ⟨k, R' % B, _, a7, l7, c7, by omega, by go_num, rfl, HF.out, hrowA, s7, hbelA⟩
        case measure => simp [intOf]
      · have HC := Lib.hid hcr
        clear hcr
        go_wp2_with (at_builtin; refine wpList_append_own _ rfl _ _ 22 rfl wr.heap.size 3 i0 (.int .i64 0) 1 8 Tryz.underlying22 hi hz0 hz1 hz2 rfl (by decide) _ _ _ rfl (own_one wr x) ⟨br, orr, none⟩ lr cr ((parts R).map (Value.int .i64)) rfl ?qc1 ?qc2 ?qc3 ?qc4 ?qc5 ?qc6 ?_)
        case qc1 => rw [List.length_map, hla2.out]; omega
        case qc2 =>
          intro j u hj
          have hjn : j < lr := by
            have := (List.getElem?_eq_some_iff.1 hj).1
            rwa [List.length_map, hla2.out] at this
          rw [Addr.add_lit, (hsr.alloc (.cells #[.int .i64 x] 3)).cellAt j hjn]
          rw [List.getElem?_map, List.getElem?_eq_getElem (by rw [hla2.out]; exact hjn)] at hj
          rw [getD_of_lt _ _ (by rw [hla2.out]; exact hjn)]
          exact hj
        case qc3 => exact ints_oneCell _ _
        case qc4 => unfold maxLen; omega
        case qc5 => omega
        case qc6 => simp
        intro v2 w2 hown2 hgrow2 _
        have hb2 : Below wr.heap.size wr w2 := ((Below.refl _ wr).alloc (Nat.le_refl _) _).grown hgrow2 (by simp) (by intro k' hk'; simp [Value.ownBlock] at hk'; omega)
        obtain ⟨a2, c2, hv2, hsl2⟩ := Sl.of_owns (xs := x :: parts R) hown2
        subst hv2
        clear hown2 hgrow2
        obtain ⟨R', hR'⟩ : ∃ R' : Nat, (R' : Int) = x + 1000000000 * R := ⟨(x + 1000000000 * R).toNat, by omega⟩
        obtain ⟨hr1, hr2⟩ := HI.out.rest R' (by rw [Hxk.out]; exact hR')
        rw [Hxk.out] at hr2
        obtain ⟨q, hq⟩ : ∃ q, R' / B = q := ⟨_, rfl⟩
        have hq1 : B * q ≤ R' := by rw [← hq]; exact Nat.mul_div_le R' B
        have hq3 : q < 1000000000 := by rw [← hq]; exact Nat.div_lt_of_lt_mul hr1
        have hq4 : R' - B * q = R' % B := by rw [← hq]; have := Nat.div_add_mod R' B; omega
        have HF := Lib.hid (HI.out.step hB (by rw [hlx.out]; omega) R' (by rw [Hxk.out]; exact hR'))
        rw [hq] at HF
        have Hq := Lib.hid hq
        have Hq4 := Lib.hid hq4
        clear hR' hq hq4
        replace hsx := hsx.below hb2
        replace hsy := hsy.below hb2
        replace hrow := hrow.below hb2
        replace hbel := hbel.trans (hb2.mono (by rw [← Hg.out]; exact hbel.size))
        clear hb2
        go_wp2_with fail
        refine (shorn_new _ _ _ _ _ hsl2 (by omega)).mono ?_
        rintro e w3 ⟨a3, l3, c3, rfl, s3, b3, hat⟩
        have hoff : ∀ b p t, a3 = some ⟨b, p, t⟩ → g < b := fun b p t e => Nat.lt_of_lt_of_le hrow.lt (hat b p t e)
        clear hat
        rw [hr2] at s3
        replace hsx := hsx.below b3
        replace hsy := hsy.below b3
        replace hrow := hrow.below b3
        replace hbel := hbel.trans (b3.mono (by rw [← Hg.out]; exact hbel.size))
        clear b3 hsl2
        go_wp2_with fail
        refine (digit_any _ _ _ R' _ _ _ B _ s3 hsy hB hr1 hn).mono ?_
        rintro e w4 ⟨rfl, b4⟩
        rw [Hq.out]
        replace hsx := hsx.below b4
        replace hsy := hsy.below b4
        replace hrow := hrow.below b4
        replace s3 := s3.below b4
        replace hbel := hbel.trans (b4.mono (by rw [← Hg.out]; exact hbel.size))
        clear b4
        have hzl : Z.length = la := by rw [HI.out.1]; exact hlx.out
        have hfz := hrow.frozen k
        have hcz := hrow.cell k (by omega)
        have hrow2 := hrow.set k (q : Int)
        have hcz2 := hrow2.cell k (by simp; omega)
        rw [getD_set_eq _ _ _ (by omega)] at hcz2
        have hl3 := Lib.hid s3.length
        have hl3m : l3 ≤ 1001 := by
          have h1 := (parts_len B lb).1 (by rw [hy.length]; exact Nat.le_refl _)
          have h2 := (parts_len R' (lb + 1)).2 (by rw [Nat.pow_succ]; exact Nat.lt_trans hr1 (Nat.mul_lt_mul_of_pos_right h1 (by omega)))
          rw [hl3.out] at h2
          omega
        have hbelS : Below g w (w4.setCell ⟨g, k, none⟩ (.int .i64 q)) := hbel.setCell (Nat.le_refl _) _
        have hsyS : Sl (w4.setCell ⟨g, k, none⟩ (.int .i64 q)) ay lb cb (parts B) := hy.below (by rw [Hg.out]; exact hbelS)
        have hs3S := s3.off (o := k) hoff (.int .i64 (q : Int))
        clear hbel hsy hrow s3
        have hsyA := hsyS.alloc (.cells #[.int .i64 (q : Int)] 3)
        have hs3A := hs3S.alloc (.cells #[.int .i64 (q : Int)] 3)
        have hrowA := hrow2.alloc (.cells #[.int .i64 (q : Int)] 3)
        have hbelA := hbelS.alloc (by have := hbelS.size; have := Hg.out; omega) (.cells #[.int .i64 (q : Int)] 3)
        have hone := one_new (w4.setCell ⟨g, k, none⟩ (.int .i64 (q : Int))) (q : Int)
        rw [World.size_setCell] at hone
        go_wp2_with fail
        refine (shorn_any _ _ _ _ _ hone (by omega)).mono ?_
        rintro e w5 ⟨a5, l5, c5, rfl, s5, b5⟩
        rw [trim_eq (dig_one (by omega) (by omega)), show val [(q : Int)] = (q : Int) by simp [val], Int.toNat_natCast] at s5
        have hl5 : l5 ≤ 40 := by
          rw [← s5.length, parts_len]
          have : (1000000000 : Nat) ^ 1 ≤ 1000000000 ^ 40 := Nat.pow_le_pow_right (by omega) (by omega)
          omega
        clear hsyS hs3S hrow2 hbelS hcz2 hcz hone hfz
        replace hsyA := hsyA.below b5
        replace hs3A := hs3A.below b5
        replace hrowA := hrowA.below b5
        replace hbelA := hbelA.trans (b5.mono (by have := hbelA.size; have := Hg.out; omega))
        clear b5
        go_wp2_with fail
        refine (refTimes_any _ _ _ (parts B) _ _ _ (parts q) _ hsyA s5 (parts_dig _) (parts_dig _) (by omega) (by omega)).mono ?_
        rintro e w6 ⟨a6, l6, c6, rfl, s6, b6⟩
        rw [val_parts, val_parts, show ((B : Int) * (q : Int)).toNat = B * q by rw [← Int.natCast_mul]; exact Int.toNat_natCast _] at s6
        replace hs3A := hs3A.below b6
        replace hrowA := hrowA.below b6
        replace hbelA := hbelA.trans (b6.mono (by have := hbelA.size; have := Hg.out; omega))
        clear b6 s5 hsyA
        have hl6 : l6 ≤ l3 := by rw [← s6.length, ← hl3.out]; exact parts_len_mono hq1
        go_wp2_with fail
        refine (refLess_any _ _ _ (parts R') _ _ _ (parts (B * q)) _ hs3A s6 (parts_dig _) (parts_dig _) (by omega) hl6 (by rw [val_parts, val_parts]; exact_mod_cast hq1)).mono ?_
        rintro e w7 ⟨a7, l7, c7, rfl, s7, b7⟩
        rw [val_parts, val_parts, show ((R' : Int) - ((B * q : Nat) : Int)).toNat = R' % B by rw [← Hq4.out]; omega] at s7
        replace hrowA := hrowA.below b7
        replace hbelA := hbelA.trans (b7.mono (by have := hbelA.size; have := Hg.out; omega))
        clear b7 s6 hs3A
        go_wp2
        go_roundw
        case rel => exact ⟨k, R' % B, _, a7, l7, c7, by omega, by go_num, rfl, HF.out, hrowA, s7, hbelA⟩
        case measure => simp [intOf]
end Go.Proofs.YtfjnplhhgdfepaaGreatDoor

/- The reference's Mod. -/
namespace Go.Proofs.YtfjnplhhgdfepaaGreatDoor
open Go.RowKit

set_option maxRecDepth 100000 in
set_option maxHeartbeats 2000000 in
theorem refMod_ok (x y : Int) (hy0 : y ≠ 0) (hlx : Lim x) (hly : Lim y) (ax : Option Addr) (la ca : Nat) (ay : Option Addr) (lb cb : Nat) (w : World) (hx : Sl w ax la ca (parts x.natAbs)) (hy : Sl w ay lb cb (parts y.natAbs)) (z : Int)
    (hzs : decide (x < 0) = decide (y < 0) ∨ x.natAbs % y.natAbs = 0 → num (decide (y < 0)) ((x.natAbs % y.natAbs : Nat) : Int) = z)
    (hzd : ¬ decide (x < 0) = decide (y < 0) → x.natAbs % y.natAbs ≠ 0 → num (decide (y < 0)) ((y.natAbs - x.natAbs % y.natAbs : Nat) : Int) = z) (hzl : Lim z) :
    Calls Tryz.prog 53 #[.agg #[.bool (decide (x < 0)), .slice ax la ca], .agg #[.bool (decide (y < 0)), .slice ay lb cb]] w (RetE z 0 w) := by
  have hok := two_ok ⟨hlx, hly, rfl, rfl, rfl, rfl⟩
  have h1 : la ≤ 40 := by have := hlx; unfold Lim at this; rwa [hx.length] at this
  have h2 : lb ≤ 40 := by have := hly; unfold Lim at this; rwa [hy.length] at this
  have hB : 0 < y.natAbs := by omega
  have hlb : 0 < lb := by
    rcases Nat.eq_zero_or_pos lb with h | h
    · have := (parts_len y.natAbs 0).1 (by rw [hy.length]; omega); omega
    · exact h
  have hA := fun w hx hy => are_any (decide (x < 0)) ax la ca (parts x.natAbs) (decide (y < 0)) ay lb cb (parts y.natAbs) w hx hy
  rw [hok] at hA
  have hD := fun w hx hy => refDivide_any ax la ca x.natAbs ay lb cb y.natAbs w hx hy hB (by omega) (by omega)
  generalize hR : x.natAbs % y.natAbs = R at *
  generalize hsx : decide (x < 0) = sx at *
  generalize hsy : decide (y < 0) = sy at *
  have HZs := Lib.hid hzs; have HZd := Lib.hid hzd; have Hfit := Lib.hid (fitR_ok hzl)
  have HR := Lib.hid (show R < y.natAbs by rw [← hR]; exact Nat.mod_lt _ hB)
  have Hly := Lib.hid hly
  clear hzs hzd hzl
  have HA := Lib.hid hA; have HD := Lib.hid hD
  clear hA hD hsx hsy hok hlx hly
  go_enter Tryz.func53, Tryz.ntmps53
  go_wp2_with fail
  refine (HA.out _ (((hx.alloc _).alloc _).alloc _) (((hy.alloc _).alloc _).alloc _)).mono ?_
  rintro e w1 ⟨rfl, b1⟩
  obtain ⟨Ta, Tb, Tr, hz, hbb⟩ := kept3 _ _ _ _ b1
  have sx1 := (((hx.alloc (.cells #[.bool sx, .slice ax la ca] 24)).alloc (.cells #[.bool sy, .slice ay lb cb] 24)).alloc (.cells #[.bool false, .slice none 0 0] 24)).below b1
  have sy1 := (((hy.alloc (.cells #[.bool sx, .slice ax la ca] 24)).alloc (.cells #[.bool sy, .slice ay lb cb] 24)).alloc (.cells #[.bool false, .slice none 0 0] 24)).below b1
  replace Ta : BoxI w1 w.heap.size sx ax la ca := Ta
  replace Tb : BoxI w1 (w.heap.size + 1) sy ay lb cb := Tb
  replace Tr : BoxI w1 (w.heap.size + 1 + 1) false none 0 0 := Tr
  clear b1 hx hy hz
  have ca0 := Ta.cells.1; have ca1 := Ta.cells.2; have cb0 := Tb.cells.1; have cb1 := Tb.cells.2
  have cr0 := Tr.cells.1; have cr1 := Tr.cells.2; have fr0 := Tr.froz.1; have fr1 := Tr.froz.2; have zr := Tr.lt
  go_wp2_with fail
  refine (HD.out _ sx1 sy1).mono ?_
  rintro e w2 ⟨aq, lq, cq, ar, lr, cr, rfl, sq, sr, b2⟩
  replace Ta := Ta.below b2
  replace Tb := Tb.below b2
  replace Tr := Tr.below b2
  have sy2 := sy1.below b2
  have hy2 := sy2.length
  replace hbb := hbb.trans (b2.mono hbb.size)
  replace ca0 := Ta.cells.1; replace ca1 := Ta.cells.2; replace cb0 := Tb.cells.1; replace cb1 := Tb.cells.2
  replace cr0 := Tr.cells.1; replace cr1 := Tr.cells.2; replace fr0 := Tr.froz.1; replace fr1 := Tr.froz.2; replace zr := Tr.lt
  clear b2 sx1 sy1
  have hlr := sr.length
  have hlr40 : lr ≤ lb := by rw [← hlr, ← hy2]; exact parts_len_mono (Nat.le_of_lt HR.out)
  go_wp2_with fail
  · have hM := made_any sy ar lr cr _ w2 sr (parts_dig _) (by omega)
    rw [val_parts, HZs.out (by first | exact .inl rfl | exact .inl (by assumption) | exact .inr (by have := (parts_len R 0).1 (by omega); omega)), Hfit.out] at hM
    refine hM.mono ?_
    rintro e w3 ⟨az, lz, cz, rfl, sz, b3⟩
    replace Ta := Ta.below b3
    replace Tb := Tb.below b3
    replace Tr := Tr.below b3
    replace hbb := hbb.trans (b3.mono hbb.size)
    replace ca0 := Ta.cells.1; replace ca1 := Ta.cells.2; replace cb0 := Tb.cells.1; replace cb1 := Tb.cells.2
    replace cr0 := Tr.cells.1; replace cr1 := Tr.cells.2; replace fr0 := Tr.froz.1; replace fr1 := Tr.froz.2; replace zr := Tr.lt
    clear b3
    go_wp2
    refine bodyPost_ret (v := .tuple #[.agg #[.bool (decide (z < 0)), .slice az lz cz], .int .i64 0]) (by simp [results, Tryz.results53, go_sem, cr0, cr1]) rfl ?_
    exact ⟨az, lz, cz, rfl, sz.store2 cr0 cr1 _ _, (hbb.setCell (by simp; omega) _).setCell (by simp; omega) _⟩
  · have hL := refLess_any ay lb cb _ ar lr cr _ w2 sy2 sr (parts_dig _) (parts_dig _) (by omega) hlr40 (by rw [val_parts, val_parts]; have := HR.out; omega)
    rw [val_parts, val_parts, show ((y.natAbs : Int) - (R : Int)).toNat = y.natAbs - R by have := HR.out; omega] at hL
    have hz := HZd.out (by assumption) (by rintro rfl; rw [parts_zero] at hlr; simp at hlr; omega)
    refine hL.mono ?_
    rintro e w3 ⟨al, ll, cl, rfl, sl, b3⟩
    have hll : ll ≤ 40 := by
      have h := parts_len_mono (show y.natAbs - R ≤ y.natAbs by omega)
      rw [sl.length, hy2] at h
      omega
    have hM := fun w h => made_any sy al ll cl (parts (y.natAbs - R)) w h (parts_dig _) (by omega)
    rw [val_parts, hz, Hfit.out] at hM
    replace Ta := Ta.below b3
    replace Tb := Tb.below b3
    replace Tr := Tr.below b3
    replace hbb := hbb.trans (b3.mono hbb.size)
    replace ca0 := Ta.cells.1; replace ca1 := Ta.cells.2; replace cb0 := Tb.cells.1; replace cb1 := Tb.cells.2
    replace cr0 := Tr.cells.1; replace cr1 := Tr.cells.2; replace fr0 := Tr.froz.1; replace fr1 := Tr.froz.2; replace zr := Tr.lt
    clear b3
    have HM := Lib.hid hM
    clear hM hL hz
    go_wp2_with fail
    refine (HM.out _ sl).mono ?_
    rintro e w4 ⟨az, lz, cz, rfl, sz, b3⟩
    replace Ta := Ta.below b3
    replace Tb := Tb.below b3
    replace Tr := Tr.below b3
    replace hbb := hbb.trans (b3.mono hbb.size)
    replace ca0 := Ta.cells.1; replace ca1 := Ta.cells.2; replace cb0 := Tb.cells.1; replace cb1 := Tb.cells.2
    replace cr0 := Tr.cells.1; replace cr1 := Tr.cells.2; replace fr0 := Tr.froz.1; replace fr1 := Tr.froz.2; replace zr := Tr.lt
    clear b3
    go_wp2
    refine bodyPost_ret (v := .tuple #[.agg #[.bool (decide (z < 0)), .slice az lz cz], .int .i64 0]) (by simp [results, Tryz.results53, go_sem, cr0, cr1]) rfl ?_
    exact ⟨az, lz, cz, rfl, sz.store2 cr0 cr1 _ _, (hbb.setCell (by simp; omega) _).setCell (by simp; omega) _⟩
  · have hM := made_any sy ar lr cr _ w2 sr (parts_dig _) (by omega)
    rw [val_parts, HZs.out (.inr (by have e : lr = 0 := by first | assumption | omega | (simp_all; done) | (trace_state; simp_all)
                                     have h := (parts_len R 0).1 (by rw [sr.length, e]; exact Nat.le_refl 0)
                                     rw [Nat.pow_zero] at h
                                     exact Nat.lt_one_iff.1 h)), Hfit.out] at hM
    refine hM.mono ?_
    rintro e w3 ⟨az, lz, cz, rfl, sz, b3⟩
    replace Ta := Ta.below b3
    replace Tb := Tb.below b3
    replace Tr := Tr.below b3
    replace hbb := hbb.trans (b3.mono hbb.size)
    replace ca0 := Ta.cells.1; replace ca1 := Ta.cells.2; replace cb0 := Tb.cells.1; replace cb1 := Tb.cells.2
    replace cr0 := Tr.cells.1; replace cr1 := Tr.cells.2; replace fr0 := Tr.froz.1; replace fr1 := Tr.froz.2; replace zr := Tr.lt
    clear b3
    go_wp2
    refine bodyPost_ret (v := .tuple #[.agg #[.bool (decide (z < 0)), .slice az lz cz], .int .i64 0]) (by simp [results, Tryz.results53, go_sem, cr0, cr1]) rfl ?_
    exact ⟨az, lz, cz, rfl, sz.store2 cr0 cr1 _ _, (hbb.setCell (by simp; omega) _).setCell (by simp; omega) _⟩
end Go.Proofs.YtfjnplhhgdfepaaGreatDoor

/- The reference's Div. -/
namespace Go.Proofs.YtfjnplhhgdfepaaGreatDoor
open Go.RowKit

set_option maxRecDepth 100000 in
set_option maxHeartbeats 2000000 in
theorem refDiv_ok (x y : Int) (hy0 : y ≠ 0) (hlx : Lim x) (hly : Lim y) (ax : Option Addr) (la ca : Nat) (ay : Option Addr) (lb cb : Nat) (w : World) (hx : Sl w ax la ca (parts x.natAbs)) (hy : Sl w ay lb cb (parts y.natAbs)) (z : Int)
    (hzs : decide (x < 0) = decide (y < 0) → num false ((x.natAbs / y.natAbs : Nat) : Int) = z)
    (hz0 : ¬ decide (x < 0) = decide (y < 0) → x.natAbs % y.natAbs = 0 → num true ((x.natAbs / y.natAbs : Nat) : Int) = z)
    (hzd : ¬ decide (x < 0) = decide (y < 0) → x.natAbs % y.natAbs ≠ 0 → num true ((x.natAbs / y.natAbs + 1 : Nat) : Int) = z) (hzl : Lim z) :
    Calls Tryz.prog 51 #[.agg #[.bool (decide (x < 0)), .slice ax la ca], .agg #[.bool (decide (y < 0)), .slice ay lb cb]] w (RetE z 0 w) := by
  have hok := two_ok ⟨hlx, hly, rfl, rfl, rfl, rfl⟩
  have h1 : la ≤ 40 := by have := hlx; unfold Lim at this; rwa [hx.length] at this
  have h2 : lb ≤ 40 := by have := hly; unfold Lim at this; rwa [hy.length] at this
  have hB : 0 < y.natAbs := by omega
  have hlb : 0 < lb := by
    rcases Nat.eq_zero_or_pos lb with h | h
    · have := (parts_len y.natAbs 0).1 (by rw [hy.length]; omega); omega
    · exact h
  have hA := fun w hx hy => are_any (decide (x < 0)) ax la ca (parts x.natAbs) (decide (y < 0)) ay lb cb (parts y.natAbs) w hx hy
  rw [hok] at hA
  have hD := fun w hx hy => refDivide_any ax la ca x.natAbs ay lb cb y.natAbs w hx hy hB (by omega) (by omega)
  have hQ : (parts (x.natAbs / y.natAbs)).length ≤ 40 := by
    have := parts_len_mono (Nat.div_le_self x.natAbs y.natAbs)
    rw [hx.length] at this; omega
  have hQ1 : (parts (x.natAbs / y.natAbs + 1)).length ≤ 41 := by
    rw [parts_len] at hQ ⊢
    have : (1000000000 : Nat) ^ 40 + 1 ≤ 1000000000 ^ 41 := by decide
    omega
  generalize hR : x.natAbs % y.natAbs = R at *
  generalize hQe : x.natAbs / y.natAbs = Q at *
  generalize hsx : decide (x < 0) = sx at *
  generalize hsy : decide (y < 0) = sy at *
  have HZs := Lib.hid hzs; have HZ0 := Lib.hid hz0; have HZd := Lib.hid hzd; have Hfit := Lib.hid (fitR_ok hzl)
  have HQ := Lib.hid hQ; have HQ1 := Lib.hid hQ1
  clear hzs hz0 hzd hzl hQ hQ1 hR hQe
  have HA := Lib.hid hA; have HD := Lib.hid hD
  clear hA hD hsx hsy hok hlx hly
  go_enter Tryz.func51, Tryz.ntmps51
  go_wp2_with fail
  refine (HA.out _ (((hx.alloc _).alloc _).alloc _) (((hy.alloc _).alloc _).alloc _)).mono ?_
  rintro e w1 ⟨rfl, b1⟩
  obtain ⟨Ta, Tb, Tr, hz, hbb⟩ := kept3 _ _ _ _ b1
  have sx1 := (((hx.alloc (.cells #[.bool sx, .slice ax la ca] 24)).alloc (.cells #[.bool sy, .slice ay lb cb] 24)).alloc (.cells #[.bool false, .slice none 0 0] 24)).below b1
  have sy1 := (((hy.alloc (.cells #[.bool sx, .slice ax la ca] 24)).alloc (.cells #[.bool sy, .slice ay lb cb] 24)).alloc (.cells #[.bool false, .slice none 0 0] 24)).below b1
  replace Ta : BoxI w1 w.heap.size sx ax la ca := Ta
  replace Tb : BoxI w1 (w.heap.size + 1) sy ay lb cb := Tb
  replace Tr : BoxI w1 (w.heap.size + 1 + 1) false none 0 0 := Tr
  clear b1 hx hy hz
  have ca0 := Ta.cells.1; have ca1 := Ta.cells.2; have cb0 := Tb.cells.1; have cb1 := Tb.cells.2; have cr0 := Tr.cells.1; have cr1 := Tr.cells.2; have fr0 := Tr.froz.1; have fr1 := Tr.froz.2; have zr := Tr.lt
  go_wp2_with fail
  refine (HD.out _ sx1 sy1).mono ?_
  rintro e w2 ⟨aq, lq, cq, ar, lr, cr, rfl, sq, sr, b2⟩
  have hlq : lq ≤ 40 := by rw [← sq.length]; exact HQ.out
  have hlr := sr.length
  replace Ta := Ta.below b2; replace Tb := Tb.below b2; replace Tr := Tr.below b2; replace hbb := hbb.trans (b2.mono hbb.size); replace ca0 := Ta.cells.1; replace ca1 := Ta.cells.2; replace cb0 := Tb.cells.1; replace cb1 := Tb.cells.2; replace cr0 := Tr.cells.1; replace cr1 := Tr.cells.2; replace fr0 := Tr.froz.1; replace fr1 := Tr.froz.2; replace zr := Tr.lt
  clear b2
  clear sx1 sy1
  by_cases hs : sx = sy
  · subst hs
    go_wp2_with fail
    have hM := made_any false aq lq cq _ w2 sq (parts_dig _) (by omega)
    rw [val_parts, HZs.out (by first | rfl | trivial), Hfit.out] at hM
    refine hM.mono ?_
    rintro e w3 ⟨az, lz, cz, rfl, sz, b3⟩
    replace Ta := Ta.below b3; replace Tb := Tb.below b3; replace Tr := Tr.below b3; replace hbb := hbb.trans (b3.mono hbb.size); replace ca0 := Ta.cells.1; replace ca1 := Ta.cells.2; replace cb0 := Tb.cells.1; replace cb1 := Tb.cells.2; replace cr0 := Tr.cells.1; replace cr1 := Tr.cells.2; replace fr0 := Tr.froz.1; replace fr1 := Tr.froz.2; replace zr := Tr.lt
    clear b3
    go_wp2
    refine bodyPost_ret (v := .tuple #[.agg #[.bool (decide (z < 0)), .slice az lz cz], .int .i64 0]) (by simp [results, Tryz.results51, go_sem, cr0, cr1]) rfl ?_
    exact ⟨az, lz, cz, rfl, sz.store2 cr0 cr1 _ _, (hbb.setCell (by simp; omega) _).setCell (by simp; omega) _⟩
  have hbe : (sx == sy) = false := by simpa using hs
  rcases Nat.eq_zero_or_pos lr with hl0 | hl0
  rotate_left
  · have hz := HZd.out hs (by rintro rfl; rw [parts_zero] at hlr; simp at hlr; omega)
    go_wp2_with fail
    have hS := fun w (h : Sl w aq lq cq (parts Q)) (k : Sl w (some ⟨w2.heap.size, 0, none⟩) 1 1 [1]) => refSum_any aq lq cq (parts Q) (some ⟨w2.heap.size, 0, none⟩) 1 1 [1] w h k (parts_dig _) (by intro y hy; rw [List.mem_singleton.1 hy]; omega) (by omega) (by omega)
    refine (hS _ (sq.alloc _) (one_new w2 1)).mono ?_
    rw [val_parts, show ((Q : Int) + val [1]).toNat = Q + 1 by simp [val] <;> omega]
    rintro e w3 ⟨al, ll, cl, rfl, sl, b3⟩
    have hll : ll ≤ 41 := by rw [← sl.length]; exact HQ1.out
    have hM := fun w h => made_any true al ll cl (parts (Q + 1)) w h (parts_dig _) (by omega)
    rw [val_parts, hz, Hfit.out] at hM
    replace Ta := (Ta.alloc (.cells #[.int .i64 1] 3)).below b3
    replace Tb := (Tb.alloc (.cells #[.int .i64 1] 3)).below b3
    replace Tr := (Tr.alloc (.cells #[.int .i64 1] 3)).below b3
    replace hbb := (hbb.alloc hbb.size (.cells #[.int .i64 1] 3))
    replace hbb := hbb.trans (b3.mono hbb.size)
    replace ca0 := Ta.cells.1; replace ca1 := Ta.cells.2; replace cb0 := Tb.cells.1; replace cb1 := Tb.cells.2; replace cr0 := Tr.cells.1; replace cr1 := Tr.cells.2; replace fr0 := Tr.froz.1; replace fr1 := Tr.froz.2; replace zr := Tr.lt
    clear b3
    have HM := Lib.hid hM
    clear hM hS hz
    go_wp2_with fail
    have hM := HM.out _ sl
    refine hM.mono ?_
    rintro e w3 ⟨az, lz, cz, rfl, sz, b3⟩
    replace Ta := Ta.below b3; replace Tb := Tb.below b3; replace Tr := Tr.below b3; replace hbb := hbb.trans (b3.mono hbb.size); replace ca0 := Ta.cells.1; replace ca1 := Ta.cells.2; replace cb0 := Tb.cells.1; replace cb1 := Tb.cells.2; replace cr0 := Tr.cells.1; replace cr1 := Tr.cells.2; replace fr0 := Tr.froz.1; replace fr1 := Tr.froz.2; replace zr := Tr.lt
    clear b3
    go_wp2
    refine bodyPost_ret (v := .tuple #[.agg #[.bool (decide (z < 0)), .slice az lz cz], .int .i64 0]) (by simp [results, Tryz.results51, go_sem, cr0, cr1]) rfl ?_
    exact ⟨az, lz, cz, rfl, sz.store2 cr0 cr1 _ _, (hbb.setCell (by simp; omega) _).setCell (by simp; omega) _⟩
  · have hR0 : R = 0 := by
      have h := (parts_len R 0).1 (by rw [sr.length, hl0]; exact Nat.le_refl 0)
      rw [Nat.pow_zero] at h
      exact Nat.lt_one_iff.1 h
    subst hl0
    go_wp2_with fail
    have hM := made_any true aq lq cq _ w2 sq (parts_dig _) (by omega)
    rw [val_parts, HZ0.out hs hR0, Hfit.out] at hM
    refine hM.mono ?_
    rintro e w3 ⟨az, lz, cz, rfl, sz, b3⟩
    replace Ta := Ta.below b3; replace Tb := Tb.below b3; replace Tr := Tr.below b3; replace hbb := hbb.trans (b3.mono hbb.size); replace ca0 := Ta.cells.1; replace ca1 := Ta.cells.2; replace cb0 := Tb.cells.1; replace cb1 := Tb.cells.2; replace cr0 := Tr.cells.1; replace cr1 := Tr.cells.2; replace fr0 := Tr.froz.1; replace fr1 := Tr.froz.2; replace zr := Tr.lt
    clear b3
    go_wp2
    refine bodyPost_ret (v := .tuple #[.agg #[.bool (decide (z < 0)), .slice az lz cz], .int .i64 0]) (by simp [results, Tryz.results51, go_sem, cr0, cr1]) rfl ?_
    exact ⟨az, lz, cz, rfl, sz.store2 cr0 cr1 _ _, (hbb.setCell (by simp; omega) _).setCell (by simp; omega) _⟩
end Go.Proofs.YtfjnplhhgdfepaaGreatDoor

/- The reference's small. -/
namespace Go.Proofs.YtfjnplhhgdfepaaGreatDoor
open Go.RowKit

set_option maxRecDepth 100000 in
set_option maxHeartbeats 1000000 in
theorem small_any (ay : Option Addr) (lb cb B : Nat) (w : World) (hy : Sl w ay lb cb (parts B)) :
    Calls Tryz.prog 102 #[.slice ay lb cb] w fun e w' => e = .returned (.int .i64 (if B ≤ 2000 then (B : Int) else 2000)) ∧ Below w.heap.size w w' := by
  have hl := hy.length
  have hb := hy.len_le
  rcases Nat.eq_zero_or_pos lb with h0 | h0
  · subst h0
    have hB : B = 0 := by have := (parts_len B 0).1 (by omega); omega
    subst hB
    go_enter Tryz.func102, Tryz.ntmps102
    go_wp2
    go_ret
    exact ⟨rfl, Below.refl _ _⟩
  · rcases Nat.lt_or_ge 1 lb with h1 | h1
    · have hB : ¬ B ≤ 2000 := fun h => by
        have := (parts_len B 1).2 (by omega)
        omega
      rw [if_neg hB]
      go_enter Tryz.func102, Tryz.ntmps102
      go_wp2
      go_ret
      exact ⟨rfl, Below.refl _ _⟩
    · obtain rfl : lb = 1 := by omega
      have hB : B < 1000000000 := by have := (parts_len B 1).1 (by omega); omega
      obtain ⟨b, o, rfl, hc⟩ := hy.at (by omega)
      have hc0 := hc 0 (by omega)
      have hv : (parts B).getD 0 0 = (B : Int) := by
        have h := val_parts B
        match hp : parts B, hl with
        | [x], _ => rw [hp] at h; simp [val] at h; simp [h]
      rw [hv, Nat.add_zero] at hc0
      clear hc
      by_cases h2 : B ≤ 2000
      · rw [if_pos h2]
        go_enter Tryz.func102, Tryz.ntmps102
        go_wp2
        go_ret
        exact ⟨by go_num, Below.refl _ _⟩
      · rw [if_neg h2]
        go_enter Tryz.func102, Tryz.ntmps102
        go_wp2
        go_ret
        exact ⟨by go_num, Below.refl _ _⟩
end Go.Proofs.YtfjnplhhgdfepaaGreatDoor

/- The reference's FromInt. -/
namespace Go.Proofs.YtfjnplhhgdfepaaGreatDoor
open Go.RowKit

theorem parts_part {P ds : List Int} {k x : Int} (h : P = ds ++ parts k.natAbs) (hk : k ≠ 0) (hx : x = (k.natAbs : Int) % 1000000000) (q : Int) (hq : q.natAbs = k.natAbs / 1000000000) : P = (ds ++ [x]) ++ parts q.natAbs := by
  rw [hq, hx, h, parts_pos k.natAbs (by omega), Int.natCast_emod]; simp
theorem tm_pos {k : Int} (h : 0 ≤ k) : k.tmod 1000000000 = (k.natAbs : Int) % 1000000000 := by
  rw [Int.tmod_eq_emod_of_nonneg h]; omega
theorem tm_neg {k : Int} (h : k < 0) : k.tmod 1000000000 = -((k.natAbs : Int) % 1000000000) := by
  have := Int.neg_tmod (-k) 1000000000
  rw [Int.neg_neg] at this
  rw [this, Int.tmod_eq_emod_of_nonneg (by omega)]
  congr 2; omega
theorem td_abs (k : Int) : (k.tdiv 1000000000).natAbs = k.natAbs / 1000000000 := by
  rw [Int.natAbs_tdiv]; rfl
theorem td_bd {k : Int} (h0 : -9223372036854775808 ≤ k) (h1 : k ≤ 9223372036854775807) : -9223372036854775808 ≤ k.tdiv 1000000000 ∧ k.tdiv 1000000000 ≤ 9223372036854775807 := by
  have := td_abs k
  omega

set_option maxRecDepth 100000 in
set_option maxHeartbeats 2000000 in
theorem refFrom_any (n : Int) (w : World) (h0 : -9223372036854775808 ≤ n) (h1 : n ≤ 9223372036854775807) :
    Calls Tryz.prog 24 #[.int .i64 n] w (RetN n w) := by
  obtain ⟨i0, hi, hz0, hz1, hz2⟩ := info_parts Tryz.info3
  have hmod : n.natAbs ≤ 9223372036854775808 := by omega
  have hl3 := (parts_len n.natAbs 3).2 (Nat.lt_of_le_of_lt hmod (by decide))
  have Hl3 := Lib.hid hl3
  clear hl3 hmod
  generalize hN : parts n.natAbs = P at *
  have HN := Lib.hid hN
  generalize hs : decide (n < 0) = sn at *
  have Hs := Lib.hid hs
  clear hN hs
  go_enter Tryz.func24, Tryz.ntmps24
  go_wp2
  rw [Hs.out]
  go_loopw [0, 4, 5] (fun s v _ wr => ∃ (k : Int) (ds : List Int), s = .int .i64 k ∧ -9223372036854775808 ≤ k ∧ k ≤ 9223372036854775807 ∧ wr.ownsRow (w.heap.size + 1) 3 1 v ds.length (ds.map (Value.int .i64)) ∧ P = ds ++ parts k.natAbs ∧ Below (w.heap.size + 1) (w.alloc (.cells #[.bool false, .slice none 0 0] 24)) wr) (fun s _ _ _ => (intOf s).natAbs)
  case atStart => exact ⟨n, [], rfl, h0, h1, ⟨rfl, .inl ⟨rfl, rfl⟩⟩, HN.out.symm, Below.refl _ _⟩
  case round =>
    obtain ⟨k, ds, rfl, hk0, hk1, hown, hpd, hbel⟩ := hrel
    clear h0 h1
    have hdl : ds.length ≤ 3 := by
      have := Hl3.out
      rw [hpd, List.length_append] at this; omega
    have Hpd := Lib.hid hpd
    have hbz := hbel.size
    simp at hbz
    clear hpd
    by_cases hk : k = 0
    · subst hk
      obtain ⟨ao, cap, rfl, hsl⟩ := Sl.of_owns hown
      have hds := Lib.hid (show ds = P by rw [Hpd.out, show (0 : Int).natAbs = 0 from rfl, parts_zero, List.append_nil])
      obtain ⟨f1, f2, f3, f4, f5⟩ := box2 (w := wr) (g := w.heap.size) (by rw [hbel.block _ (by omega)]; exact heap_new w _)
      go_wp2
      refine bodyPost_ret (v := .agg #[.bool sn, .slice ao ds.length cap]) (by simp [results, Tryz.results24, go_sem, f1, f2]) rfl ?_
      refine ⟨ao, ds.length, cap, by rw [Hs.out], ?_, ((((Below.refl _ w).alloc (Nat.le_refl _) _).trans (hbel.mono (by omega))).setCell (Nat.le_refl _) _).setCell (Nat.le_refl _) _⟩
      rw [HN.out, ← hds.out]
      exact hsl.store2 f1 f2 _ _
    · have hqb := td_bd hk0 hk1
      have hqa := td_abs k
      generalize hq : k.tdiv 1000000000 = q at *
      have hqm : q.natAbs < k.natAbs := by rw [hqa]; omega
      obtain ⟨x, hxe⟩ : ∃ x : Int, (k.natAbs : Int) % 1000000000 = x := ⟨_, rfl⟩
      have hx0 : 0 ≤ x := by omega
      have hx1 : x < 1000000000 := by omega
      have hstep := Lib.hid (parts_part Hpd.out hk hxe.symm q hqa)
      have HQ := Lib.hid hq
      rcases Int.lt_or_le k 0 with hn | hn
      · have ht := tm_neg hn
        rw [hxe] at ht
        clear hxe hqa
        rcases (show x = 0 ∨ 0 < x by omega) with hz | hz
        · subst hz
          go_wp2_with (at_builtin; refine wpList_append_own _ rfl _ _ 22 rfl (w.heap.size + 1) 3 i0 (.int .i64 0) 1 8 Tryz.underlying22 hi hz0 hz1 hz2 rfl (by decide) _ _ _ rfl (hown.alloc _) ⟨wr.heap.size, 0, none⟩ 1 1 [.int .i64 0] rfl ?qc1 ?qc2 ?qc3 ?qc4 ?qc5 ?qc6 ?_)
          case qc1 => rfl
          case qc2 => exact cell_one_new _ _ _
          case qc3 => exact ints_oneCell .i64 [0]
          case qc4 => unfold maxLen; omega
          case qc5 => omega
          case qc6 => simp; omega
          intro v' w1 hown' hgrow _
          go_wp2
          go_roundw
          case rel =>
            refine ⟨q, ds ++ [0], by first | rfl | exact congrArg (Value.int .i64) (by first | assumption | (symm; assumption) | rfl), hqb.1, hqb.2, ?_, hstep.out, (hbel.alloc (by omega) _).grown hgrow (by simp; omega) ?_⟩
            · rw [List.length_append, List.map_append]; exact hown'
            · intro i hi
              rcases hown.2 with ⟨rfl, _⟩ | ⟨g, cap, cur, rfl, hge, _⟩
              · simp [Value.ownBlock] at hi
              · simp [Value.ownBlock] at hi; omega
          case measure => simp [intOf]; omega
        · skip
          go_wp2_with (at_builtin; refine wpList_append_own _ rfl _ _ 22 rfl (w.heap.size + 1) 3 i0 (.int .i64 0) 1 8 Tryz.underlying22 hi hz0 hz1 hz2 rfl (by decide) _ _ _ rfl (hown.alloc _) ⟨wr.heap.size, 0, none⟩ 1 1 [.int .i64 x] rfl ?qc1 ?qc2 ?qc3 ?qc4 ?qc5 ?qc6 ?_)
          case qc1 => rfl
          case qc2 => exact cell_one_new _ _ _
          case qc3 => exact ints_oneCell .i64 [x]
          case qc4 => unfold maxLen; omega
          case qc5 => omega
          case qc6 => simp; omega
          intro v' w1 hown' hgrow _
          go_wp2
          go_roundw
          case rel =>
            refine ⟨q, ds ++ [x], by first | rfl | exact congrArg (Value.int .i64) (by first | assumption | (symm; assumption) | rfl), hqb.1, hqb.2, ?_, hstep.out, (hbel.alloc (by omega) _).grown hgrow (by simp; omega) ?_⟩
            · rw [List.length_append, List.map_append]; exact hown'
            · intro i hi
              rcases hown.2 with ⟨rfl, _⟩ | ⟨g, cap, cur, rfl, hge, _⟩
              · simp [Value.ownBlock] at hi
              · simp [Value.ownBlock] at hi; omega
          case measure => simp [intOf]; omega
      · have ht := tm_pos hn
        rw [hxe] at ht
        clear hxe hqa
        go_wp2_with (at_builtin; refine wpList_append_own _ rfl _ _ 22 rfl (w.heap.size + 1) 3 i0 (.int .i64 0) 1 8 Tryz.underlying22 hi hz0 hz1 hz2 rfl (by decide) _ _ _ rfl (hown.alloc _) ⟨wr.heap.size, 0, none⟩ 1 1 [.int .i64 x] rfl ?qc1 ?qc2 ?qc3 ?qc4 ?qc5 ?qc6 ?_)
        case qc1 => rfl
        case qc2 => exact cell_one_new _ _ _
        case qc3 => exact ints_oneCell .i64 [x]
        case qc4 => unfold maxLen; omega
        case qc5 => omega
        case qc6 => simp; omega
        intro v' w1 hown' hgrow _
        go_wp2
        go_roundw
        case rel =>
          refine ⟨q, ds ++ [x], by first | rfl | exact congrArg (Value.int .i64) (by first | assumption | (symm; assumption) | rfl), hqb.1, hqb.2, ?_, hstep.out, (hbel.alloc (by omega) _).grown hgrow (by simp; omega) ?_⟩
          · rw [List.length_append, List.map_append]; exact hown'
          · intro i hi
            rcases hown.2 with ⟨rfl, _⟩ | ⟨g, cap, cur, rfl, hge, _⟩
            · simp [Value.ownBlock] at hi
            · simp [Value.ownBlock] at hi; omega
        case measure => simp [intOf]; omega
end Go.Proofs.YtfjnplhhgdfepaaGreatDoor

/- The reference's Pow. -/
namespace Go.Proofs.YtfjnplhhgdfepaaGreatDoor
open Go.RowKit

set_option maxRecDepth 100000 in
set_option maxHeartbeats 4000000 in
theorem refPow_neg (x y : Int) (hlx : Lim x) (hly : Lim y) (hy0 : y < 0) (ax : Option Addr) (la ca : Nat) (ay : Option Addr) (lb cb : Nat) (w : World) (hx : Sl w ax la ca (parts x.natAbs)) (hy : Sl w ay lb cb (parts y.natAbs)) :
    Calls Tryz.prog 55 #[.agg #[.bool (decide (x < 0)), .slice ax la ca], .agg #[.bool (decide (y < 0)), .slice ay lb cb]] w (RetE 0 1 w) := by
  have hok := two_ok ⟨hlx, hly, rfl, rfl, rfl, rfl⟩
  have h1 : la ≤ 40 := by have := hlx; unfold Lim at this; rwa [hx.length] at this
  have h2 : lb ≤ 40 := by have := hly; unfold Lim at this; rwa [hy.length] at this
  have hA := fun w hx hy => are_any (decide (x < 0)) ax la ca (parts x.natAbs) (decide (y < 0)) ay lb cb (parts y.natAbs) w hx hy
  rw [hok] at hA
  have hsy : decide (y < 0) = true := by simp [hy0]
  generalize hsx : decide (x < 0) = sx at *
  generalize hsy2 : decide (y < 0) = sy at *
  have Hsy := Lib.hid hsy
  clear hsx hsy2 hsy
  have HA := Lib.hid hA
  clear hA hok hlx hly
  go_enter Tryz.func55, Tryz.ntmps55
  go_wp2_with fail
  refine (HA.out _ (((hx.alloc _).alloc _).alloc _) (((hy.alloc _).alloc _).alloc _)).mono ?_
  rintro e w1 ⟨rfl, b1⟩
  obtain ⟨Ta, Tb, Tr, hz, hbb⟩ := kept3 _ _ _ _ b1
  have sx1 := (((hx.alloc (.cells #[.bool sx, .slice ax la ca] 24)).alloc (.cells #[.bool sy, .slice ay lb cb] 24)).alloc (.cells #[.bool false, .slice none 0 0] 24)).below b1
  have sy1 := (((hy.alloc (.cells #[.bool sx, .slice ax la ca] 24)).alloc (.cells #[.bool sy, .slice ay lb cb] 24)).alloc (.cells #[.bool false, .slice none 0 0] 24)).below b1
  replace Ta : BoxI w1 w.heap.size sx ax la ca := Ta
  replace Tb : BoxI w1 (w.heap.size + 1) sy ay lb cb := Tb
  replace Tr : BoxI w1 (w.heap.size + 1 + 1) false none 0 0 := Tr
  clear b1 hx hy hz
  have ca0 := Ta.cells.1; have ca1 := Ta.cells.2; have cb0 := Tb.cells.1; have cb1 := Tb.cells.2; have cr0 := Tr.cells.1; have cr1 := Tr.cells.2; have fr0 := Tr.froz.1; have fr1 := Tr.froz.2; have zr := Tr.lt
  obtain rfl := Hsy.out
  have cr2 : (w1.setCell ⟨w.heap.size + 1 + 1, 0, none⟩ (.bool false)).cell? ⟨w.heap.size + 1 + 1, 1, none⟩ = some (.slice none 0 0) := by rw [cell_set_ne (by simp) rfl rfl]; exact cr1
  go_wp2
  refine bodyPost_ret (v := .tuple #[.agg #[.bool false, .slice none 0 0], .int .i64 1]) (by simp [results, Tryz.results55, go_sem, cr0, cr1, cr2]) rfl ?_
  exact ⟨none, 0, 0, rfl, by rw [show (0 : Int).natAbs = 0 from rfl, parts_zero]; exact Sl.nil _, (hbb.setCell (by simp; omega) _).setCell (by simp; omega) _⟩

set_option maxRecDepth 100000 in
set_option maxHeartbeats 4000000 in
theorem refPow_zero (x y : Int) (hlx : Lim x) (hly : Lim y) (hy0 : y = 0) (ax : Option Addr) (la ca : Nat) (ay : Option Addr) (lb cb : Nat) (w : World) (hx : Sl w ax la ca (parts x.natAbs)) (hy : Sl w ay lb cb (parts y.natAbs)) :
    Calls Tryz.prog 55 #[.agg #[.bool (decide (x < 0)), .slice ax la ca], .agg #[.bool (decide (y < 0)), .slice ay lb cb]] w (RetE 1 0 w) := by
  have hok := two_ok ⟨hlx, hly, rfl, rfl, rfl, rfl⟩
  have h1 : la ≤ 40 := by have := hlx; unfold Lim at this; rwa [hx.length] at this
  have h2 : lb ≤ 40 := by have := hly; unfold Lim at this; rwa [hy.length] at this
  have hA := fun w hx hy => are_any (decide (x < 0)) ax la ca (parts x.natAbs) (decide (y < 0)) ay lb cb (parts y.natAbs) w hx hy
  rw [hok] at hA
  obtain rfl : lb = 0 := by have := hy.length; rw [hy0] at this; simp [parts_zero] at this; omega
  have hsy : decide (y < 0) = false := by simp [hy0]
  generalize hsx : decide (x < 0) = sx at *
  generalize hsy2 : decide (y < 0) = sy at *
  have Hsy := Lib.hid hsy
  clear hsx hsy2 hsy
  have HA := Lib.hid hA
  clear hA hok hlx hly
  go_enter Tryz.func55, Tryz.ntmps55
  go_wp2_with fail
  refine (HA.out _ (((hx.alloc _).alloc _).alloc _) (((hy.alloc _).alloc _).alloc _)).mono ?_
  rintro e w1 ⟨rfl, b1⟩
  obtain ⟨Ta, Tb, Tr, hz, hbb⟩ := kept3 _ _ _ _ b1
  have sx1 := (((hx.alloc (.cells #[.bool sx, .slice ax la ca] 24)).alloc (.cells #[.bool sy, .slice ay 0 cb] 24)).alloc (.cells #[.bool false, .slice none 0 0] 24)).below b1
  have sy1 := (((hy.alloc (.cells #[.bool sx, .slice ax la ca] 24)).alloc (.cells #[.bool sy, .slice ay 0 cb] 24)).alloc (.cells #[.bool false, .slice none 0 0] 24)).below b1
  replace Ta : BoxI w1 w.heap.size sx ax la ca := Ta
  replace Tb : BoxI w1 (w.heap.size + 1) sy ay 0 cb := Tb
  replace Tr : BoxI w1 (w.heap.size + 1 + 1) false none 0 0 := Tr
  clear b1 hx hy hz
  have ca0 := Ta.cells.1; have ca1 := Ta.cells.2; have cb0 := Tb.cells.1; have cb1 := Tb.cells.2; have cr0 := Tr.cells.1; have cr1 := Tr.cells.2; have fr0 := Tr.froz.1; have fr1 := Tr.froz.2; have zr := Tr.lt
  obtain rfl := Hsy.out
  go_wp2_with fail
  refine (refFrom_any 1 _ (by omega) (by omega)).mono ?_
  rintro e w3 ⟨az, lz, cz, rfl, sz, b3⟩
  replace Ta := Ta.below b3; replace Tb := Tb.below b3; replace Tr := Tr.below b3; replace hbb := hbb.trans (b3.mono hbb.size); replace ca0 := Ta.cells.1; replace ca1 := Ta.cells.2; replace cb0 := Tb.cells.1; replace cb1 := Tb.cells.2; replace cr0 := Tr.cells.1; replace cr1 := Tr.cells.2; replace fr0 := Tr.froz.1; replace fr1 := Tr.froz.2; replace zr := Tr.lt
  clear b3
  go_wp2
  refine bodyPost_ret (v := .tuple #[.agg #[.bool (decide ((1 : Int) < 0)), .slice az lz cz], .int .i64 0]) (by simp [results, Tryz.results55, go_sem, cr0, cr1]) rfl ?_
  exact ⟨az, lz, cz, rfl, sz.store2 cr0 cr1 _ _, (hbb.setCell (by simp; omega) _).setCell (by simp; omega) _⟩

theorem num_pow (x : Int) (n : Nat) : num (decide (x < 0) && decide (n % 2 = 1)) ((x.natAbs ^ n : Nat) : Int) = x ^ n := by
  rcases Int.lt_or_le x 0 with h | h
  · obtain ⟨a, rfl⟩ : ∃ a : Nat, x = -(a : Int) := ⟨x.natAbs, by omega⟩
    have ha : (-(a : Int)).natAbs = a := by omega
    rw [ha, decide_eq_true h, Bool.true_and]
    rcases (show n % 2 = 0 ∨ n % 2 = 1 by omega) with hp | hp
    · obtain ⟨m, rfl⟩ : ∃ m, n = 2 * m := ⟨n / 2, by omega⟩
      rw [hp, Int.pow_mul, show (-(a : Int)) ^ 2 = (a : Int) ^ 2 by grind, ← Int.pow_mul, Int.natCast_pow]; simp [num]
    · obtain ⟨m, rfl⟩ : ∃ m, n = 2 * m + 1 := ⟨n / 2, by omega⟩
      rw [hp, Int.pow_succ, Int.pow_mul, show (-(a : Int)) ^ 2 = (a : Int) ^ 2 by grind, ← Int.pow_mul, Int.natCast_pow, Int.pow_succ]; simp [num]; grind
  · obtain ⟨a, rfl⟩ : ∃ a : Nat, x = (a : Int) := ⟨x.natAbs, by omega⟩
    rw [show decide ((a : Int) < 0) = false by simp, Bool.false_and, show ((a : Int)).natAbs = a by omega, Int.natCast_pow]
    rfl

set_option maxRecDepth 100000 in
set_option maxHeartbeats 4000000 in
theorem refPow_nil (x y : Int) (hlx : Lim x) (hly : Lim y) (hx0 : x = 0) (hy0 : 0 < y) (ax : Option Addr) (la ca : Nat) (ay : Option Addr) (lb cb : Nat) (w : World) (hx : Sl w ax la ca (parts x.natAbs)) (hy : Sl w ay lb cb (parts y.natAbs)) :
    Calls Tryz.prog 55 #[.agg #[.bool (decide (x < 0)), .slice ax la ca], .agg #[.bool (decide (y < 0)), .slice ay lb cb]] w (RetE 0 0 w) := by
  have hok := two_ok ⟨hlx, hly, rfl, rfl, rfl, rfl⟩
  have h1 : la ≤ 40 := by have := hlx; unfold Lim at this; rwa [hx.length] at this
  have h2 : lb ≤ 40 := by have := hly; unfold Lim at this; rwa [hy.length] at this
  have hA := fun w hx hy => are_any (decide (x < 0)) ax la ca (parts x.natAbs) (decide (y < 0)) ay lb cb (parts y.natAbs) w hx hy
  rw [hok] at hA
  obtain rfl : la = 0 := by have := hx.length; rw [hx0] at this; simp [parts_zero] at this; omega
  have hn0 : y.natAbs ≠ 0 := by omega
  have hlb : 0 < lb := by
    rcases Nat.eq_zero_or_pos lb with h | h
    · have := (parts_len y.natAbs 0).1 (by rw [hy.length]; omega); omega
    · exact h
  obtain ⟨by', oy, rfl, hcy⟩ := hy.at hlb
  have hyd := (parts_dig y.natAbs).getD 0
  have hym := parts_mod2 y.natAbs hn0
  generalize hyk : (parts y.natAbs).getD 0 0 = y0 at *
  have Hyk := Lib.hid hyk
  have hM := fun w h => made_any false ax 0 ca (parts x.natAbs) w h (parts_dig _) (by omega)
  rw [val_parts, show num false ((x.natAbs : Nat) : Int) = 0 by rw [hx0]; rfl, fitR_ok Lim.zero] at hM
  have HM := Lib.hid hM
  have hsx : decide (x < 0) = false := by simp [hx0]
  have hsy : decide (y < 0) = false := by simp; omega
  generalize hsx2 : decide (x < 0) = sx at *
  generalize hsy2 : decide (y < 0) = sy at *
  have Hsy := Lib.hid hsy
  have Hsx := Lib.hid hsx
  clear hM hyk hsx hsx2 hsy hsy2 hcy hx0
  have HA := Lib.hid hA
  clear hA hok hlx hly
  go_enter Tryz.func55, Tryz.ntmps55
  go_wp2_with fail
  refine (HA.out _ (((hx.alloc _).alloc _).alloc _) (((hy.alloc _).alloc _).alloc _)).mono ?_
  rintro e w1 ⟨rfl, b1⟩
  obtain ⟨Ta, Tb, Tr, hz, hbb⟩ := kept3 _ _ _ _ b1
  have sx1 := (((hx.alloc (.cells #[.bool sx, .slice ax 0 ca] 24)).alloc (.cells #[.bool sy, .slice (some ⟨by', oy, none⟩) lb cb] 24)).alloc (.cells #[.bool false, .slice none 0 0] 24)).below b1
  have sy1 := (((hy.alloc (.cells #[.bool sx, .slice ax 0 ca] 24)).alloc (.cells #[.bool sy, .slice (some ⟨by', oy, none⟩) lb cb] 24)).alloc (.cells #[.bool false, .slice none 0 0] 24)).below b1
  replace Ta : BoxI w1 w.heap.size sx ax 0 ca := Ta
  replace Tb : BoxI w1 (w.heap.size + 1) sy (some ⟨by', oy, none⟩) lb cb := Tb
  replace Tr : BoxI w1 (w.heap.size + 1 + 1) false none 0 0 := Tr
  clear b1 hx hy hz
  have ca0 := Ta.cells.1; have ca1 := Ta.cells.2; have cb0 := Tb.cells.1; have cb1 := Tb.cells.2; have cr0 := Tr.cells.1; have cr1 := Tr.cells.2; have fr0 := Tr.froz.1; have fr1 := Tr.froz.2; have zr := Tr.lt
  have hc0 := sy1.cellAt 0 hlb
  rw [Hyk.out, Nat.add_zero] at hc0
  obtain rfl := Hsy.out
  obtain rfl := Hsx.out
  go_wp2_with fail
  refine (HM.out _ sx1).mono ?_
  rintro e w3 ⟨az, lz, cz, rfl, sz, b3⟩
  replace Ta := Ta.below b3; replace Tb := Tb.below b3; replace Tr := Tr.below b3; replace hbb := hbb.trans (b3.mono hbb.size); replace ca0 := Ta.cells.1; replace ca1 := Ta.cells.2; replace cb0 := Tb.cells.1; replace cb1 := Tb.cells.2; replace cr0 := Tr.cells.1; replace cr1 := Tr.cells.2; replace fr0 := Tr.froz.1; replace fr1 := Tr.froz.2; replace zr := Tr.lt
  clear b3
  go_wp2
  refine bodyPost_ret (v := .tuple #[.agg #[.bool (decide ((0 : Int) < 0)), .slice az lz cz], .int .i64 0]) (by simp [results, Tryz.results55, go_sem, cr0, cr1]) rfl ?_
  exact ⟨az, lz, cz, rfl, sz.store2 cr0 cr1 _ _, (hbb.setCell (by simp; omega) _).setCell (by simp; omega) _⟩

set_option maxRecDepth 100000 in
set_option maxHeartbeats 4000000 in
theorem refPow_unit (x y : Int) (hlx : Lim x) (hly : Lim y) (hx1 : x.natAbs = 1) (hy0 : 0 < y) (ax : Option Addr) (la ca : Nat) (ay : Option Addr) (lb cb : Nat) (w : World) (hx : Sl w ax la ca (parts x.natAbs)) (hy : Sl w ay lb cb (parts y.natAbs)) :
    Calls Tryz.prog 55 #[.agg #[.bool (decide (x < 0)), .slice ax la ca], .agg #[.bool (decide (y < 0)), .slice ay lb cb]] w (RetE (x ^ y.natAbs) 0 w) := by
  have hok := two_ok ⟨hlx, hly, rfl, rfl, rfl, rfl⟩
  have h1 : la ≤ 40 := by have := hlx; unfold Lim at this; rwa [hx.length] at this
  have h2 : lb ≤ 40 := by have := hly; unfold Lim at this; rwa [hy.length] at this
  have hA := fun w hx hy => are_any (decide (x < 0)) ax la ca (parts x.natAbs) (decide (y < 0)) ay lb cb (parts y.natAbs) w hx hy
  rw [hok] at hA
  obtain rfl : la = 1 := by have := hx.length; rw [hx1, parts_1] at this; exact this.symm
  obtain ⟨bx, ox, rfl, hcx⟩ := hx.at (by omega)
  have hn0 : y.natAbs ≠ 0 := by omega
  have hlb : 0 < lb := by
    rcases Nat.eq_zero_or_pos lb with h | h
    · have := (parts_len y.natAbs 0).1 (by rw [hy.length]; omega); omega
    · exact h
  obtain ⟨by', oy, rfl, hcy⟩ := hy.at hlb
  have hyd := (parts_dig y.natAbs).getD 0
  have hym := parts_mod2 y.natAbs hn0
  generalize hyk : (parts y.natAbs).getD 0 0 = y0 at *
  have Hyk := Lib.hid hyk
  have hM := fun w h => made_any (decide (x < 0) && decide (y.natAbs % 2 = 1)) (some ⟨bx, ox, none⟩) 1 ca (parts x.natAbs) w h (parts_dig _) (by omega)
  rw [val_parts, show (x.natAbs : Int) = 1 by omega, unit_pow x hx1, fitR_ok (lim_small _ (by rw [Int.natAbs_pow, hx1, Nat.one_pow]; omega))] at hM
  have hxe := show (parts x.natAbs).getD 0 0 = 1 by rw [hx1, parts_1]; rfl
  have Hxe := Lib.hid hxe
  generalize x ^ y.natAbs = z at *
  have hpe : (((y.natAbs % 2 : Nat) : Int) == 1) = decide (y.natAbs % 2 = 1) := by
    rcases (show y.natAbs % 2 = 0 ∨ y.natAbs % 2 = 1 by omega) with h | h <;> rw [h] <;> rfl
  rw [← hpe] at hM
  have HM := Lib.hid hM
  generalize ((y.natAbs % 2 : Nat) : Int) = p at *
  have hsy : decide (y < 0) = false := by simp; omega
  generalize hsx2 : decide (x < 0) = sx at *
  generalize hsy2 : decide (y < 0) = sy at *
  have Hsy := Lib.hid hsy
  clear hM hyk hsx2 hsy hsy2 hcy hcx hxe hx1 hpe
  have HA := Lib.hid hA
  clear hA hok hlx hly
  go_enter Tryz.func55, Tryz.ntmps55
  go_wp2_with fail
  refine (HA.out _ (((hx.alloc _).alloc _).alloc _) (((hy.alloc _).alloc _).alloc _)).mono ?_
  rintro e w1 ⟨rfl, b1⟩
  obtain ⟨Ta, Tb, Tr, hz, hbb⟩ := kept3 _ _ _ _ b1
  have sx1 := (((hx.alloc (.cells #[.bool sx, .slice (some ⟨bx, ox, none⟩) 1 ca] 24)).alloc (.cells #[.bool sy, .slice (some ⟨by', oy, none⟩) lb cb] 24)).alloc (.cells #[.bool false, .slice none 0 0] 24)).below b1
  have sy1 := (((hy.alloc (.cells #[.bool sx, .slice (some ⟨bx, ox, none⟩) 1 ca] 24)).alloc (.cells #[.bool sy, .slice (some ⟨by', oy, none⟩) lb cb] 24)).alloc (.cells #[.bool false, .slice none 0 0] 24)).below b1
  replace Ta : BoxI w1 w.heap.size sx (some ⟨bx, ox, none⟩) 1 ca := Ta
  replace Tb : BoxI w1 (w.heap.size + 1) sy (some ⟨by', oy, none⟩) lb cb := Tb
  replace Tr : BoxI w1 (w.heap.size + 1 + 1) false none 0 0 := Tr
  clear b1 hx hy hz
  have ca0 := Ta.cells.1; have ca1 := Ta.cells.2; have cb0 := Tb.cells.1; have cb1 := Tb.cells.2; have cr0 := Tr.cells.1; have cr1 := Tr.cells.2; have fr0 := Tr.froz.1; have fr1 := Tr.froz.2; have zr := Tr.lt
  have hc0 := sy1.cellAt 0 hlb
  rw [Hyk.out, Nat.add_zero] at hc0
  have hd0 := sx1.cellAt 0 (by omega)
  rw [Hxe.out, Nat.add_zero] at hd0
  obtain rfl := Hsy.out
  have hM := HM.out
  clear HM
  cases sx
  all_goals simp only [Bool.false_and, Bool.true_and] at hM
  all_goals have HM := Lib.hid hM
  all_goals clear hM
  · go_wp2_with fail
    refine (HM.out _ sx1).mono ?_
    rintro e w3 ⟨az, lz, cz, rfl, sz, b3⟩
    replace Ta := Ta.below b3; replace Tb := Tb.below b3; replace Tr := Tr.below b3; replace hbb := hbb.trans (b3.mono hbb.size); replace ca0 := Ta.cells.1; replace ca1 := Ta.cells.2; replace cb0 := Tb.cells.1; replace cb1 := Tb.cells.2; replace cr0 := Tr.cells.1; replace cr1 := Tr.cells.2; replace fr0 := Tr.froz.1; replace fr1 := Tr.froz.2; replace zr := Tr.lt
    clear b3
    go_wp2
    refine bodyPost_ret (v := .tuple #[.agg #[.bool (decide (z < 0)), .slice az lz cz], .int .i64 0]) (by simp [results, Tryz.results55, go_sem, cr0, cr1]) rfl ?_
    exact ⟨az, lz, cz, rfl, sz.store2 cr0 cr1 _ _, (hbb.setCell (by simp; omega) _).setCell (by simp; omega) _⟩
  · go_wp2_with fail
    refine (HM.out _ sx1).mono ?_
    rintro e w3 ⟨az, lz, cz, rfl, sz, b3⟩
    replace Ta := Ta.below b3; replace Tb := Tb.below b3; replace Tr := Tr.below b3; replace hbb := hbb.trans (b3.mono hbb.size); replace ca0 := Ta.cells.1; replace ca1 := Ta.cells.2; replace cb0 := Tb.cells.1; replace cb1 := Tb.cells.2; replace cr0 := Tr.cells.1; replace cr1 := Tr.cells.2; replace fr0 := Tr.froz.1; replace fr1 := Tr.froz.2; replace zr := Tr.lt
    clear b3
    go_wp2
    refine bodyPost_ret (v := .tuple #[.agg #[.bool (decide (z < 0)), .slice az lz cz], .int .i64 0]) (by simp [results, Tryz.results55, go_sem, cr0, cr1]) rfl ?_
    exact ⟨az, lz, cz, rfl, sz.store2 cr0 cr1 _ _, (hbb.setCell (by simp; omega) _).setCell (by simp; omega) _⟩

set_option maxRecDepth 100000 in
set_option maxHeartbeats 4000000 in
theorem refPow_long (x y : Int) (hlx : Lim x) (hly : Lim y) (hx2 : 2 ≤ x.natAbs) (hy0 : 0 < y) (ax : Option Addr) (la ca : Nat) (ay : Option Addr) (lb cb : Nat) (w : World) (hx : Sl w ax la ca (parts x.natAbs)) (hy : Sl w ay lb cb (parts y.natAbs)) (hl1 : 1 < la) :
    Calls Tryz.prog 55 #[.agg #[.bool (decide (x < 0)), .slice ax la ca], .agg #[.bool (decide (y < 0)), .slice ay lb cb]] w (RetE (fitR (x ^ y.natAbs)).1 (fitR (x ^ y.natAbs)).2 w) := by
  have hok := two_ok ⟨hlx, hly, rfl, rfl, rfl, rfl⟩
  have h1 : la ≤ 40 := by have := hlx; unfold Lim at this; rwa [hx.length] at this
  have h2 : lb ≤ 40 := by have := hly; unfold Lim at this; rwa [hy.length] at this
  have hA := fun w hx hy => are_any (decide (x < 0)) ax la ca (parts x.natAbs) (decide (y < 0)) ay lb cb (parts y.natAbs) w hx hy
  rw [hok] at hA
  have hla := hx.length
  have hn0 : y.natAbs ≠ 0 := by omega
  have hlb : 0 < lb := by
    rcases Nat.eq_zero_or_pos lb with h | h
    · have := (parts_len y.natAbs 0).1 (by rw [hy.length]; omega); omega
    · exact h
  obtain ⟨by', oy, rfl, hcy⟩ := hy.at hlb
  have hyd := (parts_dig y.natAbs).getD 0
  have hym := parts_mod2 y.natAbs hn0
  generalize hyk : (parts y.natAbs).getD 0 0 = y0 at *
  have Hyk := Lib.hid hyk
  generalize hz : x ^ y.natAbs = z
  have hM := fun ao len cap w (h : Sl w ao len cap (parts (x.natAbs ^ y.natAbs))) (hm : len ≤ 1000000) => made_any (decide (x < 0) && decide (y.natAbs % 2 = 1)) ao len cap (parts (x.natAbs ^ y.natAbs)) w h (parts_dig _) hm
  rw [val_parts, num_pow, hz] at hM
  have hT := fun k ao len cap w (h : Sl w ao len cap (parts (x.natAbs ^ k))) (k2 : Sl w ax la ca (parts x.natAbs)) (hm : len ≤ 100000) => refTimes_any ao len cap (parts (x.natAbs ^ k)) ax la ca (parts x.natAbs) w h k2 (parts_dig _) (parts_dig _) hm (by omega)
  have eT : ∀ k, (val (parts (x.natAbs ^ k)) * val (parts x.natAbs)).toNat = x.natAbs ^ (k + 1) := fun k => by rw [val_parts, val_parts, ← Int.natCast_mul, ← Nat.pow_succ]; exact Int.toNat_natCast _
  simp only [eT] at hT
  clear eT
  have hS := fun w h => small_any (some ⟨by', oy, none⟩) lb cb y.natAbs w h
  obtain ⟨S, hSe, hS1, hS3, hS2⟩ : ∃ S : Nat, (if y.natAbs ≤ 2000 then (y.natAbs : Int) else 2000) = (S : Int) ∧ S ≤ y.natAbs ∧ S ≤ 2000 ∧ (S < y.natAbs → S = 2000) := by
    by_cases h : y.natAbs ≤ 2000
    · exact ⟨y.natAbs, if_pos h, Nat.le_refl _, h, fun h => by omega⟩
    · exact ⟨2000, if_neg h, by omega, by omega, fun _ => rfl⟩
  rw [hSe] at hS
  have hL : ∀ k, k ≤ y.natAbs → 40 < (parts (x.natAbs ^ k)).length → (fitR z).1 = 0 ∧ (fitR z).2 = 2 := fun k hk hlen => by
    rw [fitR_no (fun hl => by
      rw [lim_iff, ← hz, Int.natAbs_pow] at hl
      have h1 := Nat.pow_le_pow_right (show 0 < x.natAbs by omega) hk
      have h2 := parts_len (x.natAbs ^ k) 40
      omega)]
    exact ⟨rfl, rfl⟩
  have hE : ∀ k, 2000 = k → (parts (x.natAbs ^ k)).length ≤ 40 → False := fun k hk hlen => by
    refine pow_big x k hx2 (by omega) ?_
    unfold Lim; rw [Int.natAbs_pow]; exact hlen
  have hpe : (((y.natAbs % 2 : Nat) : Int) == 1) = decide (y.natAbs % 2 = 1) := by
    rcases (show y.natAbs % 2 = 0 ∨ y.natAbs % 2 = 1 by omega) with h | h <;> rw [h] <;> rfl
  rw [← hpe] at hM
  have HM := Lib.hid hM; have HT := Lib.hid hT; have HS := Lib.hid hS; have HL := Lib.hid hL; have HE := Lib.hid hE
  have hP0 : parts (x.natAbs ^ 0) = [1] := by rw [Nat.pow_zero, parts_1]
  have HP0 := Lib.hid hP0
  generalize ((y.natAbs % 2 : Nat) : Int) = p at *
  generalize (fitR z).1 = z1 at *
  generalize (fitR z).2 = er at *
  have hsy : decide (y < 0) = false := by simp; omega
  generalize hsx2 : decide (x < 0) = sx at *
  generalize hsy2 : decide (y < 0) = sy at *
  have Hsy := Lib.hid hsy
  clear hM hT hS hL hE hP0 hyk hsx2 hsy hsy2 hcy hpe hSe hz hx2
  have HA := Lib.hid hA
  clear hA hok hlx hly
  go_enter Tryz.func55, Tryz.ntmps55
  go_wp2_with fail
  refine (HA.out _ (((hx.alloc _).alloc _).alloc _) (((hy.alloc _).alloc _).alloc _)).mono ?_
  rintro e w1 ⟨rfl, b1⟩
  obtain ⟨Ta, Tb, Tr, hz, hbb⟩ := kept3 _ _ _ _ b1
  have sx1 := (((hx.alloc (.cells #[.bool sx, .slice ax la ca] 24)).alloc (.cells #[.bool sy, .slice (some ⟨by', oy, none⟩) lb cb] 24)).alloc (.cells #[.bool false, .slice none 0 0] 24)).below b1
  have sy1 := (((hy.alloc (.cells #[.bool sx, .slice ax la ca] 24)).alloc (.cells #[.bool sy, .slice (some ⟨by', oy, none⟩) lb cb] 24)).alloc (.cells #[.bool false, .slice none 0 0] 24)).below b1
  replace Ta : BoxI w1 w.heap.size sx ax la ca := Ta
  replace Tb : BoxI w1 (w.heap.size + 1) sy (some ⟨by', oy, none⟩) lb cb := Tb
  replace Tr : BoxI w1 (w.heap.size + 1 + 1) false none 0 0 := Tr
  clear b1 hx hy hz
  have ca0 := Ta.cells.1; have ca1 := Ta.cells.2; have cb0 := Tb.cells.1; have cb1 := Tb.cells.2; have cr0 := Tr.cells.1; have cr1 := Tr.cells.2; have fr0 := Tr.froz.1; have fr1 := Tr.froz.2; have zr := Tr.lt
  have hc0 := sy1.cellAt 0 hlb
  rw [Hyk.out, Nat.add_zero] at hc0
  have hq0 : ((lb : Int) == 0) = false := by simp; omega
  have hq1 : ((la : Int) == 0) = false := by simp; omega
  have hq2 : ((la : Int) == 1) = false := by simp; omega
  obtain rfl := Hsy.out
  go_wp2_with fail
  clear hym
  go_loopw [5, 8, 9] (fun _ out i wr => ∃ (k : Nat) (ao : Option Addr) (lo co : Nat), k ≤ S ∧ i = .int .i64 k ∧ out = .slice ao lo co ∧ Sl wr ao lo co (parts (x.natAbs ^ k)) ∧ lo ≤ 40 ∧ Below w1.heap.size w1 wr) (fun _ _ i _ => S - (intOf i).toNat)
  case atStart => exact ⟨0, _, 1, 1, Nat.zero_le _, rfl, rfl, by rw [HP0.out]; exact one_new w1 1, by omega, (Below.refl _ _).alloc (Nat.le_refl _) _⟩
  case round =>
    obtain ⟨k, ao, lo, co, hk, rfl, rfl, so, hlo, hb1⟩ := hrel
    replace Ta := Ta.below hb1; replace Tb := Tb.below hb1; replace Tr := Tr.below hb1; replace hbb := hbb.trans (hb1.mono hbb.size); replace sx1 := sx1.below hb1; replace sy1 := sy1.below hb1; replace ca0 := Ta.cells.1; replace ca1 := Ta.cells.2; replace cb0 := Tb.cells.1; replace cb1 := Tb.cells.2; replace cr0 := Tr.cells.1; replace cr1 := Tr.cells.2; replace fr0 := Tr.froz.1; replace fr1 := Tr.froz.2; replace zr := Tr.lt
    clear hc0
    go_wp2_with fail
    refine (HS.out _ sy1).mono ?_
    rintro e w3 ⟨rfl, b3⟩
    replace hb1 := hb1.trans (b3.mono hb1.size)
    replace Ta := Ta.below b3; replace Tb := Tb.below b3; replace Tr := Tr.below b3; replace hbb := hbb.trans (b3.mono hbb.size); replace sx1 := sx1.below b3; replace sy1 := sy1.below b3; replace so := so.below b3; replace ca0 := Ta.cells.1; replace ca1 := Ta.cells.2; replace cb0 := Tb.cells.1; replace cb1 := Tb.cells.2; replace cr0 := Tr.cells.1; replace cr1 := Tr.cells.2; replace fr0 := Tr.froz.1; replace fr1 := Tr.froz.2; replace zr := Tr.lt
    clear b3
    by_cases hlt : k < S
    · have hI : (k : Int) < (S : Int) := by omega
      go_wp2_with fail
      refine (HT.out k ao lo co _ so sx1 (by omega)).mono ?_
      rintro e w4 ⟨a2, l2, c2, rfl, s2, b4⟩
      replace hb1 := hb1.trans (b4.mono hb1.size)
      replace Ta := Ta.below b4; replace Tb := Tb.below b4; replace Tr := Tr.below b4; replace hbb := hbb.trans (b4.mono hbb.size); replace sx1 := sx1.below b4; replace sy1 := sy1.below b4; replace ca0 := Ta.cells.1; replace ca1 := Ta.cells.2; replace cb0 := Tb.cells.1; replace cb1 := Tb.cells.2; replace cr0 := Tr.cells.1; replace cr1 := Tr.cells.2; replace fr0 := Tr.froz.1; replace fr1 := Tr.froz.2; replace zr := Tr.lt
      clear b4
      have hl2 := s2.length
      by_cases h40 : 40 < l2
      · have hI2 : (40 : Int) < (l2 : Int) := by omega
        obtain ⟨e1, e2⟩ := HL.out (k + 1) (by omega) (by omega)
        subst e1 e2
        have cr2 : (w4.setCell ⟨w.heap.size + 1 + 1, 0, none⟩ (.bool false)).cell? ⟨w.heap.size + 1 + 1, 1, none⟩ = some (.slice none 0 0) := by rw [cell_set_ne (by simp) rfl rfl]; exact cr1
        go_wp2
        refine bodyPost_ret (v := .tuple #[.agg #[.bool false, .slice none 0 0], .int .i64 2]) (by simp [results, Tryz.results55, go_sem, cr0, cr1, cr2]) rfl ?_
        exact ⟨none, 0, 0, rfl, by rw [show (0 : Int).natAbs = 0 from rfl, parts_zero]; exact Sl.nil _, (hbb.setCell (by simp; omega) _).setCell (by simp; omega) _⟩
      · have hI2 : ¬ (40 : Int) < (l2 : Int) := by omega
        go_wp2
        go_roundw
        case rel => exact ⟨k + 1, a2, l2, c2, hlt, by go_num, rfl, s2, by omega, hb1⟩
        case measure => simp [intOf]; omega
    · have hI : ¬ (k : Int) < (S : Int) := by omega
      by_cases hSn : S < y.natAbs
      · exact absurd (HE.out k (by have := hS2 hSn; omega) (by rw [so.length]; exact hlo)) (fun h => h)
      · obtain rfl : k = y.natAbs := by omega
        have hM := HM.out
        clear HM
        cases sx
        all_goals simp only [Bool.false_and, Bool.true_and] at hM
        all_goals have HM := Lib.hid hM
        all_goals clear hM
        · go_wp2_with fail
          refine (HM.out _ _ _ _ so (by omega)).mono ?_
          rintro e w3 ⟨az, lz, cz, rfl, sz, b3⟩
          replace Ta := Ta.below b3; replace Tb := Tb.below b3; replace Tr := Tr.below b3; replace hbb := hbb.trans (b3.mono hbb.size); replace ca0 := Ta.cells.1; replace ca1 := Ta.cells.2; replace cb0 := Tb.cells.1; replace cb1 := Tb.cells.2; replace cr0 := Tr.cells.1; replace cr1 := Tr.cells.2; replace fr0 := Tr.froz.1; replace fr1 := Tr.froz.2; replace zr := Tr.lt
          clear b3
          go_wp2
          refine bodyPost_ret (v := .tuple #[.agg #[.bool (decide (z1 < 0)), .slice az lz cz], .int .i64 er]) (by simp [results, Tryz.results55, go_sem, cr0, cr1]) rfl ?_
          exact ⟨az, lz, cz, rfl, sz.store2 cr0 cr1 _ _, (hbb.setCell (by simp; omega) _).setCell (by simp; omega) _⟩
        · go_wp2_with fail
          refine (HM.out _ _ _ _ so (by omega)).mono ?_
          rintro e w3 ⟨az, lz, cz, rfl, sz, b3⟩
          replace Ta := Ta.below b3; replace Tb := Tb.below b3; replace Tr := Tr.below b3; replace hbb := hbb.trans (b3.mono hbb.size); replace ca0 := Ta.cells.1; replace ca1 := Ta.cells.2; replace cb0 := Tb.cells.1; replace cb1 := Tb.cells.2; replace cr0 := Tr.cells.1; replace cr1 := Tr.cells.2; replace fr0 := Tr.froz.1; replace fr1 := Tr.froz.2; replace zr := Tr.lt
          clear b3
          go_wp2
          refine bodyPost_ret (v := .tuple #[.agg #[.bool (decide (z1 < 0)), .slice az lz cz], .int .i64 er]) (by simp [results, Tryz.results55, go_sem, cr0, cr1]) rfl ?_
          exact ⟨az, lz, cz, rfl, sz.store2 cr0 cr1 _ _, (hbb.setCell (by simp; omega) _).setCell (by simp; omega) _⟩

set_option maxRecDepth 100000 in
set_option maxHeartbeats 4000000 in
theorem refPow_one (x y : Int) (hlx : Lim x) (hly : Lim y) (hx2 : 2 ≤ x.natAbs) (hy0 : 0 < y) (ax : Option Addr) (la ca : Nat) (ay : Option Addr) (lb cb : Nat) (w : World) (hx : Sl w ax la ca (parts x.natAbs)) (hy : Sl w ay lb cb (parts y.natAbs)) (hl1 : la = 1) :
    Calls Tryz.prog 55 #[.agg #[.bool (decide (x < 0)), .slice ax la ca], .agg #[.bool (decide (y < 0)), .slice ay lb cb]] w (RetE (fitR (x ^ y.natAbs)).1 (fitR (x ^ y.natAbs)).2 w) := by
  have hok := two_ok ⟨hlx, hly, rfl, rfl, rfl, rfl⟩
  have h1 : la ≤ 40 := by have := hlx; unfold Lim at this; rwa [hx.length] at this
  have h2 : lb ≤ 40 := by have := hly; unfold Lim at this; rwa [hy.length] at this
  have hA := fun w hx hy => are_any (decide (x < 0)) ax la ca (parts x.natAbs) (decide (y < 0)) ay lb cb (parts y.natAbs) w hx hy
  rw [hok] at hA
  subst hl1
  have hla := hx.length
  obtain ⟨bx, ox, rfl, hcx⟩ := hx.at (by omega)
  have hn0 : y.natAbs ≠ 0 := by omega
  have hlb : 0 < lb := by
    rcases Nat.eq_zero_or_pos lb with h | h
    · have := (parts_len y.natAbs 0).1 (by rw [hy.length]; omega); omega
    · exact h
  obtain ⟨by', oy, rfl, hcy⟩ := hy.at hlb
  have hyd := (parts_dig y.natAbs).getD 0
  have hym := parts_mod2 y.natAbs hn0
  generalize hyk : (parts y.natAbs).getD 0 0 = y0 at *
  have Hyk := Lib.hid hyk
  generalize hz : x ^ y.natAbs = z
  have hM := fun ao len cap w (h : Sl w ao len cap (parts (x.natAbs ^ y.natAbs))) (hm : len ≤ 1000000) => made_any (decide (x < 0) && decide (y.natAbs % 2 = 1)) ao len cap (parts (x.natAbs ^ y.natAbs)) w h (parts_dig _) hm
  rw [val_parts, num_pow, hz] at hM
  have hT := fun k ao len cap w (h : Sl w ao len cap (parts (x.natAbs ^ k))) (k2 : Sl w (some ⟨bx, ox, none⟩) 1 ca (parts x.natAbs)) (hm : len ≤ 100000) => refTimes_any ao len cap (parts (x.natAbs ^ k)) (some ⟨bx, ox, none⟩) 1 ca (parts x.natAbs) w h k2 (parts_dig _) (parts_dig _) hm (by omega)
  have eT : ∀ k, (val (parts (x.natAbs ^ k)) * val (parts x.natAbs)).toNat = x.natAbs ^ (k + 1) := fun k => by rw [val_parts, val_parts, ← Int.natCast_mul, ← Nat.pow_succ]; exact Int.toNat_natCast _
  simp only [eT] at hT
  clear eT
  have hS := fun w h => small_any (some ⟨by', oy, none⟩) lb cb y.natAbs w h
  obtain ⟨S, hSe, hS1, hS3, hS2⟩ : ∃ S : Nat, (if y.natAbs ≤ 2000 then (y.natAbs : Int) else 2000) = (S : Int) ∧ S ≤ y.natAbs ∧ S ≤ 2000 ∧ (S < y.natAbs → S = 2000) := by
    by_cases h : y.natAbs ≤ 2000
    · exact ⟨y.natAbs, if_pos h, Nat.le_refl _, h, fun h => by omega⟩
    · exact ⟨2000, if_neg h, by omega, by omega, fun _ => rfl⟩
  rw [hSe] at hS
  have hL : ∀ k, k ≤ y.natAbs → 40 < (parts (x.natAbs ^ k)).length → (fitR z).1 = 0 ∧ (fitR z).2 = 2 := fun k hk hlen => by
    rw [fitR_no (fun hl => by
      rw [lim_iff, ← hz, Int.natAbs_pow] at hl
      have h1 := Nat.pow_le_pow_right (show 0 < x.natAbs by omega) hk
      have h2 := parts_len (x.natAbs ^ k) 40
      omega)]
    exact ⟨rfl, rfl⟩
  have hE : ∀ k, 2000 = k → (parts (x.natAbs ^ k)).length ≤ 40 → False := fun k hk hlen => by
    refine pow_big x k hx2 (by omega) ?_
    unfold Lim; rw [Int.natAbs_pow]; exact hlen
  have hxe : (parts x.natAbs).getD 0 0 = (x.natAbs : Int) := by
    have hd : x.natAbs < 1000000000 := by have := (parts_len x.natAbs 1).1 (by omega); omega
    rw [parts_pos _ (by omega)]; simp; omega
  have hx3 : (x.natAbs : Int) ≠ 1 := by omega
  generalize hxk : (parts x.natAbs).getD 0 0 = x0 at *
  have Hxk := Lib.hid hxk
  rw [← hxe] at hx3
  have hpe : (((y.natAbs % 2 : Nat) : Int) == 1) = decide (y.natAbs % 2 = 1) := by
    rcases (show y.natAbs % 2 = 0 ∨ y.natAbs % 2 = 1 by omega) with h | h <;> rw [h] <;> rfl
  rw [← hpe] at hM
  have HM := Lib.hid hM; have HT := Lib.hid hT; have HS := Lib.hid hS; have HL := Lib.hid hL; have HE := Lib.hid hE
  have hP0 : parts (x.natAbs ^ 0) = [1] := by rw [Nat.pow_zero, parts_1]
  have HP0 := Lib.hid hP0
  generalize ((y.natAbs % 2 : Nat) : Int) = p at *
  generalize (fitR z).1 = z1 at *
  generalize (fitR z).2 = er at *
  have hsy : decide (y < 0) = false := by simp; omega
  generalize hsx2 : decide (x < 0) = sx at *
  generalize hsy2 : decide (y < 0) = sy at *
  have Hsy := Lib.hid hsy
  clear hM hT hS hL hE hP0 hyk hsx2 hsy hsy2 hcy hpe hSe hz hx2 hcx hxe hxk
  have HA := Lib.hid hA
  clear hA hok hlx hly
  go_enter Tryz.func55, Tryz.ntmps55
  go_wp2_with fail
  refine (HA.out _ (((hx.alloc _).alloc _).alloc _) (((hy.alloc _).alloc _).alloc _)).mono ?_
  rintro e w1 ⟨rfl, b1⟩
  obtain ⟨Ta, Tb, Tr, hz, hbb⟩ := kept3 _ _ _ _ b1
  have sx1 := (((hx.alloc (.cells #[.bool sx, .slice (some ⟨bx, ox, none⟩) 1 ca] 24)).alloc (.cells #[.bool sy, .slice (some ⟨by', oy, none⟩) lb cb] 24)).alloc (.cells #[.bool false, .slice none 0 0] 24)).below b1
  have sy1 := (((hy.alloc (.cells #[.bool sx, .slice (some ⟨bx, ox, none⟩) 1 ca] 24)).alloc (.cells #[.bool sy, .slice (some ⟨by', oy, none⟩) lb cb] 24)).alloc (.cells #[.bool false, .slice none 0 0] 24)).below b1
  replace Ta : BoxI w1 w.heap.size sx (some ⟨bx, ox, none⟩) 1 ca := Ta
  replace Tb : BoxI w1 (w.heap.size + 1) sy (some ⟨by', oy, none⟩) lb cb := Tb
  replace Tr : BoxI w1 (w.heap.size + 1 + 1) false none 0 0 := Tr
  clear b1 hx hy hz
  have ca0 := Ta.cells.1; have ca1 := Ta.cells.2; have cb0 := Tb.cells.1; have cb1 := Tb.cells.2; have cr0 := Tr.cells.1; have cr1 := Tr.cells.2; have fr0 := Tr.froz.1; have fr1 := Tr.froz.2; have zr := Tr.lt
  have hc0 := sy1.cellAt 0 hlb
  rw [Hyk.out, Nat.add_zero] at hc0
  have hd0 := sx1.cellAt 0 (by omega)
  rw [Hxk.out, Nat.add_zero] at hd0
  have hq0 : ((lb : Int) == 0) = false := by simp; omega
  have hq1 : (x0 == 1) = false := by simpa using hx3
  obtain rfl := Hsy.out
  go_wp2_with fail
  clear hym
  go_loopw [5, 8, 9] (fun _ out i wr => ∃ (k : Nat) (ao : Option Addr) (lo co : Nat), k ≤ S ∧ i = .int .i64 k ∧ out = .slice ao lo co ∧ Sl wr ao lo co (parts (x.natAbs ^ k)) ∧ lo ≤ 40 ∧ Below w1.heap.size w1 wr) (fun _ _ i _ => S - (intOf i).toNat)
  case atStart => exact ⟨0, _, 1, 1, Nat.zero_le _, rfl, rfl, by rw [HP0.out]; exact one_new w1 1, by omega, (Below.refl _ _).alloc (Nat.le_refl _) _⟩
  case round =>
    obtain ⟨k, ao, lo, co, hk, rfl, rfl, so, hlo, hb1⟩ := hrel
    replace Ta := Ta.below hb1; replace Tb := Tb.below hb1; replace Tr := Tr.below hb1; replace hbb := hbb.trans (hb1.mono hbb.size); replace sx1 := sx1.below hb1; replace sy1 := sy1.below hb1; replace ca0 := Ta.cells.1; replace ca1 := Ta.cells.2; replace cb0 := Tb.cells.1; replace cb1 := Tb.cells.2; replace cr0 := Tr.cells.1; replace cr1 := Tr.cells.2; replace fr0 := Tr.froz.1; replace fr1 := Tr.froz.2; replace zr := Tr.lt
    clear hc0 hd0
    go_wp2_with fail
    refine (HS.out _ sy1).mono ?_
    rintro e w3 ⟨rfl, b3⟩
    replace hb1 := hb1.trans (b3.mono hb1.size)
    replace Ta := Ta.below b3; replace Tb := Tb.below b3; replace Tr := Tr.below b3; replace hbb := hbb.trans (b3.mono hbb.size); replace sx1 := sx1.below b3; replace sy1 := sy1.below b3; replace so := so.below b3; replace ca0 := Ta.cells.1; replace ca1 := Ta.cells.2; replace cb0 := Tb.cells.1; replace cb1 := Tb.cells.2; replace cr0 := Tr.cells.1; replace cr1 := Tr.cells.2; replace fr0 := Tr.froz.1; replace fr1 := Tr.froz.2; replace zr := Tr.lt
    clear b3
    by_cases hlt : k < S
    · have hI : (k : Int) < (S : Int) := by omega
      go_wp2_with fail
      refine (HT.out k ao lo co _ so sx1 (by omega)).mono ?_
      rintro e w4 ⟨a2, l2, c2, rfl, s2, b4⟩
      replace hb1 := hb1.trans (b4.mono hb1.size)
      replace Ta := Ta.below b4; replace Tb := Tb.below b4; replace Tr := Tr.below b4; replace hbb := hbb.trans (b4.mono hbb.size); replace sx1 := sx1.below b4; replace sy1 := sy1.below b4; replace ca0 := Ta.cells.1; replace ca1 := Ta.cells.2; replace cb0 := Tb.cells.1; replace cb1 := Tb.cells.2; replace cr0 := Tr.cells.1; replace cr1 := Tr.cells.2; replace fr0 := Tr.froz.1; replace fr1 := Tr.froz.2; replace zr := Tr.lt
      clear b4
      have hl2 := s2.length
      by_cases h40 : 40 < l2
      · have hI2 : (40 : Int) < (l2 : Int) := by omega
        obtain ⟨e1, e2⟩ := HL.out (k + 1) (by omega) (by omega)
        subst e1 e2
        have cr2 : (w4.setCell ⟨w.heap.size + 1 + 1, 0, none⟩ (.bool false)).cell? ⟨w.heap.size + 1 + 1, 1, none⟩ = some (.slice none 0 0) := by rw [cell_set_ne (by simp) rfl rfl]; exact cr1
        go_wp2
        refine bodyPost_ret (v := .tuple #[.agg #[.bool false, .slice none 0 0], .int .i64 2]) (by simp [results, Tryz.results55, go_sem, cr0, cr1, cr2]) rfl ?_
        exact ⟨none, 0, 0, rfl, by rw [show (0 : Int).natAbs = 0 from rfl, parts_zero]; exact Sl.nil _, (hbb.setCell (by simp; omega) _).setCell (by simp; omega) _⟩
      · have hI2 : ¬ (40 : Int) < (l2 : Int) := by omega
        go_wp2
        go_roundw
        case rel => exact ⟨k + 1, a2, l2, c2, hlt, by go_num, rfl, s2, by omega, hb1⟩
        case measure => simp [intOf]; omega
    · have hI : ¬ (k : Int) < (S : Int) := by omega
      by_cases hSn : S < y.natAbs
      · exact absurd (HE.out k (by have := hS2 hSn; omega) (by rw [so.length]; exact hlo)) (fun h => h)
      · obtain rfl : k = y.natAbs := by omega
        have hM := HM.out
        clear HM
        cases sx
        all_goals simp only [Bool.false_and, Bool.true_and] at hM
        all_goals have HM := Lib.hid hM
        all_goals clear hM
        · go_wp2_with fail
          refine (HM.out _ _ _ _ so (by omega)).mono ?_
          rintro e w3 ⟨az, lz, cz, rfl, sz, b3⟩
          replace Ta := Ta.below b3; replace Tb := Tb.below b3; replace Tr := Tr.below b3; replace hbb := hbb.trans (b3.mono hbb.size); replace ca0 := Ta.cells.1; replace ca1 := Ta.cells.2; replace cb0 := Tb.cells.1; replace cb1 := Tb.cells.2; replace cr0 := Tr.cells.1; replace cr1 := Tr.cells.2; replace fr0 := Tr.froz.1; replace fr1 := Tr.froz.2; replace zr := Tr.lt
          clear b3
          go_wp2
          refine bodyPost_ret (v := .tuple #[.agg #[.bool (decide (z1 < 0)), .slice az lz cz], .int .i64 er]) (by simp [results, Tryz.results55, go_sem, cr0, cr1]) rfl ?_
          exact ⟨az, lz, cz, rfl, sz.store2 cr0 cr1 _ _, (hbb.setCell (by simp; omega) _).setCell (by simp; omega) _⟩
        · go_wp2_with fail
          refine (HM.out _ _ _ _ so (by omega)).mono ?_
          rintro e w3 ⟨az, lz, cz, rfl, sz, b3⟩
          replace Ta := Ta.below b3; replace Tb := Tb.below b3; replace Tr := Tr.below b3; replace hbb := hbb.trans (b3.mono hbb.size); replace ca0 := Ta.cells.1; replace ca1 := Ta.cells.2; replace cb0 := Tb.cells.1; replace cb1 := Tb.cells.2; replace cr0 := Tr.cells.1; replace cr1 := Tr.cells.2; replace fr0 := Tr.froz.1; replace fr1 := Tr.froz.2; replace zr := Tr.lt
          clear b3
          go_wp2
          refine bodyPost_ret (v := .tuple #[.agg #[.bool (decide (z1 < 0)), .slice az lz cz], .int .i64 er]) (by simp [results, Tryz.results55, go_sem, cr0, cr1]) rfl ?_
          exact ⟨az, lz, cz, rfl, sz.store2 cr0 cr1 _ _, (hbb.setCell (by simp; omega) _).setCell (by simp; omega) _⟩

theorem refPow_ok (x y : Int) (hlx : Lim x) (hly : Lim y) (hy0 : 0 ≤ y) (ax : Option Addr) (la ca : Nat) (ay : Option Addr) (lb cb : Nat) (w : World) (hx : Sl w ax la ca (parts x.natAbs)) (hy : Sl w ay lb cb (parts y.natAbs)) :
    Calls Tryz.prog 55 #[.agg #[.bool (decide (x < 0)), .slice ax la ca], .agg #[.bool (decide (y < 0)), .slice ay lb cb]] w (RetE (fitR (x ^ y.natAbs)).1 (fitR (x ^ y.natAbs)).2 w) := by
  by_cases hz : y = 0
  · have h := refPow_zero x y hlx hly hz ax la ca ay lb cb w hx hy
    rwa [show x ^ y.natAbs = 1 by rw [hz]; simp, fitR_ok (lim_small 1 (by decide))]
  · by_cases h0 : x = 0
    · have h := refPow_nil x y hlx hly h0 (by omega) ax la ca ay lb cb w hx hy
      rwa [show x ^ y.natAbs = 0 by rw [h0]; exact Int.zero_pow (by omega), fitR_ok Lim.zero]
    · by_cases h1 : x.natAbs = 1
      · have h := refPow_unit x y hlx hly h1 (by omega) ax la ca ay lb cb w hx hy
        rwa [fitR_ok (lim_small _ (by rw [Int.natAbs_pow, h1, Nat.one_pow]; omega))]
      · by_cases h2 : 1 < la
        · exact refPow_long x y hlx hly (by omega) (by omega) ax la ca ay lb cb w hx hy h2
        · have h3 : la = 1 := by
            rcases Nat.eq_zero_or_pos la with h | h
            · have := (parts_len x.natAbs 0).1 (by rw [hx.length]; omega); omega
            · omega
          exact refPow_one x y hlx hly (by omega) (by omega) ax la ca ay lb cb w hx hy h3
end Go.Proofs.YtfjnplhhgdfepaaGreatDoor

/- The program's and the reference's sums, of any integers: one outcome. -/
namespace Go.Proofs.YtfjnplhhgdfepaaGreatDoor
open Go.RowKit

theorem num_some {z : Int} (h : Lim z) : Num z (decide (z < 0)) (parts z.natAbs) := ⟨h, rfl, rfl⟩
/-- Two functions of an integer have one outcome. -/
def Both1 (f g : FuncId) (n1 : Bool) (ax : Option Addr) (la ca : Nat) (xs : List Int) : Prop :=
  ∃ z n zs er, Num z n zs ∧ (∀ w, Sl w ax la ca xs → Calls Tryz.prog f #[.agg #[.bool n1, .slice ax la ca]] w (RetPE n zs er w)) ∧ (∀ w, Sl w ax la ca xs → Calls Tryz.prog g #[.agg #[.bool n1, .slice ax la ca]] w (RetPE n zs er w))
/-- Two functions of two integers have one outcome. -/
def Both2 (f g : FuncId) (n1 : Bool) (ax : Option Addr) (la ca : Nat) (xs : List Int) (n2 : Bool) (ay : Option Addr) (lb cb : Nat) (ys : List Int) : Prop :=
  ∃ z n zs er, Num z n zs ∧ (∀ w, Sl w ax la ca xs → Sl w ay lb cb ys → Calls Tryz.prog f #[.agg #[.bool n1, .slice ax la ca], .agg #[.bool n2, .slice ay lb cb]] w (RetPE n zs er w)) ∧ (∀ w, Sl w ax la ca xs → Sl w ay lb cb ys → Calls Tryz.prog g #[.agg #[.bool n1, .slice ax la ca], .agg #[.bool n2, .slice ay lb cb]] w (RetPE n zs er w))

theorem both_Neg (n1 : Bool) (ax : Option Addr) (la ca : Nat) (xs : List Int) : Both1 42 43 n1 ax la ca xs := by
  cases hok : okInt n1 xs
  · exact ⟨0, _, _, 10, num_some Lim.zero, fun w h => Neg_bad n1 ax la ca xs w h hok, fun w h => refNeg_bad n1 ax la ca xs w h hok⟩
  · obtain ⟨x, hl, rfl, rfl⟩ := (okInt_iff _ _).1 hok
    exact ⟨-x, _, _, 0, num_some (lim_mono (by omega) hl), fun w h => Neg_ok x hl ax la ca w h, fun w h => refNeg_ok x hl ax la ca w h⟩
theorem both_Add (n1 : Bool) (ax : Option Addr) (la ca : Nat) (xs : List Int) (n2 : Bool) (ay : Option Addr) (lb cb : Nat) (ys : List Int) : Both2 44 45 n1 ax la ca xs n2 ay lb cb ys := by
  cases hok : (okInt n1 xs && okInt n2 ys)
  · exact ⟨0, _, _, 10, num_some Lim.zero, fun w h k => Add_bad n1 ax la ca xs n2 ay lb cb ys w h k hok, fun w h k => refAdd_bad n1 ax la ca xs n2 ay lb cb ys w h k hok⟩
  · rw [Bool.and_eq_true] at hok
    obtain ⟨x, hl, rfl, rfl⟩ := (okInt_iff _ _).1 hok.1
    obtain ⟨y, hm, rfl, rfl⟩ := (okInt_iff _ _).1 hok.2
    exact ⟨_, _, _, _, num_some (fitR_lim (x + y)), fun w h k => (Add_ok x y hl hm ax la ca ay lb cb w h k).mono fun _ _ h => h.fit, fun w h k => refAdd_ok x y hl hm ax la ca ay lb cb w h k⟩
theorem both_Sub (n1 : Bool) (ax : Option Addr) (la ca : Nat) (xs : List Int) (n2 : Bool) (ay : Option Addr) (lb cb : Nat) (ys : List Int) : Both2 46 47 n1 ax la ca xs n2 ay lb cb ys := by
  cases hok : (okInt n1 xs && okInt n2 ys)
  · exact ⟨0, _, _, 10, num_some Lim.zero, fun w h k => Sub_bad n1 ax la ca xs n2 ay lb cb ys w h k hok, fun w h k => refSub_bad n1 ax la ca xs n2 ay lb cb ys w h k hok⟩
  · rw [Bool.and_eq_true] at hok
    obtain ⟨x, hl, rfl, rfl⟩ := (okInt_iff _ _).1 hok.1
    obtain ⟨y, hm, rfl, rfl⟩ := (okInt_iff _ _).1 hok.2
    exact ⟨_, _, _, _, num_some (fitR_lim (x - y)), fun w h k => (Sub_ok x y hl hm ax la ca ay lb cb w h k).mono fun _ _ h => h.fit, fun w h k => refSub_ok x y hl hm ax la ca ay lb cb w h k⟩
theorem both_Mul (n1 : Bool) (ax : Option Addr) (la ca : Nat) (xs : List Int) (n2 : Bool) (ay : Option Addr) (lb cb : Nat) (ys : List Int) : Both2 48 49 n1 ax la ca xs n2 ay lb cb ys := by
  cases hok : (okInt n1 xs && okInt n2 ys)
  · exact ⟨0, _, _, 10, num_some Lim.zero, fun w h k => Mul_bad n1 ax la ca xs n2 ay lb cb ys w h k hok, fun w h k => refMul_bad n1 ax la ca xs n2 ay lb cb ys w h k hok⟩
  · rw [Bool.and_eq_true] at hok
    obtain ⟨x, hl, rfl, rfl⟩ := (okInt_iff _ _).1 hok.1
    obtain ⟨y, hm, rfl, rfl⟩ := (okInt_iff _ _).1 hok.2
    exact ⟨_, _, _, _, num_some (fitR_lim (x * y)), fun w h k => (Mul_ok x y hl hm ax la ca ay lb cb w h k).mono fun _ _ h => h.fit, fun w h k => refMul_ok x y hl hm ax la ca ay lb cb w h k⟩
theorem both_Div (n1 : Bool) (ax : Option Addr) (la ca : Nat) (xs : List Int) (n2 : Bool) (ay : Option Addr) (lb cb : Nat) (ys : List Int) : Both2 50 51 n1 ax la ca xs n2 ay lb cb ys := by
  cases hok : (okInt n1 xs && okInt n2 ys)
  · exact ⟨0, _, _, 10, num_some Lim.zero, fun w h k => Div_bad n1 ax la ca xs n2 ay lb cb ys w h k hok, fun w h k => refDiv_bad n1 ax la ca xs n2 ay lb cb ys w h k hok⟩
  · have hoks := hok
    rw [Bool.and_eq_true] at hok
    obtain ⟨x, hl, rfl, rfl⟩ := (okInt_iff _ _).1 hok.1
    obtain ⟨y, hm, rfl, rfl⟩ := (okInt_iff _ _).1 hok.2
    by_cases h0 : y = 0
    · refine ⟨0, _, _, 11, num_some Lim.zero, fun w h k => Div_zero x y hl hm h0 ax la ca ay lb cb w h k, fun w h k => ?_⟩
      obtain rfl : lb = 0 := by have := k.length; rw [h0] at this; simp [parts_zero] at this; omega
      exact refDiv_zero _ ax la ca _ _ ay cb _ w h k hoks
    · have hz : Lim (flq x y) := by obtain ⟨_, _, h⟩ := quo_num' ⟨hl, rfl, rfl⟩ h0; exact h.1
      refine ⟨flq x y, _, _, 0, num_some hz, fun w h k => (Div_ok x y hl hm h0 ax la ca ay lb cb w h k).mono fun _ _ h => h.1 hz, fun w h k => ?_⟩
      exact refDiv_ok x y h0 hl hm ax la ca ay lb cb w h k (flq x y) (fun hs => by
        have := (div_same x y h0 hs).1; rw [val_parts] at this; exact this) (fun hs hr => by
        have := (div_diff0 x y h0 hs hr).1; rw [val_parts] at this; exact this) (fun hs hr => by
        have := (div_diff1 x y h0 hs hr).1; rw [val_parts] at this; exact this) hz
theorem both_Mod (n1 : Bool) (ax : Option Addr) (la ca : Nat) (xs : List Int) (n2 : Bool) (ay : Option Addr) (lb cb : Nat) (ys : List Int) : Both2 52 53 n1 ax la ca xs n2 ay lb cb ys := by
  cases hok : (okInt n1 xs && okInt n2 ys)
  · exact ⟨0, _, _, 10, num_some Lim.zero, fun w h k => Mod_bad n1 ax la ca xs n2 ay lb cb ys w h k hok, fun w h k => refMod_bad n1 ax la ca xs n2 ay lb cb ys w h k hok⟩
  · have hoks := hok
    rw [Bool.and_eq_true] at hok
    obtain ⟨x, hl, rfl, rfl⟩ := (okInt_iff _ _).1 hok.1
    obtain ⟨y, hm, rfl, rfl⟩ := (okInt_iff _ _).1 hok.2
    by_cases h0 : y = 0
    · refine ⟨0, _, _, 11, num_some Lim.zero, fun w h k => Mod_zero x y hl hm h0 ax la ca ay lb cb w h k, fun w h k => ?_⟩
      obtain rfl : lb = 0 := by have := k.length; rw [h0] at this; simp [parts_zero] at this; omega
      exact refMod_zero _ ax la ca _ _ ay cb _ w h k hoks
    · have hz : Lim (flr x y) := by obtain ⟨_, _, h⟩ := rem_num ⟨hm, rfl, rfl⟩ h0; exact h.1
      refine ⟨flr x y, _, _, 0, num_some hz, fun w h k => (Mod_ok x y hl hm h0 ax la ca ay lb cb w h k).mono fun _ _ h => h.1 hz, fun w h k => ?_⟩
      exact refMod_ok x y h0 hl hm ax la ca ay lb cb w h k (flr x y) (fun hc => by
        by_cases hs : decide (x < 0) = decide (y < 0)
        · have := (div_same x y h0 hs).2; rw [val_parts] at this; exact this
        · have := (div_diff0 x y h0 hs (hc.resolve_left hs)).2; rw [val_parts] at this; exact this) (fun hs hr => by
        have := (div_diff1 x y h0 hs hr).2; rw [val_parts] at this; exact this) hz
theorem both_Pow (n1 : Bool) (ax : Option Addr) (la ca : Nat) (xs : List Int) (n2 : Bool) (ay : Option Addr) (lb cb : Nat) (ys : List Int) : Both2 54 55 n1 ax la ca xs n2 ay lb cb ys := by
  cases hok : (okInt n1 xs && okInt n2 ys)
  · exact ⟨0, _, _, 10, num_some Lim.zero, fun w h k => Pow_bad n1 ax la ca xs n2 ay lb cb ys w h k hok, fun w h k => refPow_bad n1 ax la ca xs n2 ay lb cb ys w h k hok⟩
  · rw [Bool.and_eq_true] at hok
    obtain ⟨x, hl, rfl, rfl⟩ := (okInt_iff _ _).1 hok.1
    obtain ⟨y, hm, rfl, rfl⟩ := (okInt_iff _ _).1 hok.2
    by_cases h0 : y < 0
    · exact ⟨0, _, _, 1, num_some Lim.zero, fun w h k => Pow_neg x y hl hm h0 ax la ca ay lb cb w h k, fun w h k => refPow_neg x y hl hm h0 ax la ca ay lb cb w h k⟩
    · exact ⟨_, _, _, _, num_some (fitR_lim (x ^ y.natAbs)), fun w h k => (Pow_ok x y hl hm (by omega) ax la ca ay lb cb w h k).mono fun _ _ h => h.fit, fun w h k => refPow_ok x y hl hm (by omega) ax la ca ay lb cb w h k⟩
end Go.Proofs.YtfjnplhhgdfepaaGreatDoor

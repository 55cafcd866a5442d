/- NumForms: what its walk leans on: contracts of helpers, and facts of integers. -/
import Derived.Orders
import Derived.RegionTactic
import Derived.Deep.RegionHeld
import Derived.WalkKit
import Derived.Test.YtfjnplhhgdfepaaGreatDoorProg
import Derived.Laws.BytesArg
import Derived.Outline
import Derived.Deep.RegionHeld3
import Derived.BigRegion
import Derived.IntWalk
import Derived.Test.YtfjnplhhgdfepaaGreatDoorK8
set_option linter.all false

/- The closure of NumPowers; right at four data. -/
namespace Go.Proofs.YtfjnplhhgdfepaaGreatDoor
open Go.RowKit

def powerR (p q : Int × Int) : Int × Int := if p.2 = 0 ∧ q.2 = 0 then fitR (p.1 ^ q.1.natAbs) else (0, 2)

set_option maxHeartbeats 1000000 in
theorem lawPower_ok (n1 : Bool) (ax : Option Addr) (la ca : Nat) (xs : List Int) (n2 : Bool) (ay : Option Addr) (lb cb : Nat) (ys : List Int) (n3 : Bool) (zs : List Int) (e3 : Int) (hzl : zs.getLast? ≠ some 0) (w : World) (hx : Sl w ax la ca xs) (hy : Sl w ay lb cb ys)
    (hc : ∀ w, Sl w ax la ca xs → Sl w ay lb cb ys → Calls Tryz.prog 54 #[.agg #[.bool n1, .slice ax la ca], .agg #[.bool n2, .slice ay lb cb]] w (RetPE n3 zs e3 w)) :
    Calls Tryz.prog 71 #[.agg #[.bool n1, .slice ax la ca, .int .i64 0], .agg #[.bool n2, .slice ay lb cb, .int .i64 0]] w (RetQ n3 zs e3 w) := by
  have Hc := Lib.hid hc
  have Hzl := Lib.hid hzl
  clear hc hzl
  go_enter Tryz.func71, Tryz.ntmps71
  go_wp2_with fail
  (with_reducible refine (Hc.out _ (by exact ((hx.alloc _).alloc _).alloc _) (by exact ((hy.alloc _).alloc _).alloc _)).mono ?_)
  rintro e w1 ⟨a1, l1, c1, rfl, s1, b1⟩
  obtain ⟨_, _, hC, hz, hbb⟩ := kept3 _ _ _ _ b1
  clear b1
  go_wp2_with fail
  (with_reducible refine (got_any _ _ _ _ _ _).mono ?_)
  rintro e w2 ⟨rfl, b2⟩
  have hC2 : Box3 w2 (w.heap.size + 1 + 1) false none 0 0 0 := (b2.block _ (Array.getElem?_eq_some_iff.1 hC).1).trans hC
  obtain ⟨f0, f1, f2⟩ := hC2.cells
  obtain ⟨g0, g1, g2⟩ := hC2.froz
  have hsz := hC2.lt
  have s2 := s1.below b2
  have hb2 := hbb.trans (b2.mono hbb.size)
  have HC := Lib.hid hC2
  clear hC hC2 b2 hbb s1
  go_wp2
  refine bodyPost_ret (v := .agg #[.bool n3, .slice a1 l1 c1, .int .i64 e3]) (by simp [results, Tryz.results71, go_sem, f0, f1, f2]) rfl ?_
  refine ⟨a1, l1, c1, rfl, ?_, ((hb2.setCell (by simp; omega) _).setCell (by simp; omega) _).setCell (by simp; omega) _⟩
  exact s2.pair Hzl.out HC.out _ _ _ _ _

set_option maxHeartbeats 1000000 in
theorem lawPower_bad (n1 : Bool) (ax : Option Addr) (la ca : Nat) (e1 : Int) (n2 : Bool) (ay : Option Addr) (lb cb : Nat) (e2 : Int) (w : World) (h : ¬ (e1 = 0 ∧ e2 = 0)) :
    Calls Tryz.prog 71 #[.agg #[.bool n1, .slice ax la ca, .int .i64 e1], .agg #[.bool n2, .slice ay lb cb, .int .i64 e2]] w (RetQ false [] 2 w) := by
  have hb : ∀ o p q : Obj, Below w.heap.size w (((w.alloc o).alloc p).alloc q) := fun o p q => below3 w o p q
  by_cases h1 : e1 = 0
  · have h2 : e2 ≠ 0 := fun h' => h ⟨h1, h'⟩
    subst h1
    have hq : (e2 != 0) = true := by simpa using h2
    clear h h2
    go_enter Tryz.func71, Tryz.ntmps71
    go_wp2
    refine bodyPost_ret (v := .agg #[.bool false, .slice none 0 0, .int .i64 2]) (by simp [results, Tryz.results71, go_sem]) rfl ?_
    exact ⟨_, _, _, rfl, Sl.nil _, hb _ _ _⟩
  · have hq : (e1 != 0) = true := by simpa using h1
    clear h h1
    go_enter Tryz.func71, Tryz.ntmps71
    go_wp2
    refine bodyPost_ret (v := .agg #[.bool false, .slice none 0 0, .int .i64 2]) (by simp [results, Tryz.results71, go_sem]) rfl ?_
    exact ⟨_, _, _, rfl, Sl.nil _, hb _ _ _⟩

theorem lawPower_any {x y z e1 e2 e3 : Int} {n1 n2 n3 : Bool} {xs ys zs : List Int} (hx : Num x n1 xs) (hy : Num y n2 ys) (hz : Num z n3 zs) (hy0 : e2 = 0 → 0 ≤ y) (he : powerR (x, e1) (y, e2) = (z, e3)) (ax : Option Addr) (la ca : Nat) (ay : Option Addr) (lb cb : Nat) (w : World) (sx : Sl w ax la ca xs) (sy : Sl w ay lb cb ys) :
    Calls Tryz.prog 71 #[.agg #[.bool n1, .slice ax la ca, .int .i64 e1], .agg #[.bool n2, .slice ay lb cb, .int .i64 e2]] w (RetQ n3 zs e3 w) := by
  obtain ⟨h1, rfl, rfl⟩ := hx
  obtain ⟨h2, rfl, rfl⟩ := hy
  obtain ⟨_, rfl, rfl⟩ := hz
  unfold powerR at he
  by_cases h : e1 = 0 ∧ e2 = 0
  · rw [if_pos h] at he
    obtain ⟨rfl, rfl⟩ := h
    refine lawPower_ok _ ax la ca _ _ ay lb cb _ _ _ _ (parts_last _) w sx sy fun w sx sy => ((Pow_ok x y h1 h2 (hy0 rfl) ax la ca ay lb cb w sx sy).mono fun _ _ h => ?_)
    have := h.fit
    rw [he] at this
    exact this
  · rw [if_neg h] at he
    cases he
    have := lawPower_bad (decide (x < 0)) ax la ca e1 (decide (y < 0)) ay lb cb e2 w h
    rw [show decide ((0 : Int) < 0) = false from rfl, show (0 : Int).natAbs = 0 from rfl, parts_zero]
    exact this

theorem right4 (n1 : Bool) (a1 : Option Addr) (l1 c1 : Nat) (x1 : List Int) (n2 : Bool) (a2 : Option Addr) (l2 c2 : Nat) (x2 : List Int) (n3 : Bool) (a3 : Option Addr) (l3 c3 : Nat) (x3 : List Int) (n4 : Bool) (a4 : Option Addr) (l4 c4 : Nat) (x4 : List Int) (w : World) (g : Nat) (hg : w.heap[g]? = some (.cells #[.bool n1, .slice a1 l1 c1, .bool n2, .slice a2 l2 c2, .bool n3, .slice a3 l3 c3, .bool n4, .slice a4 l4 c4] 24 (0, 0)))
    (h1 : Sl w a1 l1 c1 x1) (h2 : Sl w a2 l2 c2 x2) (h3 : Sl w a3 l3 c3 x3) (h4 : Sl w a4 l4 c4 x4) (r : Bool) (hr : (!(wrong ⟨n1, a1, l1, c1, x1⟩ || (wrong ⟨n2, a2, l2, c2, x2⟩ || (wrong ⟨n3, a3, l3, c3, x3⟩ || wrong ⟨n4, a4, l4, c4, x4⟩)))) = r) :
    Calls Tryz.prog 64 #[.slice (some ⟨g, 0, none⟩) 4 4] w (RetBool r w) := by
  have := right_any g [⟨n1, a1, l1, c1, x1⟩, ⟨n2, a2, l2, c2, x2⟩, ⟨n3, a3, l3, c3, x3⟩, ⟨n4, a4, l4, c4, x4⟩] w hg (by
    intro d hd
    simp only [List.mem_cons, List.not_mem_nil, or_false] at hd
    rcases hd with rfl | rfl | rfl | rfl
    · exact h1
    · exact h2
    · exact h3
    · exact h4) (by simp)
  rw [show List.any [(⟨n1, a1, l1, c1, x1⟩ : Dat), ⟨n2, a2, l2, c2, x2⟩, ⟨n3, a3, l3, c3, x3⟩, ⟨n4, a4, l4, c4, x4⟩] wrong = (wrong ⟨n1, a1, l1, c1, x1⟩ || (wrong ⟨n2, a2, l2, c2, x2⟩ || (wrong ⟨n3, a3, l3, c3, x3⟩ || wrong ⟨n4, a4, l4, c4, x4⟩))) by simp, hr] at this
  exact this

/-! What results mean, where there are any. -/
theorem fitR_zero {z v : Int} (h : fitR z = (v, 0)) : v = z := by
  by_cases hl : Lim z
  · rw [fitR_ok hl] at h; cases h; rfl
  · rw [fitR_no hl] at h; cases h
theorem sumR_lim (p q : Int × Int) : Lim (sumR p q).1 := by
  unfold sumR; split
  · exact fitR_lim _
  · exact Lim.zero
theorem timesR_lim (p q : Int × Int) : Lim (timesR p q).1 := by
  unfold timesR; split
  · exact fitR_lim _
  · exact Lim.zero
theorem powerR_lim (p q : Int × Int) : Lim (powerR p q).1 := by
  unfold powerR; split
  · exact fitR_lim _
  · exact Lim.zero
theorem sumR_zero {x e1 y e2 v : Int} (h : sumR (x, e1) (y, e2) = (v, 0)) : e1 = 0 ∧ e2 = 0 ∧ v = x + y := by
  unfold sumR at h; split at h
  · rename_i hh; exact ⟨hh.1, hh.2, fitR_zero h⟩
  · cases h
theorem timesR_zero {x e1 y e2 v : Int} (h : timesR (x, e1) (y, e2) = (v, 0)) : e1 = 0 ∧ e2 = 0 ∧ v = x * y := by
  unfold timesR at h; split at h
  · rename_i hh; exact ⟨hh.1, hh.2, fitR_zero h⟩
  · cases h
theorem powerR_zero {x e1 y e2 v : Int} (h : powerR (x, e1) (y, e2) = (v, 0)) : e1 = 0 ∧ e2 = 0 ∧ v = x ^ y.natAbs := by
  unfold powerR at h; split at h
  · rename_i hh; exact ⟨hh.1, hh.2, fitR_zero h⟩
  · cases h
end Go.Proofs.YtfjnplhhgdfepaaGreatDoor

/- A pair's box that a drawn region makes: what a store into it leaves as it was. -/
namespace Go.Proofs.YtfjnplhhgdfepaaGreatDoor
open Go.RowKit

/-- Block g holds the zero pair: just made. -/
def Zr (w : World) (g : Nat) : Prop := w.heap[g]? = some (.cells #[.bool false, .slice none 0 0, .int .i64 0] 38 (0, 0))
theorem Zr.cells {w : World} {g : Nat} (h : Zr w g) : w.cell? ⟨g, 0, none⟩ = some (.bool false) ∧ w.cell? ⟨g, 1, none⟩ = some (.slice none 0 0) ∧ w.cell? ⟨g, 2, none⟩ = some (.int .i64 0) := Box3.cells h
theorem Zr.froz {w : World} {g : Nat} (h : Zr w g) : w.frozen? ⟨g, 0, none⟩ = false ∧ w.frozen? ⟨g, 1, none⟩ = false ∧ w.frozen? ⟨g, 2, none⟩ = false := Box3.froz h
theorem Zr.below {w w' : World} {g : Nat} (h : Zr w g) (hb : Below w.heap.size w w') : Zr w' g := Box3.below h hb
theorem Zr.alloc {w : World} {g : Nat} (h : Zr w g) (o : Obj) : Zr (w.alloc o) g := h.below ((Below.refl _ _).alloc (Nat.le_refl _) o)
theorem Zr.new {w w' : World} (hb : Below (w.alloc (.cells #[.bool false, .slice none 0 0, .int .i64 0] 38)).heap.size (w.alloc (.cells #[.bool false, .slice none 0 0, .int .i64 0] 38)) w') : Zr w' w.heap.size := (kept1 _ _ hb).1
theorem Zr.newD {w w' : World} (hb : Below (w.alloc (.cells #[.bool false, .slice none 0 0, .int .i64 0] 38)).drew.heap.size (w.alloc (.cells #[.bool false, .slice none 0 0, .int .i64 0] 38)).drew w') : Zr w' w.heap.size := (kept1 _ _ (Below.undrew hb)).1
theorem Zr.newA {w w' : World} {o : Obj} (hb : Below ((w.alloc o).alloc (.cells #[.bool false, .slice none 0 0, .int .i64 0] 38)).heap.size ((w.alloc o).alloc (.cells #[.bool false, .slice none 0 0, .int .i64 0] 38)) w') : Zr w' (w.heap.size + 1) := (kept2 _ _ _ hb).2.1
theorem Zr.newAD {w w' : World} {o : Obj} (hb : Below ((w.alloc o).alloc (.cells #[.bool false, .slice none 0 0, .int .i64 0] 38)).drew.heap.size ((w.alloc o).alloc (.cells #[.bool false, .slice none 0 0, .int .i64 0] 38)).drew w') : Zr w' (w.heap.size + 1) := Zr.newA (Below.undrew hb)
theorem alloc_le {B : Nat} {w : World} {o : Obj} (h : B ≤ (w.alloc o).heap.size) : B ≤ w.heap.size + 1 := by simpa using h
theorem BoxI.ne {w : World} {a g : Nat} {n : Bool} {ao : Option Addr} {l c : Nat} (h : BoxI w a n ao l c) (z : Zr w g) : a ≠ g := by
  rintro rfl
  have e := h.symm.trans z
  injection e with e
  injection e with e
  have := congrArg Array.size e
  simp at this
theorem heap_set3 {w : World} {a g : Nat} (h : a ≠ g) (u v x : Value) : (((w.setCell ⟨g, 0, none⟩ u).setCell ⟨g, 1, none⟩ v).setCell ⟨g, 2, none⟩ x).heap[a]? = w.heap[a]? := by
  rw [Below.heap_setCell _ _ _ _ h, Below.heap_setCell _ _ _ _ h, Below.heap_setCell _ _ _ _ h]
theorem BoxI.set3 {w : World} {a g : Nat} {n : Bool} {ao : Option Addr} {l c : Nat} (h : BoxI w a n ao l c) (z : Zr w g) (u v x : Value) : BoxI (((w.setCell ⟨g, 0, none⟩ u).setCell ⟨g, 1, none⟩ v).setCell ⟨g, 2, none⟩ x) a n ao l c :=
  (heap_set3 (h.ne z) u v x).trans h
theorem Below.set3 {B : Nat} {a w : World} (h : Below B a w) {g : Nat} (hg : B ≤ g) (u v x : Value) : Below B a (((w.setCell ⟨g, 0, none⟩ u).setCell ⟨g, 1, none⟩ v).setCell ⟨g, 2, none⟩ x) :=
  ((h.setCell hg u).setCell hg v).setCell hg x
/-- The law's same at a pair and itself. -/
theorem pairSelfQ {z : Int} {n : Bool} {xs : List Int} (hz : Num z n xs) (er : Int) (ax : Option Addr) (la ca : Nat) (ay : Option Addr) (lb cb : Nat) (w : World) (hx : Sl w ax la ca xs) (hy : Sl w ay lb cb xs) :
    Calls Tryz.prog 27 #[.agg #[.bool n, .slice ax la ca, .int .i64 er], .agg #[.bool n, .slice ay lb cb, .int .i64 er]] w (RetBool true w) := by
  obtain ⟨_, rfl, rfl⟩ := hz
  have h := lawSame_any (decide (z < 0)) ax la ca (parts z.natAbs) er (decide (z < 0)) ay lb cb (parts z.natAbs) er w hx hy
  rwa [sameI_num, show (decide (er = er) && decide (z = z)) = true by simp] at h
theorem Num.last {z : Int} {n : Bool} {xs : List Int} (h : Num z n xs) : xs.getLast? ≠ some 0 := by
  rw [h.2.2]; exact parts_last _
end Go.Proofs.YtfjnplhhgdfepaaGreatDoor

/- Neg. -/
namespace Go.Proofs.YtfjnplhhgdfepaaGreatDoor
open Go.RowKit

set_option maxHeartbeats 1000000 in
theorem Neg_bad (neg : Bool) (ao : Option Addr) (len cap : Nat) (xs : List Int) (w : World) (hs : Sl w ao len cap xs) (hno : okInt neg xs = false) :
    Calls Tryz.prog 42 #[.agg #[.bool neg, .slice ao len cap]] w (RetE 0 10 w) := by
  have hch := fun w (h : Sl w ao len cap xs) => check_any neg ao len cap xs w h
  rw [hno] at hch
  have Hch := Lib.hid hch
  clear hch hno
  go_enter Tryz.func42, Tryz.ntmps42
  go_wp2_with fail
  refine (Hch.out _ ((hs.alloc _).alloc _)).mono ?_
  rintro e w1 ⟨rfl, hb⟩
  obtain ⟨hA, hR, hz, hbb⟩ := kept2 _ _ _ hb
  obtain ⟨f1, f2, f3, f4, f5⟩ := box2 hR
  clear hA hR hb
  simp only [errOf]
  go_wp2
  refine bodyPost_ret (v := .tuple #[.agg #[.bool false, .slice none 0 0], .int .i64 10]) (by simp [results, Tryz.results42, go_sem, f1, f2]) rfl ?_
  exact ⟨none, 0, 0, rfl, by simp only [Int.natAbs_zero]; rw [parts_zero]; exact Sl.nil _, (hbb.setCell (by simp) _).setCell (by simp) _⟩

set_option maxHeartbeats 1000000 in
theorem Neg_ok (x : Int) (hl : Lim x) (ao : Option Addr) (len cap : Nat) (w : World) (hs : Sl w ao len cap (parts x.natAbs)) :
    Calls Tryz.prog 42 #[.agg #[.bool (decide (x < 0)), .slice ao len cap]] w (RetE (-x) 0 w) := by
  have hok : okInt (decide (x < 0)) (parts x.natAbs) = true := (okInt_iff _ _).2 ⟨x, hl, rfl, rfl⟩
  have hlen : len ≤ 40 := by have := hs.length; unfold Lim at hl; omega
  have hch := fun w (h : Sl w ao len cap (parts x.natAbs)) => check_any (decide (x < 0)) ao len cap (parts x.natAbs) w h
  rw [hok] at hch
  have hop := fun w h => opp_any x ao len cap w h (by omega)
  generalize hsx : decide (x < 0) = sx at *
  generalize hsz : decide (-x < 0) = sz at *
  have Hsz := Lib.hid hsz
  have Hch := Lib.hid hch
  have Hop := Lib.hid hop
  clear hch hok hop hsx hsz hl
  go_enter Tryz.func42, Tryz.ntmps42
  go_wp2_with fail
  refine (Hch.out _ ((hs.alloc _).alloc _)).mono ?_
  rintro e w1 ⟨rfl, hb⟩
  have hs1 := ((hs.alloc _).alloc _).below hb
  obtain ⟨hA, hR, hz, hbb⟩ := kept2 _ _ _ hb
  obtain ⟨k1, k2, k3, k4, k5⟩ := box2 hA
  have HR := Lib.hid hR
  clear hA hR hb
  simp only [errOf]
  go_wp2_with fail
  refine (Hop.out _ (by exact hs1)).mono ?_
  rintro e w2 ⟨ao2, len2, cap2, rfl, hs2, hb2⟩
  rw [Hsz.out]
  obtain ⟨f1, f2, f3, f4, f5⟩ := box2 (w := w2) (g := w.heap.size + 1) (by rw [hb2.block _ (by first | omega | (simp; omega))]; exact HR.out)
  go_wp2
  refine bodyPost_ret (v := .tuple #[.agg #[.bool sz, .slice ao2 len2 cap2], .int .i64 0]) (by simp [results, Tryz.results42, go_sem, f1, f2]) rfl ?_
  exact ⟨ao2, len2, cap2, by rw [Hsz.out], hs2.store2 f1 f2 _ _, (((hbb.trans (hb2.mono (by omega))).setCell (by simp) _).setCell (by simp) _)⟩
end Go.Proofs.YtfjnplhhgdfepaaGreatDoor

/- Fractions: Cross at named numbers, right at seven data, and what NumFractions leans on of integers. -/
namespace Go.Proofs.YtfjnplhhgdfepaaGreatDoor
open Go.RowKit

theorem crossQ {x y z u v : Int} {n1 n2 n3 n4 : Bool} {x1 x2 x3 x4 : List Int} (hx : Num x n1 x1) (hy : Num y n2 x2) (hz : Num z n3 x3) (hu : Num u n4 x4) (py : 0 < y) (pu : 0 < u) (hv : cmp3 (x * u) (z * y) = v)
    (a1 : Option Addr) (l1 c1 : Nat) (a2 : Option Addr) (l2 c2 : Nat) (a3 : Option Addr) (l3 c3 : Nat) (a4 : Option Addr) (l4 c4 : Nat) (w : World) (h1 : Sl w a1 l1 c1 x1) (h2 : Sl w a2 l2 c2 x2) (h3 : Sl w a3 l3 c3 x3) (h4 : Sl w a4 l4 c4 x4) :
    Calls Tryz.prog 58 #[.agg #[.bool n1, .slice a1 l1 c1], .agg #[.bool n2, .slice a2 l2 c2], .agg #[.bool n3, .slice a3 l3 c3], .agg #[.bool n4, .slice a4 l4 c4]] w (RetII v 0 w) := by
  obtain ⟨k1, rfl, rfl⟩ := hx
  obtain ⟨k2, rfl, rfl⟩ := hy
  obtain ⟨k3, rfl, rfl⟩ := hz
  obtain ⟨k4, rfl, rfl⟩ := hu
  subst hv
  exact cross_ok x y z u k1 k2 k3 k4 a1 l1 c1 a2 l2 c2 a3 l3 c3 a4 l4 c4 w h1 h2 h3 h4 py pu
theorem right7 (n1 : Bool) (a1 : Option Addr) (l1 c1 : Nat) (x1 : List Int) (n2 : Bool) (a2 : Option Addr) (l2 c2 : Nat) (x2 : List Int) (n3 : Bool) (a3 : Option Addr) (l3 c3 : Nat) (x3 : List Int) (n4 : Bool) (a4 : Option Addr) (l4 c4 : Nat) (x4 : List Int) (n5 : Bool) (a5 : Option Addr) (l5 c5 : Nat) (x5 : List Int) (n6 : Bool) (a6 : Option Addr) (l6 c6 : Nat) (x6 : List Int) (n7 : Bool) (a7 : Option Addr) (l7 c7 : Nat) (x7 : List Int) (w : World) (g : Nat)
    (hg : w.heap[g]? = some (.cells #[.bool n1, .slice a1 l1 c1, .bool n2, .slice a2 l2 c2, .bool n3, .slice a3 l3 c3, .bool n4, .slice a4 l4 c4, .bool n5, .slice a5 l5 c5, .bool n6, .slice a6 l6 c6, .bool n7, .slice a7 l7 c7] 24 (0, 0)))
    (h1 : Sl w a1 l1 c1 x1) (h2 : Sl w a2 l2 c2 x2) (h3 : Sl w a3 l3 c3 x3) (h4 : Sl w a4 l4 c4 x4) (h5 : Sl w a5 l5 c5 x5) (h6 : Sl w a6 l6 c6 x6) (h7 : Sl w a7 l7 c7 x7) (r : Bool)
    (hr : (!(wrong ⟨n1, a1, l1, c1, x1⟩ || (wrong ⟨n2, a2, l2, c2, x2⟩ || (wrong ⟨n3, a3, l3, c3, x3⟩ || (wrong ⟨n4, a4, l4, c4, x4⟩ || (wrong ⟨n5, a5, l5, c5, x5⟩ || (wrong ⟨n6, a6, l6, c6, x6⟩ || wrong ⟨n7, a7, l7, c7, x7⟩))))))) = r) :
    Calls Tryz.prog 64 #[.slice (some ⟨g, 0, none⟩) 7 7] w (RetBool r w) := by
  have := right_any g [⟨n1, a1, l1, c1, x1⟩, ⟨n2, a2, l2, c2, x2⟩, ⟨n3, a3, l3, c3, x3⟩, ⟨n4, a4, l4, c4, x4⟩, ⟨n5, a5, l5, c5, x5⟩, ⟨n6, a6, l6, c6, x6⟩, ⟨n7, a7, l7, c7, x7⟩] w hg (by
    intro d hd
    simp only [List.mem_cons, List.not_mem_nil, or_false] at hd
    rcases hd with rfl | rfl | rfl | rfl | rfl | rfl | rfl
    · exact h1
    · exact h2
    · exact h3
    · exact h4
    · exact h5
    · exact h6
    · exact h7) (by simp)
  rw [show List.any [(⟨n1, a1, l1, c1, x1⟩ : Dat), ⟨n2, a2, l2, c2, x2⟩, ⟨n3, a3, l3, c3, x3⟩, ⟨n4, a4, l4, c4, x4⟩, ⟨n5, a5, l5, c5, x5⟩, ⟨n6, a6, l6, c6, x6⟩, ⟨n7, a7, l7, c7, x7⟩] wrong = (wrong ⟨n1, a1, l1, c1, x1⟩ || (wrong ⟨n2, a2, l2, c2, x2⟩ || (wrong ⟨n3, a3, l3, c3, x3⟩ || (wrong ⟨n4, a4, l4, c4, x4⟩ || (wrong ⟨n5, a5, l5, c5, x5⟩ || (wrong ⟨n6, a6, l6, c6, x6⟩ || wrong ⟨n7, a7, l7, c7, x7⟩)))))) by simp, hr] at this
  exact this

theorem cmp3_cases {x y v : Int} (h : cmp3 x y = v) : (v = -1 ∧ x < y) ∨ (v = 0 ∧ x = y) ∨ (v = 1 ∧ y < x) := by
  unfold cmp3 at h
  by_cases h1 : x < y
  · rw [if_pos h1] at h; exact .inl ⟨h.symm, h1⟩
  · rw [if_neg h1] at h
    by_cases h2 : x = y
    · rw [if_pos h2] at h; exact .inr (.inl ⟨h.symm, h2⟩)
    · rw [if_neg h2] at h; exact .inr (.inr ⟨h.symm, by omega⟩)
theorem cmp3_lt {x y : Int} (h : x < y) : cmp3 x y = -1 := if_pos h
theorem cmp3_gt {x y : Int} (h : y < x) : cmp3 x y = 1 := by unfold cmp3; rw [if_neg (by omega), if_neg (by omega)]
theorem pos_of {z v : Int} (h : cmp3 z 0 = v) (hq : decide (v ≤ 0) = false) : 0 < z := by
  have := of_decide_eq_false hq
  rcases cmp3_cases h with ⟨h1, h2⟩ | ⟨h1, h2⟩ | ⟨h1, h2⟩ <;> omega
theorem pos_sign {z v : Int} (h : cmp3 z 0 = v) (hq : 0 < v) : 0 < z := by
  rcases cmp3_cases h with ⟨h1, h2⟩ | ⟨h1, h2⟩ | ⟨h1, h2⟩ <;> omega
theorem frac_order {a b c d e f x y z v : Int} (pb : 0 < b) (pd : 0 < d) (pf : 0 < f) (hx : cmp3 (a * d) (c * b) = x) (hy : cmp3 (c * b) (a * d) = y) (hz : cmp3 (c * f) (e * d) = z) (hv : cmp3 (a * f) (e * b) = v) :
    (x = -1 ∨ x = 0 ∨ x = 1) ∧ y = -x ∧ (x ≤ 0 → z ≤ 0 → v ≤ 0) := by
  refine ⟨?_, ?_, fun h1 h2 => ?_⟩
  · rcases cmp3_cases hx with ⟨h1, _⟩ | ⟨h1, _⟩ | ⟨h1, _⟩ <;> simp [h1]
  · rcases cmp3_cases hx with ⟨h1, h2⟩ | ⟨h1, h2⟩ | ⟨h1, h2⟩ <;> rcases cmp3_cases hy with ⟨h3, h4⟩ | ⟨h3, h4⟩ | ⟨h3, h4⟩ <;> omega
  · have k1 : a * d ≤ c * b := by rcases cmp3_cases hx with ⟨h3, h4⟩ | ⟨h3, h4⟩ | ⟨h3, h4⟩ <;> omega
    have k2 : c * f ≤ e * d := by rcases cmp3_cases hz with ⟨h3, h4⟩ | ⟨h3, h4⟩ | ⟨h3, h4⟩ <;> omega
    have k3 : a * d * f ≤ c * b * f := Int.mul_le_mul_of_nonneg_right k1 (by omega)
    have k4 : c * f * b ≤ e * d * b := Int.mul_le_mul_of_nonneg_right k2 (by omega)
    have k5 : (a * f) * d ≤ (e * b) * d := by
      have e1 : a * d * f = (a * f) * d := by ac_rfl
      have e2 : c * b * f = c * f * b := by ac_rfl
      have e3 : e * d * b = (e * b) * d := by ac_rfl
      rw [e1, e2] at k3; rw [e3] at k4; omega
    have k6 : a * f ≤ e * b := Int.le_of_mul_le_mul_right k5 pd
    rcases cmp3_cases hv with ⟨h3, h4⟩ | ⟨h3, h4⟩ | ⟨h3, h4⟩ <;> omega
theorem frac_pos {a b k p q ep eq : Int} (pb : 0 < b) (hp : timesR (a, 0) (k, 0) = (p, ep)) (hq : timesR (b, 0) (k, 0) = (q, eq)) (h : ep = 0 ∧ eq = 0 ∧ 0 < k) : 0 < q := by
  have _ := hp
  obtain ⟨_, rfl, hk⟩ := h
  obtain ⟨_, _, rfl⟩ := timesR_zero hq
  exact Int.mul_pos pb hk
theorem cmp3_scale {x y k v : Int} (hk : 0 < k) (h : cmp3 x y = v) : cmp3 (x * k) (y * k) = v := by
  rcases cmp3_cases h with ⟨rfl, h2⟩ | ⟨rfl, h2⟩ | ⟨rfl, h2⟩
  · exact cmp3_lt (Int.mul_lt_mul_of_pos_right h2 hk)
  · rw [h2]; exact cmp3_self _
  · exact cmp3_gt (Int.mul_lt_mul_of_pos_right h2 hk)
theorem frac_more {a b c d k p q ep eq x : Int} (pb : 0 < b) (pd : 0 < d) (hp : timesR (a, 0) (k, 0) = (p, ep)) (hq : timesR (b, 0) (k, 0) = (q, eq)) (h : ep = 0 ∧ eq = 0 ∧ 0 < k) (hx : cmp3 (a * d) (c * b) = x) : cmp3 (p * d) (c * q) = x := by
  have _ := pb; have _ := pd
  obtain ⟨rfl, rfl, hk⟩ := h
  obtain ⟨_, _, rfl⟩ := timesR_zero hp
  obtain ⟨_, _, rfl⟩ := timesR_zero hq
  rw [show a * k * d = a * d * k by ac_rfl, show c * (b * k) = c * b * k by ac_rfl]
  exact cmp3_scale hk hx
theorem flq_pos (a : Int) {b : Int} (pb : 0 < b) : flq a b * b ≤ a ∧ a < (flq a b + 1) * b := by
  unfold flq; rw [if_pos pb]
  have h1 := Int.mul_ediv_add_emod a b
  have h2 := Int.emod_nonneg a (by omega : b ≠ 0)
  have h3 := Int.emod_lt_of_pos a pb
  have h4 : b * (a / b) = a / b * b := Int.mul_comm _ _
  rw [Int.add_mul]
  omega
theorem quo_num {a b : Int} {n : Bool} {xs : List Int} (ha : Num a n xs) (pb : 0 < b) : ∃ m ys, Num (flq a b) m ys := by
  refine ⟨_, _, lim_mono ?_ ha.1, rfl, rfl⟩
  obtain ⟨h1, h2⟩ := flq_pos a pb
  generalize flq a b = q at *
  rcases Int.lt_or_le q 0 with h | h
  · have h3 : (q + 1) * b ≤ q + 1 := by
      have : (q + 1) * b ≤ (q + 1) * 1 := Int.mul_le_mul_of_nonpos_left (by omega) (by omega)
      omega
    omega
  · have h3 : q ≤ q * b := by
      have : q * 1 ≤ q * b := Int.mul_le_mul_of_nonneg_left (by omega) h
      omega
    omega
theorem frac_quo {a b c d x m : Int} (pb : 0 < b) (pd : 0 < d) (hx : cmp3 (a * d) (c * b) = x) (hm : cmp3 (flq a b) (flq c d) = m) : m ≠ 0 → m = x := by
  intro h0
  obtain ⟨h1, h2⟩ := flq_pos a pb
  obtain ⟨h3, h4⟩ := flq_pos c pd
  generalize flq a b = q at *
  generalize flq c d = r at *
  have key : ∀ {a b c d q r : Int}, 0 < b → 0 < d → a < (q + 1) * b → r * d ≤ c → q < r → a * d < c * b := by
    intro a b c d q r pb pd h2 h3 h
    have k1 : a * d < (q + 1) * b * d := Int.mul_lt_mul_of_pos_right h2 pd
    have k2 : r * d * b ≤ c * b := Int.mul_le_mul_of_nonneg_right h3 (by omega)
    have k3 : (q + 1) * (b * d) ≤ r * (b * d) := Int.mul_le_mul_of_nonneg_right (by omega) (Int.le_of_lt (Int.mul_pos pb pd))
    have e1 : (q + 1) * b * d = (q + 1) * (b * d) := Int.mul_assoc _ _ _
    have e2 : r * d * b = r * (b * d) := by ac_rfl
    rw [e1] at k1; rw [e2] at k2
    omega
  rcases cmp3_cases hm with ⟨rfl, h⟩ | ⟨rfl, h⟩ | ⟨rfl, h⟩
  · rw [← hx]; exact (cmp3_lt (key pb pd h2 h3 h)).symm
  · exact absurd rfl h0
  · rw [← hx]; exact (cmp3_gt (key pd pb h4 h1 h)).symm
end Go.Proofs.YtfjnplhhgdfepaaGreatDoor

/- What NumRing leans on of integers and of the laws' helpers. -/
namespace Go.Proofs.YtfjnplhhgdfepaaGreatDoor
open Go.RowKit

theorem sumR_comm {x y v e : Int} (h : sumR (x, 0) (y, 0) = (v, e)) : sumR (y, 0) (x, 0) = (v, e) := by
  unfold sumR at *; rw [if_pos ⟨rfl, rfl⟩] at *; rw [← h]; simp only [Int.add_comm]
theorem timesR_comm {x y v e : Int} (h : timesR (x, 0) (y, 0) = (v, e)) : timesR (y, 0) (x, 0) = (v, e) := by
  unfold timesR at *; rw [if_pos ⟨rfl, rfl⟩] at *; rw [← h]; simp only [Int.mul_comm]
theorem sum_assoc {a b c v1 e1 v3 e3 v4 e4 v5 e5 : Int} (h1 : sumR (a, 0) (b, 0) = (v1, e1)) (h3 : sumR (v1, e1) (c, 0) = (v3, e3)) (h4 : sumR (b, 0) (c, 0) = (v4, e4)) (h5 : sumR (a, 0) (v4, e4) = (v5, e5)) : e3 ≠ 0 ∨ e5 ≠ 0 ∨ v3 = v5 := by
  by_cases k3 : e3 = 0
  · by_cases k5 : e5 = 0
    · subst k3; subst k5
      obtain ⟨rfl, _, rfl⟩ := sumR_zero h3
      obtain ⟨_, rfl, rfl⟩ := sumR_zero h5
      obtain ⟨_, _, rfl⟩ := sumR_zero h1
      obtain ⟨_, _, rfl⟩ := sumR_zero h4
      exact .inr (.inr (Int.add_assoc _ _ _))
    · exact .inr (.inl k5)
  · exact .inl k3
theorem times_assoc {a b c v1 e1 v3 e3 v4 e4 v5 e5 : Int} (h1 : timesR (a, 0) (b, 0) = (v1, e1)) (h3 : timesR (v1, e1) (c, 0) = (v3, e3)) (h4 : timesR (b, 0) (c, 0) = (v4, e4)) (h5 : timesR (a, 0) (v4, e4) = (v5, e5)) : e3 ≠ 0 ∨ e5 ≠ 0 ∨ v3 = v5 := by
  by_cases k3 : e3 = 0
  · by_cases k5 : e5 = 0
    · subst k3; subst k5
      obtain ⟨rfl, _, rfl⟩ := timesR_zero h3
      obtain ⟨_, rfl, rfl⟩ := timesR_zero h5
      obtain ⟨_, _, rfl⟩ := timesR_zero h1
      obtain ⟨_, _, rfl⟩ := timesR_zero h4
      exact .inr (.inr (Int.mul_assoc _ _ _))
    · exact .inr (.inl k5)
  · exact .inl k3
theorem times_sum {a b c v4 e4 v9 e9 v2 e2 v10 e10 v11 e11 : Int} (h4 : sumR (b, 0) (c, 0) = (v4, e4)) (h9 : timesR (a, 0) (v4, e4) = (v9, e9)) (h2 : timesR (a, 0) (b, 0) = (v2, e2)) (h10 : timesR (a, 0) (c, 0) = (v10, e10)) (h11 : sumR (v2, e2) (v10, e10) = (v11, e11)) : e9 ≠ 0 ∨ e11 ≠ 0 ∨ v9 = v11 := by
  by_cases k3 : e9 = 0
  · by_cases k5 : e11 = 0
    · subst k3; subst k5
      obtain ⟨_, rfl, rfl⟩ := timesR_zero h9
      obtain ⟨_, _, rfl⟩ := sumR_zero h4
      obtain ⟨rfl, rfl, rfl⟩ := sumR_zero h11
      obtain ⟨_, _, rfl⟩ := timesR_zero h2
      obtain ⟨_, _, rfl⟩ := timesR_zero h10
      exact .inr (.inr (Int.mul_add _ _ _))
    · exact .inr (.inl k5)
  · exact .inl k3
theorem sumR_nil {a : Int} {n : Bool} {xs : List Int} (h : Num a n xs) : sumR (a, 0) (0, 0) = (a, 0) := by
  unfold sumR; rw [if_pos ⟨rfl, rfl⟩]; simp only [Int.add_zero]; exact fitR_ok h.1
theorem timesR_one {a : Int} {n : Bool} {xs : List Int} (h : Num a n xs) : timesR (a, 0) (1, 0) = (a, 0) := by
  unfold timesR; rw [if_pos ⟨rfl, rfl⟩]; simp only [Int.mul_one]; exact fitR_ok h.1
theorem timesR_nil (a : Int) : timesR (a, 0) (0, 0) = (0, 0) := by
  unfold timesR; rw [if_pos ⟨rfl, rfl⟩]; simp only [Int.mul_zero]; exact fitR_ok Lim.zero
theorem sumR_neg (a : Int) : sumR (a, 0) (-a, 0) = (0, 0) := by
  unfold sumR; rw [if_pos ⟨rfl, rfl⟩]; simp only [Int.add_right_neg]; exact fitR_ok Lim.zero
theorem sum_sub {a b v e : Int} (h : sumR (a, 0) (b, 0) = (v, e)) (he : e = 0) : v - b = a := by
  subst he
  obtain ⟨_, _, rfl⟩ := sumR_zero h
  omega
theorem neg_num {a : Int} {n : Bool} {xs : List Int} (h : Num a n xs) : ∃ m ys, Num (-a) m ys :=
  ⟨_, _, lim_mono (by omega) h.1, rfl, rfl⟩
theorem negQ {a : Int} {n m : Bool} {xs ys : List Int} (h : Num a n xs) (hm : Num (-a) m ys) (ao : Option Addr) (len cap : Nat) (w : World) (hs : Sl w ao len cap xs) :
    Calls Tryz.prog 42 #[.agg #[.bool n, .slice ao len cap]] w (RetPE m ys 0 w) := by
  obtain ⟨h1, rfl, rfl⟩ := h
  obtain ⟨_, rfl, rfl⟩ := hm
  exact Neg_ok a h1 ao len cap w hs
theorem subQ {x y z : Int} {n1 n2 n3 : Bool} {xs ys zs : List Int} (hx : Num x n1 xs) (hy : Num y n2 ys) (hz : Num z n3 zs) (he : x - y = z) (ax : Option Addr) (la ca : Nat) (ay : Option Addr) (lb cb : Nat) (w : World) (sx : Sl w ax la ca xs) (sy : Sl w ay lb cb ys) :
    Calls Tryz.prog 46 #[.agg #[.bool n1, .slice ax la ca], .agg #[.bool n2, .slice ay lb cb]] w (RetPE n3 zs 0 w) := by
  obtain ⟨h1, rfl, rfl⟩ := hx
  obtain ⟨h2, rfl, rfl⟩ := hy
  obtain ⟨h3, rfl, rfl⟩ := hz
  subst he
  exact (Sub_ok x y h1 h2 ax la ca ay lb cb w sx sy).mono fun _ _ h => h.1 h3
theorem lawValP {n : Bool} {ao : Option Addr} {len cap : Nat} {xs : List Int} {w : World} (hs : Sl w ao len cap xs) :
    Calls Tryz.prog 65 #[.agg #[.bool n, .slice ao len cap]] w (RetQ n xs 0 w) :=
  (lawVal_any n ao len cap w).mono fun _ _ h => ⟨ao, len, cap, h.1, hs.below h.2, h.2⟩
theorem lawGotP {n : Bool} {ao : Option Addr} {len cap : Nat} {xs : List Int} {er : Int} {w : World} (hs : Sl w ao len cap xs) :
    Calls Tryz.prog 28 #[.agg #[.bool n, .slice ao len cap], .int .i64 er] w (RetQ n xs er w) :=
  (got_any n ao len cap er w).mono fun _ _ h => ⟨ao, len, cap, h.1, hs.below h.2, h.2⟩
theorem quo_num' {a b : Int} {n : Bool} {xs : List Int} (ha : Num a n xs) (hb : b ≠ 0) : ∃ m ys, Num (flq a b) m ys := by
  rcases Int.lt_or_gt_of_ne hb with h | h
  · have e : flq a b = flq (-a) (-b) := by
      unfold flq; rw [if_neg (by omega), if_pos (by omega)]
    obtain ⟨m', ys', hn⟩ := neg_num ha
    rw [e]; exact quo_num hn (by omega)
  · exact quo_num ha h
theorem rem_num {a b : Int} {n : Bool} {xs : List Int} (hb' : Num b n xs) (hb : b ≠ 0) : ∃ m ys, Num (flr a b) m ys := by
  refine ⟨_, _, lim_mono ?_ hb'.1, rfl, rfl⟩
  obtain ⟨_, h2, h3⟩ := fl_spec a b hb
  rcases Int.lt_or_gt_of_ne hb with h | h
  · have := h3 h; omega
  · have := h2 h; omega
theorem rem_small (a : Int) {b : Int} (hb : b ≠ 0) : decide ((flr a b).natAbs < b.natAbs) = true := by
  obtain ⟨_, h2, h3⟩ := fl_spec a b hb
  refine decide_eq_true ?_
  rcases Int.lt_or_gt_of_ne hb with h | h
  · have := h3 h; omega
  · have := h2 h; omega
theorem rem_sign {a b : Int} {n m : Bool} {xs ys : List Int} (hb : b ≠ 0) (hr : Num (flr a b) n xs) (hn : Num b m ys) (h0 : flr a b ≠ 0) : (n == m) = true := by
  obtain ⟨_, rfl, _⟩ := hr
  obtain ⟨_, rfl, _⟩ := hn
  obtain ⟨_, h2, h3⟩ := fl_spec a b hb
  rw [beq_iff_eq, decide_eq_decide]
  rcases Int.lt_or_gt_of_ne hb with h | h
  · have := h3 h; omega
  · have := h2 h; omega
theorem div_back {a b v e v' e' : Int} (h1 : timesR (flq a b, 0) (b, 0) = (v, e)) (h2 : sumR (v, e) (flr a b, 0) = (v', e')) : e' ≠ 0 ∨ (0 : Int) ≠ 0 ∨ v' = a := by
  by_cases k : e' = 0
  · subst k
    obtain ⟨rfl, _, rfl⟩ := sumR_zero h2
    obtain ⟨_, _, rfl⟩ := timesR_zero h1
    right; right
    unfold flr
    rw [Int.mul_comm (flq a b) b]; omega
  · exact .inl k
theorem mod0P {x y : Int} {n1 n2 : Bool} {xs ys : List Int} (hx : Num x n1 xs) (hy : Num y n2 ys) (h0 : y = 0) (ax : Option Addr) (la ca : Nat) (ay : Option Addr) (lb cb : Nat) (w : World) (sx : Sl w ax la ca xs) (sy : Sl w ay lb cb ys) :
    Calls Tryz.prog 52 #[.agg #[.bool n1, .slice ax la ca], .agg #[.bool n2, .slice ay lb cb]] w (RetPE false [] 11 w) := by
  obtain ⟨h1, rfl, rfl⟩ := hx
  obtain ⟨h2, rfl, rfl⟩ := hy
  refine (Mod_zero x y h1 h2 h0 ax la ca ay lb cb w sx sy).mono ?_
  rintro e w' ⟨ao, len, cap, rfl, hs, hb⟩
  exact ⟨ao, len, cap, rfl, by rw [show (0 : Int).natAbs = 0 from rfl, parts_zero] at hs; exact hs, hb⟩
end Go.Proofs.YtfjnplhhgdfepaaGreatDoor

/- A region that draws its order, by one relation that each operation keeps, whatever came up before it: a goal an operation, in the place of one for each order. -/
namespace Go.Proofs.YtfjnplhhgdfepaaGreatDoor
open Go Go.RowKit

/-- The frame with the slots ds filled by us. -/
def fillA (a : Act) : List (Option Tmp) → List Value → Act
  | d :: ds, v :: vs => fillA (a.put d v) ds vs
  | _, _ => a
theorem put_twice (a : Act) (d : Option Tmp) (u v : Value) : (a.put d u).put d v = a.put d v := by
  cases d with
  | none => rfl
  | some t => simp [Act.put]
theorem fillA_put : ∀ (ds : List (Option Tmp)) (us : List Value) (a : Act) (d : Option Tmp) (v : Value), (∀ t, d = some t → some t ∉ ds) → fillA (a.put d v) ds us = (fillA a ds us).put d v
  | [], _, _, _, _, _ => rfl
  | _ :: _, [], _, _, _, _ => rfl
  | d' :: ds, u :: us, a, d, v, h => by
    show fillA ((a.put d v).put d' u) ds us = (fillA (a.put d' u) ds us).put d v
    rw [← fillA_put ds us (a.put d' u) d v (fun t ht hm => h t ht (List.mem_cons_of_mem _ hm)), Act.put_comm a v u (fun t ht hd => h t ht (by rw [hd]; exact List.mem_cons_self))]
/-- No slot is written by two operations. -/
def ApartD : List (Option Tmp) → Bool
  | [] => true
  | none :: ds => ApartD ds
  | some t :: ds => !(ds.contains (some t)) && ApartD ds
theorem fillA_set : ∀ (ds : List (Option Tmp)) (us : List Value) (a : Act) (i : Nat) (d : Option Tmp) (v : Value), ApartD ds = true → ds[i]? = some d → i < us.length → (fillA a ds us).put d v = fillA a ds (us.set i v)
  | [], _, _, _, _, _, _, h, _ => by simp at h
  | _ :: _, [], _, _, _, _, _, _, h => by simp at h
  | d' :: ds, u :: us, a, 0, d, v, hA, h, _ => by
    simp only [List.length_cons, Nat.zero_lt_succ, getElem?_pos, List.getElem_cons_zero, Option.some.injEq] at h
    subst h
    have hn : ∀ t, d' = some t → some t ∉ ds := by
      intro t ht hm
      subst ht
      simp [ApartD, hm] at hA
    show (fillA (a.put d' u) ds us).put d' v = fillA (a.put d' v) ds us
    rw [← fillA_put ds us _ d' v hn, put_twice]
  | d' :: ds, u :: us, a, i + 1, d, v, hA, h, hl => by
    have hA' : ApartD ds = true := by
      cases d' with
      | none => exact hA
      | some t => simp [ApartD] at hA; exact hA.2
    exact fillA_set ds us (a.put d' u) i d v hA' (by simpa using h) (by simpa using hl)
/-- What the slots ds hold. -/
def heldIn (a : Act) (ds : List (Option Tmp)) : List Value := ds.map fun d => match d with | some t => a.tmps.getD t undef | none => undef
theorem put_held (a : Act) (d : Option Tmp) : a.put d (match d with | some t => a.tmps.getD t undef | none => undef) = a := by
  cases d with
  | none => rfl
  | some t =>
    show ({ a with tmps := a.tmps.setIfInBounds t (a.tmps.getD t undef) } : Act) = a
    have : a.tmps.setIfInBounds t (a.tmps.getD t undef) = a.tmps := by
      apply Array.ext (by simp)
      intro j h1 h2
      rw [Array.getElem_setIfInBounds]
      split
      · rename_i h; subst h; simp [Array.getD, h2]
      · rfl
    rw [this]
theorem fillA_held : ∀ (ds : List (Option Tmp)) (a : Act), fillA a ds (heldIn a ds) = a
  | [], _ => rfl
  | d :: ds, a => by
    show fillA (a.put d _) ds (heldIn a ds) = a
    rw [put_held]; exact fillA_held ds a

/-- What an operation waits for has come up. -/
def Met (L : Nat → Bool) : List Edge → Prop
  | [] => True
  | e :: r => (Region.binds .any e = true → L e.on = true) ∧ Met L r
theorem Met.of {L : Nat → Bool} : ∀ {l : List Edge}, (∀ e ∈ l, Region.binds .any e = true → L e.on = true) → Met L l
  | [], _ => trivial
  | _ :: _, h => ⟨h _ List.mem_cons_self, Met.of fun e he => h e (List.mem_cons_of_mem _ he)⟩
def hasE (j : Nat) : List Edge → Bool
  | [] => false
  | e :: r => (Region.binds .any e && e.on == j) || hasE j r
theorem Met.get {L : Nat → Bool} {j : Nat} : ∀ {l : List Edge}, Met L l → hasE j l = true → L j = true
  | [], _, h => by cases h
  | e :: r, hm, h => by
    simp only [hasE, Bool.or_eq_true, Bool.and_eq_true, beq_iff_eq] at h
    rcases h with ⟨h1, h2⟩ | h
    · rw [← h2]; exact hm.1 h1
    · exact hm.2.get h
theorem getD_r {l : Array Value} {i : Nat} {u v : Value} (h : l.getD i u = v) : l[i]?.getD u = v := by rw [← Array.getD_eq_getD_getElem?]; exact h
/-- i has come up too. -/
def more (L : Nat → Bool) (i j : Nat) : Bool := if j = i then true else L j
/-- Operation i has yielded v. -/
def upd (U : Nat → Value) (i : Nat) (v : Value) (j : Nat) : Value := if j = i then v else U j
theorem map_upd (U : Nat → Value) (n i : Nat) (v : Value) : ((List.range n).map U).set i v = (List.range n).map (upd U i v) := by
  apply List.ext_getElem (by simp)
  intro j h1 h2
  simp only [List.getElem_set, List.getElem_map, List.getElem_range, upd]
  by_cases h : i = j
  · rw [if_pos h, if_pos h.symm]
  · rw [if_neg h, if_neg (Ne.symm h)]
theorem fillA_size : ∀ (ds : List (Option Tmp)) (us : List Value) (a : Act), (fillA a ds us).tmps.size = a.tmps.size
  | [], _, _ => rfl
  | _ :: _, [], _ => rfl
  | d :: ds, u :: us, a => by
    show (fillA (a.put d u) ds us).tmps.size = _
    rw [fillA_size ds us]
    cases d with
    | none => rfl
    | some t => simp [Act.put]
theorem fillA_other : ∀ (ds : List (Option Tmp)) (us : List Value) (a : Act) (t : Tmp), ds.contains (some t) = false → (fillA a ds us).tmps.getD t undef = a.tmps.getD t undef
  | [], _, _, _, _ => rfl
  | _ :: _, [], _, _, _ => rfl
  | d :: ds, u :: us, a, t, h => by
    simp only [List.contains_cons, Bool.or_eq_false_iff] at h
    show (fillA (a.put d u) ds us).tmps.getD t undef = _
    rw [fillA_other ds us _ t h.2]
    cases d with
    | none => rfl
    | some s =>
      have hs : s ≠ t := by
        intro hh; subst hh; simp at h
      simp only [Act.put, Array.getD_eq_getD_getElem?]
      rw [Array.getElem?_setIfInBounds_ne hs]
theorem fillA_get : ∀ (ds : List (Option Tmp)) (us : List Value) (a : Act) (j : Nat) (t : Tmp) (v : Value), ApartD ds = true → ds[j]? = some (some t) → us[j]? = some v → t < a.tmps.size → (fillA a ds us).tmps.getD t undef = v
  | [], _, _, _, _, _, _, h, _, _ => by simp at h
  | _ :: _, [], _, _, _, _, _, _, h, _ => by simp at h
  | d :: ds, u :: us, a, 0, t, v, hA, h, hu, hlt => by
    simp at h hu
    subst h; subst hu
    have hn : ds.contains (some t) = false := by
      simp [ApartD] at hA; simp; exact hA.1
    show (fillA (a.put (some t) u) ds us).tmps.getD t undef = u
    rw [fillA_other ds us _ t hn]
    simp [Act.put, hlt]
  | d :: ds, u :: us, a, j + 1, t, v, hA, h, hu, hlt => by
    have hA' : ApartD ds = true := by
      cases d with
      | none => exact hA
      | some t => simp [ApartD] at hA; exact hA.2
    refine fillA_get ds us (a.put d u) j t v hA' (by simpa using h) (by simpa using hu) ?_
    cases d with
    | none => exact hlt
    | some t => simpa [Act.put] using hlt
/-- Each slot of ds is one of the frame's. -/
def SizedD (m : Nat) (ds : List (Option Tmp)) : Bool := ds.all fun d => match d with | some t => decide (t < m) | none => true
/-- f of each operation and its number. -/
def EachO (f : Nat → Oper → Prop) : Nat → List Oper → Prop
  | _, [] => True
  | k, o :: r => f k o ∧ EachO f (k + 1) r
theorem EachO.get {f : Nat → Oper → Prop} : ∀ {l : List Oper} {k : Nat}, EachO f k l → ∀ {i : Nat} {o : Oper}, l[i]? = some o → f (k + i) o
  | [], _, _, _, _, h => by simp at h
  | o' :: r, k, hE, 0, o, h => by
    simp at h; subst h; exact hE.1
  | o' :: r, k, hE, i + 1, o, h => by
    have := hE.2.get (i := i) (o := o) (by simpa using h)
    rwa [show k + 1 + i = k + (i + 1) by omega] at this
/-- Each operation waits for earlier ones alone. -/
def BackB (ops : Array Oper) : Bool := (List.range ops.size).all fun i => ((ops[i]?).map fun o => o.after.all fun e => !Region.binds .any e || decide (e.on < i)).getD true

section
variable {P : Program} {ops : Array Oper} {Q : Exit → Act → World → Prop}

theorem all_met {l : Array Bool} (hb : BackB ops = true) (hsz : l.size = ops.size) (hr : Region.ready .any ops l = []) : ∀ (n i : Nat), i ≤ n → i < ops.size → l.getD i false = true := by
  intro n
  induction n with
  | zero =>
    intro i hi hlt
    obtain rfl : i = 0 := by omega
    cases hc : l.getD 0 false with
    | true => rfl
    | false =>
      have hm : 0 ∈ Region.ready .any ops l := by
        rw [mem_ready]
        refine ⟨?_, ops[0], by simp [hlt], fun e he hbd => ?_⟩
        · have h0 : 0 < l.size := by omega
          simp only [Array.getD, h0, dif_pos] at hc ⊢; exact hc
        · have h1 := List.all_eq_true.1 hb 0 (List.mem_range.2 hlt)
          rw [show ops[0]? = some ops[0] by simp [hlt]] at h1
          simp only [Option.map_some, Option.getD_some] at h1
          have h2 := Array.all_eq_true'.1 h1 e he
          rw [hbd] at h2
          simp at h2
      rw [hr] at hm; cases hm
  | succ n ih =>
    intro i hi hlt
    rcases Nat.lt_or_ge i (n + 1) with h | h
    · exact ih i (by omega) hlt
    obtain rfl : i = n + 1 := by omega
    cases hc : l.getD (n + 1) false with
    | true => rfl
    | false =>
      have hm : n + 1 ∈ Region.ready .any ops l := by
        rw [mem_ready]
        refine ⟨?_, ops[n + 1], by simp [hlt], fun e he hbd => ?_⟩
        · have h0 : n + 1 < l.size := by omega
          simp only [Array.getD, h0, dif_pos] at hc ⊢; exact hc
        · have h1 := List.all_eq_true.1 hb (n + 1) (List.mem_range.2 hlt)
          rw [show ops[n + 1]? = some ops[n + 1] by simp [hlt]] at h1
          simp only [Option.map_some, Option.getD_some] at h1
          have h2 := Array.all_eq_true'.1 h1 e he
          rw [hbd] at h2
          simp only [Bool.not_true, Bool.false_or, decide_eq_true_eq] at h2
          exact ih e.on (by omega) (by omega)
      rw [hr] at hm; cases hm

theorem keep_any {I : Array Bool → Act → World → Prop} (hb : BackB ops = true)
    (hs : ∀ i l a w, l.size = ops.size → I l a w → i ∈ Region.ready .any ops l → wpOp P ops Q i (I (l.setIfInBounds i true)) a w)
    (he : ∀ l a w, l.size = ops.size → I l a w → (∀ i, i < ops.size → l.getD i false = true) → Q .normal a w) :
    ∀ (k : Nat) (l : Array Bool) (a : Act) (w : World), l.size = ops.size → l.toList.count false ≤ k → I l a w → wpAny P .any ops Q k l a w
  | 0, l, a, w, hz, hk, h => by
    have hr : Region.ready .any ops l = [] := by
      rcases hh : Region.ready .any ops l with _ | ⟨i, r⟩
      · rfl
      · exfalso
        have hi : i ∈ Region.ready .any ops l := by rw [hh]; exact List.mem_cons_self
        have h1 := (mem_ready.1 hi).1
        have h2 : i < l.size := by
          rcases Nat.lt_or_ge i l.size with h' | h'
          · exact h'
          · simp [Array.getElem?_eq_none h'] at h1
        have h3 : false ∈ l.toList := by
          have : l[i] = false := by simpa [Array.getD, h2] using h1
          rw [← this]; simp
        have := List.count_pos_iff.2 h3
        omega
    exact ⟨hr, he l a w hz h fun i hi => all_met hb hz hr i i (Nat.le_refl _) hi⟩
  | k + 1, l, a, w, hz, hk, h => by
    refine ⟨fun hr => he l a w hz h fun i hi => all_met hb hz hr i i (Nat.le_refl _) hi, fun i hi => ?_⟩
    have h1 := (mem_ready.1 hi).1
    have h2 : i < l.size := by
      rcases Nat.lt_or_ge i l.size with h' | h'
      · exact h'
      · simp [Array.getElem?_eq_none h'] at h1
    have h3 : l[i] = false := by simpa [Array.getD, h2] using h1
    have h4 : (l.setIfInBounds i true).toList.count false ≤ k := by
      have h5 : (l.setIfInBounds i true).toList = l.toList.set i true := by simp
      rw [h5, List.count_set (by simpa using h2), if_pos (by simp [h3]), if_neg (by decide)]
      omega
    exact wpOp_mono (fun a' w' h' => keep_any hb hs he k _ a' w' (by simp [hz]) h4 h') (hs i l a w hz h hi)

/-- A region that draws its order: F (which operations have come up, what each has yielded, the world) is kept by each of them, whatever the frame, if it holds what they have yielded. -/
theorem region_kept {id : Nat} {a : Act} {w : World} (n : Nat) (ds : List (Option Tmp)) (vs : (Nat → Value) → List Value) (F : (Nat → Bool) → (Nat → Value) → World → Prop) (hn : ops.size = n) (hds : ops.toList.map (·.dst) = ds) (hvs : ∀ U, vs U = (List.range n).map U) (hm : P.follows .mixedOrders = true)
    (hb : BackB ops = true) (hap : ApartD ds = true) (hsz : SizedD a.tmps.size ds = true)
    (start : ∀ U, F (fun _ => false) U w.drew)
    (step : EachO (fun i o => ∀ (L : Nat → Bool) (U : Nat → Value) (w : World) (b : Act), F L U w → L i = false → Met L o.after.toList →
      (∀ (j : Nat) (t : Tmp), ds[j]? = some (some t) → b.tmps.getD t undef = U j) → (∀ t : Tmp, ds.contains (some t) = false → b.tmps.getD t undef = a.tmps.getD t undef) →
      ∀ K : Act → World → Prop, Shut (∀ v w', F (more L i) (upd U i v) w' → K (b.put o.dst v) w') →
        if Region.wanted o (yielded ops b.tmps) = true then Oper.wp P o b w K Q else K (b.put o.dst undef) w) 0 ops.toList)
    (fin : ∀ (L : Nat → Bool) (U : Nat → Value) (w : World), F L U w → (∀ i, i < n → L i = true) → Q .normal (fillA a ds (vs U)) w) :
    (Code.region id ops true).wp P Q a w := by
  subst hn; subst hds
  refine wp_region_any hm ?_
  refine keep_any (I := fun l b w => ∃ U : Nat → Value, b = fillA a (ops.toList.map (·.dst)) ((List.range ops.size).map U) ∧ F (fun i => l.getD i false) U w) hb ?_ ?_ _ _ _ _ (by simp) ?_ ?_
  · rintro i l b w hz ⟨U, rfl, hF⟩ hi
    obtain ⟨h1, o, ho, hmet⟩ := mem_ready.1 hi
    have h2 : i < l.size := by
      rcases Nat.lt_or_ge i l.size with h' | h'
      · exact h'
      · simp [Array.getElem?_eq_none h'] at h1
    have h3 : l.getD i false = false := by
      simp only [Array.getD, h2, dif_pos] at h1 ⊢; exact h1
    have hst := step.get (i := i) (o := o) (by simpa using ho)
    rw [Nat.zero_add] at hst
    refine wpOp_step ho fun K' hK => hst _ U w _ hF h3 (Met.of fun e he hbd => hmet e (by simpa using he) hbd) (fun j t hj => ?_) (fun t ht => fillA_other _ _ a t ht) K' ?_
    · have hlt : t < a.tmps.size := by
        have := List.all_eq_true.1 hsz (some t) (List.mem_of_getElem? hj)
        simpa using this
      have hj' : j < ops.size := by
        have h := (List.getElem?_eq_some_iff.1 hj).1
        simpa using h
      exact fillA_get _ _ a j t (U j) hap hj (by simp [hj']) hlt
    intro v w' hF'
    refine hK _ _ ⟨upd U i v, ?_, ?_⟩
    · rw [← map_upd]
      exact fillA_set _ _ a i o.dst v hap (by simp [ho]) (by simp; omega)
    · have hL : (fun j => (l.setIfInBounds i true).getD j false) = more (fun j => l.getD j false) i := by
        funext j
        unfold more
        by_cases hj : j = i
        · subst hj; simp [h2]
        · rw [_root_.Go.getD_set_ne false (Ne.symm hj), if_neg hj]
      rw [hL]; exact hF'
  · rintro l b w hz ⟨U, rfl, hF⟩ hall
    have := fin _ U w hF hall
    rwa [hvs] at this
  · simp
  · refine ⟨fun j => (heldIn a (ops.toList.map (·.dst))).getD j undef, ?_, ?_⟩
    · have e : (List.range ops.size).map (fun j => (heldIn a (ops.toList.map (·.dst))).getD j undef) = heldIn a (ops.toList.map (·.dst)) := by
        apply List.ext_getElem (by simp [heldIn])
        intro j h1 h2
        simp [h2]
      rw [e]; exact (fillA_held _ _).symm
    · have : (fun i => (Array.replicate ops.size false).getD i false) = fun _ => false := by
        funext i
        rcases Nat.lt_or_ge i ops.size with h | h
        · simp [h]
        · simp [h]
      rw [this]; exact start _
end
end Go.Proofs.YtfjnplhhgdfepaaGreatDoor

/- What a drawn region makes: pairs of a number and an error, boxes of such pairs; what a store into a box that is new leaves as it was. -/
namespace Go.Proofs.YtfjnplhhgdfepaaGreatDoor
open Go.RowKit

/-- u is the pair of a sign, parts and an error. -/
def HasP (w : World) (u : Value) (n : Bool) (xs : List Int) (e : Int) : Prop := ∃ ap lp cp, u = .agg #[.bool n, .slice ap lp cp, .int .i64 e] ∧ Sl w ap lp cp xs
theorem HasP.below {w w' : World} {u : Value} {n : Bool} {xs : List Int} {e : Int} (h : HasP w u n xs e) (hb : Below w.heap.size w w') : HasP w' u n xs e := by
  obtain ⟨a, l, c, h1, h2⟩ := h
  exact ⟨a, l, c, h1, h2.below hb⟩
/-- u points to a box, at B or above, that holds the zero pair till the pair is stored into it. -/
def PBox (B : Nat) (w : World) (u : Value) (st : Bool) (n : Bool) (xs : List Int) (e : Int) : Prop :=
  ∃ g, u = .pointer (some ⟨g, 0, none⟩) ∧ B ≤ g ∧ g < w.heap.size ∧ (st = false → Zr w g) ∧ (st = true → ∃ a l c, Box3 w g n a l c e ∧ Sl w a l c xs)
theorem PBox.below {B : Nat} {w w' : World} {u : Value} {st n : Bool} {xs : List Int} {e : Int} (h : PBox B w u st n xs e) (hb : Below w.heap.size w w') : PBox B w' u st n xs e := by
  obtain ⟨g, h1, h2, h3, h4, h5⟩ := h
  refine ⟨g, h1, h2, Nat.lt_of_lt_of_le h3 hb.size, fun h => (h4 h).below hb, fun h => ?_⟩
  obtain ⟨a, l, c, h6, h7⟩ := h5 h
  exact ⟨a, l, c, h6.below hb, h7.below hb⟩
theorem PBox.new {B : Nat} {w : World} {n : Bool} {xs : List Int} {e : Int} {st : Bool} (hB : B ≤ w.heap.size) (hst : st = false) : PBox B (w.alloc (.cells #[.bool false, .slice none 0 0, .int .i64 0] 38)) (.pointer (some ⟨w.heap.size, 0, none⟩)) st n xs e := by
  subst hst
  exact ⟨w.heap.size, rfl, hB, by simp, fun _ => heap_new w _, (fun h => by cases h)⟩
theorem PBox.fresh {B : Nat} {w : World} {u : Value} {st n : Bool} {xs : List Int} {e : Int} (h : PBox B w u st n xs e) : u ≠ .pointer (some ⟨w.heap.size, 0, none⟩) := by
  obtain ⟨g, rfl, _, h3, _⟩ := h
  intro hh
  injection hh with hh
  injection hh with hh
  injection hh with hh
  omega
theorem HasP.set {w : World} {u : Value} {n : Bool} {xs : List Int} {e : Int} (h : HasP w u n xs e) (hl : xs.getLast? ≠ some 0) {g : Nat} (z : Zr w g) (n' : Bool) (a' : Option Addr) (l' c' : Nat) (e' : Int) :
    HasP (((w.setCell ⟨g, 0, none⟩ (.bool n')).setCell ⟨g, 1, none⟩ (.slice a' l' c')).setCell ⟨g, 2, none⟩ (.int .i64 e')) u n xs e := by
  obtain ⟨a, l, c, h1, h2⟩ := h
  exact ⟨a, l, c, h1, h2.pair hl z _ _ _ _ _⟩
theorem PBox.other {B : Nat} {w : World} {u : Value} {st n : Bool} {xs : List Int} {e : Int} (h : PBox B w u st n xs e) (hl : xs.getLast? ≠ some 0) {g : Nat} (z : Zr w g) (hne : u ≠ .pointer (some ⟨g, 0, none⟩)) (n' : Bool) (a' : Option Addr) (l' c' : Nat) (e' : Int) :
    PBox B (((w.setCell ⟨g, 0, none⟩ (.bool n')).setCell ⟨g, 1, none⟩ (.slice a' l' c')).setCell ⟨g, 2, none⟩ (.int .i64 e')) u st n xs e := by
  obtain ⟨k, rfl, h2, h3, h4, h5⟩ := h
  have hk : k ≠ g := fun h => hne (by rw [h])
  have hh := heap_set3 (w := w) hk (.bool n') (.slice a' l' c') (.int .i64 e')
  refine ⟨k, rfl, h2, by simpa using h3, fun h => hh.trans (h4 h), fun h => ?_⟩
  obtain ⟨a, l, c, h6, h7⟩ := h5 h
  exact ⟨a, l, c, hh.trans h6, h7.pair hl z _ _ _ _ _⟩
theorem PBox.self {B : Nat} {w : World} {n : Bool} {xs : List Int} {e : Int} {g : Nat} (z : Zr w g) (hB : B ≤ g) {a : Option Addr} {l c : Nat} (s : Sl w a l c xs) (hl : xs.getLast? ≠ some 0) :
    PBox B (((w.setCell ⟨g, 0, none⟩ (.bool n)).setCell ⟨g, 1, none⟩ (.slice a l c)).setCell ⟨g, 2, none⟩ (.int .i64 e)) (.pointer (some ⟨g, 0, none⟩)) true n xs e :=
  ⟨g, rfl, hB, by simpa using Box3.lt z, (fun h => by cases h), fun _ => ⟨a, l, c, Box3.set z, s.pair hl z _ _ _ _ _⟩⟩
theorem PBox.selfOf {B : Nat} {w : World} {n : Bool} {xs : List Int} {e : Int} {g : Nat} {u : Value} (hu : u = .pointer (some ⟨g, 0, none⟩)) (z : Zr w g) (hB : B ≤ g) {a : Option Addr} {l c : Nat} (s : Sl w a l c xs) (hl : xs.getLast? ≠ some 0) :
    PBox B (((w.setCell ⟨g, 0, none⟩ (.bool n)).setCell ⟨g, 1, none⟩ (.slice a l c)).setCell ⟨g, 2, none⟩ (.int .i64 e)) u true n xs e := by
  subst hu; exact PBox.self z hB s hl
/-- u is the integer of a sign and parts; the same with an error, as two results. -/
def HasI (w : World) (u : Value) (n : Bool) (xs : List Int) : Prop := ∃ ap lp cp, u = .agg #[.bool n, .slice ap lp cp] ∧ Sl w ap lp cp xs
theorem HasI.below {w w' : World} {u : Value} {n : Bool} {xs : List Int} (h : HasI w u n xs) (hb : Below w.heap.size w w') : HasI w' u n xs := by
  obtain ⟨a, l, c, h1, h2⟩ := h
  exact ⟨a, l, c, h1, h2.below hb⟩
def HasT (w : World) (u : Value) (n : Bool) (xs : List Int) (e : Int) : Prop := ∃ ap lp cp, u = .tuple #[.agg #[.bool n, .slice ap lp cp], .int .i64 e] ∧ Sl w ap lp cp xs
theorem HasT.below {w w' : World} {u : Value} {n : Bool} {xs : List Int} {e : Int} (h : HasT w u n xs e) (hb : Below w.heap.size w w') : HasT w' u n xs e := by
  obtain ⟨a, l, c, h1, h2⟩ := h
  exact ⟨a, l, c, h1, h2.below hb⟩
theorem yielded_of {ops : Array Oper} {tmps : Array Value} {j : Nat} {t : Tmp} {v : Bool} (ho : (ops[j]?).bind (·.dst) = some t) (h : tmps.getD t undef = .bool v) : yielded ops tmps j = some v := by
  unfold yielded
  rw [ho]
  have h1 : tmps[t]? = some (.bool v) := by
    rw [Array.getD_eq_getD_getElem?] at h
    cases hh : tmps[t]? with
    | none => rw [hh] at h; cases h
    | some x => rw [hh] at h; simp at h; rw [h]
  simp [h1]
theorem wants {o : Oper} {ops : Array Oper} {tmps : Array Value} {j : Nat} {t : Tmp} {v : Bool} (hg : o.guard = some (j, v)) (ho : (ops[j]?).bind (·.dst) = some t) (h : tmps.getD t undef = .bool v) : Region.wanted o (yielded ops tmps) = true := by
  unfold Region.wanted
  rw [hg]
  simp [yielded_of ho h]
theorem wants_not {o : Oper} {ops : Array Oper} {tmps : Array Value} {j : Nat} {t : Tmp} {v u : Bool} (hg : o.guard = some (j, v)) (ho : (ops[j]?).bind (·.dst) = some t) (h : tmps.getD t undef = .bool u) (hu : u ≠ v) : ¬ Region.wanted o (yielded ops tmps) = true := by
  unfold Region.wanted
  rw [hg]
  simp [yielded_of ho h, hu]
theorem wants_none {o : Oper} {ops : Array Oper} {tmps : Array Value} {j : Nat} {t : Tmp} {v : Bool} (hg : o.guard = some (j, v)) (ho : (ops[j]?).bind (·.dst) = some t) (h : tmps.getD t undef = undef) : ¬ Region.wanted o (yielded ops tmps) = true := by
  have h1 : yielded ops tmps j = none := by
    unfold yielded
    rw [ho]
    rw [Array.getD_eq_getD_getElem?] at h
    cases hh : tmps[t]? with
    | none => simp [hh]
    | some x => rw [hh] at h; simp at h; subst h; simp [hh, undef]
  unfold Region.wanted
  rw [hg]
  simp [h1]
theorem not_yet {L : Nat → Bool} {i j : Nat} (h : L i = true → L j = true) (hj : L j = false) : L i = false := by
  cases hi : L i with
  | false => rfl
  | true => rw [h hi] at hj; cases hj
end Go.Proofs.YtfjnplhhgdfepaaGreatDoor

/- A region that draws its order and stores nothing: what each operation has yielded is told by a list, which every later world keeps. -/
namespace Go.Proofs.YtfjnplhhgdfepaaGreatDoor
open Go Go.RowKit

/-- What is so stays so, whatever blocks are added. -/
def Mono (Q : World → Value → Prop) : Prop := ∀ w w' u, Q w u → Below w.heap.size w w' → Q w' u
theorem Mono.is {v : Value} : Mono (fun _ u => u = v) := fun _ _ _ h _ => h
theorem Mono.pair {n : Bool} {xs : List Int} {e : Int} : Mono (fun w u => HasP w u n xs e) := fun _ _ _ h b => h.below b
theorem Mono.int {n : Bool} {xs : List Int} : Mono (fun w u => HasI w u n xs) := fun _ _ _ h b => h.below b
theorem Mono.tuple {n : Bool} {xs : List Int} {e : Int} : Mono (fun w u => HasT w u n xs e) := fun _ _ _ h b => h.below b
def AllQ : List (World → Value → Prop) → Prop
  | [] => True
  | q :: r => Mono q ∧ AllQ r
theorem AllQ.get : ∀ {l : List (World → Value → Prop)} {j : Nat} {q : World → Value → Prop}, AllQ l → l[j]? = some q → Mono q
  | [], _, _, _, h => by simp at h
  | _ :: _, 0, _, hA, h => by simp at h; subst h; exact hA.1
  | _ :: r, j + 1, _, hA, h => AllQ.get (l := r) (j := j) hA.2 (by simpa using h)
/-- The operations that have come up have yielded what the list says. -/
def Upto (W : World) (Qs : List (World → Value → Prop)) (L : Nat → Bool) (U : Nat → Value) (w : World) : Prop :=
  Below W.heap.size W w ∧ ∀ j q, Qs[j]? = some q → L j = true → q w (U j)
theorem Upto.start (W : World) (Qs : List (World → Value → Prop)) (U : Nat → Value) : Upto W Qs (fun _ => false) U W.drew :=
  ⟨(Below.refl _ _).drew, fun _ _ _ h => by cases h⟩
theorem Upto.at {W : World} {Qs : List (World → Value → Prop)} {L : Nat → Bool} {U : Nat → Value} {w : World} (h : Upto W Qs L U w) (j : Nat) {q : World → Value → Prop} (hq : Qs[j]? = some q) (hL : L j = true) : q w (U j) := h.2 j q hq hL
theorem Upto.next {W : World} {Qs : List (World → Value → Prop)} {L : Nat → Bool} {U : Nat → Value} {w w' : World} (h : Upto W Qs L U w) (hm : AllQ Qs) (i : Nat) {q : World → Value → Prop} (hq : Qs[i]? = some q) (hb : Below w.heap.size w w') {v : Value} (hv : q w' v) : Upto W Qs (more L i) (upd U i v) w' := by
  refine ⟨h.1.trans (hb.mono h.1.size), fun j p hp hL => ?_⟩
  by_cases hj : j = i
  · subst hj
    have e : q = p := Option.some.inj (hq.symm.trans hp)
    subst e
    show q w' (upd U j v j)
    rw [show upd U j v j = v by unfold upd; rw [if_pos rfl]]
    exact hv
  · have hLj : L j = true := by unfold more at hL; rwa [if_neg hj] at hL
    have := hm.get hp _ _ _ (h.2 j p hp hLj) hb
    rwa [show upd U i v j = U j by unfold upd; rw [if_neg hj]]
theorem Upto.same {W : World} {Qs : List (World → Value → Prop)} {L : Nat → Bool} {U : Nat → Value} {w : World} (h : Upto W Qs L U w) (hm : AllQ Qs) (i : Nat) {q : World → Value → Prop} (hq : Qs[i]? = some q) {v : Value} (hv : q w v) : Upto W Qs (more L i) (upd U i v) w :=
  h.next hm i hq (Below.refl _ _) hv
theorem fillA_defers : ∀ (ds : List (Option Tmp)) (us : List Value) (a : Act), (fillA a ds us).defers = a.defers
  | [], _, _ => rfl
  | _ :: _, [], _ => rfl
  | d :: ds, u :: us, a => by
    show (fillA (a.put d u) ds us).defers = _
    rw [fillA_defers ds us]
    cases d <;> rfl
end Go.Proofs.YtfjnplhhgdfepaaGreatDoor

/- The reference's digits: the decimal digits of a number of parts. -/
namespace Go.Proofs.YtfjnplhhgdfepaaGreatDoor
open Go.RowKit
open Go.Lib (decDigits nDigits nDigits_small nDigits_big)

/-- The last k decimal digits of v. -/
def fixD : Nat → Nat → List UInt8
  | 0, _ => []
  | k + 1, v => fixD k (v / 10) ++ [UInt8.ofNat (48 + v % 10)]
theorem fixD_length (k v : Nat) : (fixD k v).length = k := by
  induction k generalizing v with
  | zero => rfl
  | succ k ih => simp [fixD, ih]
theorem fixD_zero (k : Nat) : fixD k 0 = List.replicate k 48 := by
  induction k with
  | zero => rfl
  | succ k ih => rw [fixD, ih, List.replicate_succ']; rfl
theorem fixD_cons (d k v : Nat) (hd : d < 10) (hv : v < 10 ^ k) : UInt8.ofNat (48 + d) :: fixD k v = fixD (k + 1) (d * 10 ^ k + v) := by
  induction k generalizing v with
  | zero =>
    obtain rfl : v = 0 := by simp at hv; omega
    simp [fixD, Nat.mod_eq_of_lt hd]
  | succ k ih =>
    have h10 : v / 10 < 10 ^ k := by rw [Nat.pow_succ] at hv; omega
    have e1 : (d * 10 ^ (k + 1) + v) / 10 = d * 10 ^ k + v / 10 := by
      have : d * 10 ^ (k + 1) = 10 * (d * 10 ^ k) := by rw [Nat.pow_succ]; grind
      omega
    have e2 : (d * 10 ^ (k + 1) + v) % 10 = v % 10 := by
      have : d * 10 ^ (k + 1) = 10 * (d * 10 ^ k) := by rw [Nat.pow_succ]; grind
      omega
    rw [fixD, ← List.cons_append, ih _ h10, show fixD (k + 1 + 1) (d * 10 ^ (k + 1) + v) = fixD (k + 1) ((d * 10 ^ (k + 1) + v) / 10) ++ [UInt8.ofNat (48 + (d * 10 ^ (k + 1) + v) % 10)] from rfl, e1, e2]
theorem fixD_dec (L n : Nat) (h0 : 0 < n) (h : n < 10 ^ L) : fixD L n = List.replicate (L - nDigits n) 48 ++ decDigits n := by
  induction L generalizing n with
  | zero => simp at h; omega
  | succ L ih =>
    by_cases hn : n < 10
    · rw [fixD, nDigits_small hn, decDigits, dif_pos hn, Nat.div_eq_of_lt hn, fixD_zero, Nat.mod_eq_of_lt hn]
      rfl
    · have hq : n / 10 < 10 ^ L := by rw [Nat.pow_succ] at h; omega
      rw [fixD, ih (n / 10) (by omega) hq, nDigits_big hn, decDigits.eq_1 n, dif_neg hn, List.append_assoc, show L + 1 - (nDigits (n / 10) + 1) = L - nDigits (n / 10) by omega]
theorem dec_head (n : Nat) (h : 0 < n) : ∃ c r, decDigits n = c :: r ∧ c ≠ 48 := by
  induction n using Nat.strongRecOn with
  | _ n ih =>
    by_cases hn : n < 10
    · refine ⟨UInt8.ofNat (48 + n), [], by rw [decDigits, dif_pos hn], fun e => ?_⟩
      have := congrArg UInt8.toNat e
      simp at this
      omega
    · obtain ⟨c, r, e, hc⟩ := ih (n / 10) (by omega) (by omega)
      exact ⟨c, r ++ [UInt8.ofNat (48 + n % 10)], by rw [decDigits, dif_neg hn, e]; rfl, hc⟩
theorem pow9 (i : Nat) : (1000000000 : Nat) ^ i = 10 ^ (9 * i) := by rw [Nat.pow_mul]
/-- One digit more. -/
theorem dig_step (V i x k : Nat) (hV : V < 10 ^ (9 * i)) : UInt8.ofNat (48 + x / 10 ^ k % 10) :: fixD (9 * i + k) (V + 10 ^ (9 * i) * (x % 10 ^ k)) = fixD (9 * i + (k + 1)) (V + 10 ^ (9 * i) * (x % 10 ^ (k + 1))) := by
  have h1 : V + 10 ^ (9 * i) * (x % 10 ^ k) < 10 ^ (9 * i + k) := by
    have h2 : x % 10 ^ k < 10 ^ k := Nat.mod_lt _ (Nat.pow_pos (by omega))
    rw [Nat.pow_add]
    calc V + 10 ^ (9 * i) * (x % 10 ^ k) < 10 ^ (9 * i) * 1 + 10 ^ (9 * i) * (x % 10 ^ k) := by omega
      _ = 10 ^ (9 * i) * (1 + x % 10 ^ k) := by rw [Nat.mul_add]
      _ ≤ 10 ^ (9 * i) * 10 ^ k := Nat.mul_le_mul_left _ (by omega)
  rw [fixD_cons _ _ _ (Nat.mod_lt _ (by omega)) h1, Nat.mod_pow_succ, Nat.mul_add, Nat.pow_add, show 9 * i + k + 1 = 9 * i + (k + 1) by omega]
  congr 1
  grind

theorem cat1 (c : UInt8) (l : List UInt8) : Value.string ((⟨#[c]⟩ : ByteArray) ++ ⟨l.toArray⟩) = Value.string ⟨(c :: l).toArray⟩ := by
  rfl
theorem cut1 (c : UInt8) (l : List UInt8) : (⟨(c :: l).toArray⟩ : ByteArray).extract 1 (l.length + 1) = ⟨l.toArray⟩ := by
  apply ByteArray.ext
  simp
theorem one_byte (w : World) (q : Nat) (c : UInt8) (hc : UInt8.ofNat (48 + q % 10) = c) :
    (convert 25 9 (.slice (some ⟨w.heap.size, 0, none⟩) 1 1)).run Tryz.prog (w.alloc (.cells #[.int .u8 (48 + (q : Int) % 10)] 5)) = .ok (.string ⟨#[c]⟩) (w.alloc (.cells #[.int .u8 (48 + (q : Int) % 10)] 5)) := by
  have h := run_convert_bytes_arg (P := Tryz.prog) (w.alloc (.cells #[.int .u8 (48 + (q : Int) % 10)] 5)) 25 5 Tryz.underlying25 Tryz.underlying5 w.heap.size 0 1 1 [48 + (q : Int) % 10] rfl (fun i hi => by
    obtain rfl : i = 0 := by omega
    have hh := heap_new w (.cells #[.int .u8 (48 + (q : Int) % 10)] 5)
    unfold World.cell?
    rw [hh]
    rfl) 9 Tryz.underlying9
  have e : strOfNums [48 + (q : Int) % 10] = ⟨#[c]⟩ := by
    rw [← hc]
    unfold strOfNums
    rw [List.map_cons, List.map_nil, show (48 + (q : Int) % 10).toNat = 48 + q % 10 by omega]
  rw [h, e]
set_option maxRecDepth 100000 in
set_option maxHeartbeats 1000000 in
theorem digits_any (n : Nat) (ao : Option Addr) (len cap : Nat) (w : World) (hs : Sl w ao len cap (parts n)) (hm : len ≤ 1000) :
    Calls Tryz.prog 85 #[.slice ao len cap] w fun e w' => e = .returned (.string ⟨(decDigits n).toArray⟩) ∧ Below w.heap.size w w' := by
  have hl := hs.length
  by_cases h0 : n = 0
  · subst h0
    rw [parts_zero] at hl
    obtain rfl : len = 0 := by simpa using hl.symm
    have hd : decDigits 0 = [48] := by rw [decDigits, dif_pos (by omega)]; rfl
    rw [hd]
    go_enter Tryz.func85, Tryz.ntmps85
    go_wp2
    go_ret
    exact ⟨rfl, Below.refl _ _⟩
  · have hlen : 0 < len := by
      have := parts_nil_iff n
      rcases Nat.eq_zero_or_pos len with h | h
      · rw [h] at hl
        exact absurd (this.1 (List.eq_nil_of_length_eq_zero hl)) h0
      · exact h
    have hne : ((len : Int) == 0) = false := by simp; omega
    obtain ⟨b, o, rfl, hc⟩ := hs.at hlen
    have Hc := Lib.hid hc
    have Hl := Lib.hid hl
    have hbd := hs.len_le
    clear hc hl
    go_enter Tryz.func85, Tryz.ntmps85
    go_wp2
    go_loopw [3, 4] (fun s i wr => ∃ k : Nat, k ≤ len ∧ i = .int .i64 k ∧ s = .string ⟨(fixD (9 * k) (val ((parts n).take k)).toNat).toArray⟩ ∧ Below w.heap.size w wr) (fun _ i _ => len - (intOf i).toNat)
    case atStart => exact ⟨0, Nat.zero_le _, rfl, rfl, Below.refl _ _⟩
    case round =>
      obtain ⟨i, hi, rfl, rfl, hbel⟩ := hrel
      by_cases hlt : i < len
      · have hdg := (parts_dig n).getD i
        have hci := (hbel.cell (p := ⟨b, o + i, none⟩) (cell_lt (Hc.out i hlt))).trans (Hc.out i hlt)
        have hvl : val ((parts n).take i) < 1000000000 ^ i := by
          have := val_lt ((parts_dig n).take i)
          rwa [List.length_take, Nat.min_eq_left (by rw [Hl.out]; omega)] at this
        have hvn := val_nonneg ((parts_dig n).take i)
        have hts := val_take_succ (parts n) i (by rw [Hl.out]; exact hlt)
        obtain ⟨x, hx⟩ : ∃ x : Nat, (parts n).getD i 0 = x := ⟨((parts n).getD i 0).toNat, by omega⟩
        obtain ⟨V, hV⟩ : ∃ V : Nat, val ((parts n).take i) = V := ⟨(val ((parts n).take i)).toNat, by omega⟩
        rw [hx] at hdg hci hts
        rw [hV] at hvl hts ⊢
        have hVl : V < 10 ^ (9 * i) := by rw [← pow9]; exact Int.ofNat_lt.1 (by rw [Int.natCast_pow]; exact hvl)
        have hnext : (val ((parts n).take (i + 1))).toNat = V + 10 ^ (9 * i) * x := by
          rw [hts, ← pow9]
          have : ((1000000000 : Int) ^ i * x) = (((1000000000 : Nat) ^ i * x : Nat) : Int) := by rw [Int.natCast_mul, Int.natCast_pow]; rfl
          rw [this]; omega
        have HV := Lib.hid hVl
        have HN := Lib.hid hnext
        have hx0 : x < 1000000000 := by omega
        clear hV hx hvl hvn hts hVl hnext hdg
        rw [show ((V : Int)).toNat = V by omega]
        generalize hL : fixD (9 * i) V = L
        have HL := Lib.hid hL
        clear hL
        go_wp2
        go_loopw [3, 5, 6] (fun s y k wr => ∃ (k' q : Nat) (l : List UInt8), k' ≤ 9 ∧ k = .int .i64 k' ∧ y = .int .i64 q ∧ q < 1000000000 ∧ s = .string ⟨l.toArray⟩ ∧ Hid (q = x / 10 ^ k' ∧ l = fixD (9 * i + k') (V + 10 ^ (9 * i) * (x % 10 ^ k'))) ∧ Below w.heap.size w wr) (fun _ _ k _ => 9 - (intOf k).toNat)
        case atStart => exact ⟨0, x, L, by omega, rfl, rfl, hx0, rfl, Lib.hid ⟨by rw [Nat.pow_zero, Nat.div_one], by rw [Nat.pow_zero, Nat.mod_one, Nat.mul_zero, Nat.add_zero, Nat.add_zero]; exact HL.out.symm⟩, hbel⟩
        case round =>
          obtain ⟨k, q, l, hk, rfl, rfl, hq, rfl, hh, hb2⟩ := hrel
          by_cases hk9 : k < 9
          · obtain ⟨c, hc⟩ : ∃ c, UInt8.ofNat (48 + q % 10) = c := ⟨_, rfl⟩
            have hcv := one_byte wr q c hc
            have hh2 : Hid (q / 10 = x / 10 ^ (k + 1) ∧ c :: l = fixD (9 * i + (k + 1)) (V + 10 ^ (9 * i) * (x % 10 ^ (k + 1)))) := by
              obtain ⟨e1, e2⟩ := hh.out
              refine Lib.hid ⟨by rw [e1, Nat.pow_succ, Nat.div_div_eq_div_mul], ?_⟩
              rw [← dig_step V i x k HV.out, ← e2, ← e1, hc]
            have hll : ¬ 9223372036854775807 < 1 + l.length := by
              rw [hh.out.2, fixD_length]; omega
            clear hc hh
            go_wp2
            go_roundw
            case rel => exact ⟨k + 1, q / 10, c :: l, by omega, by go_num, by go_num, by omega, cat1 c l, hh2, hb2.alloc hb2.size _⟩
            case measure => simp [intOf]; omega
          · obtain rfl : k = 9 := by omega
            have hfin : Hid (l = fixD (9 * (i + 1)) (val ((parts n).take (i + 1))).toNat) := by
              refine Lib.hid ?_
              rw [hh.out.2, HN.out, Nat.mod_eq_of_lt (show x < 10 ^ 9 by omega)]
              rfl
            clear hh
            go_wp2
            go_roundw
            case rel => exact ⟨i + 1, by omega, by go_num, by rw [← hfin.out], hb2⟩
            case measure => simp [intOf]; omega
      · obtain rfl : i = len := by omega
        have hfin : fixD (9 * i) (val ((parts n).take i)).toNat = List.replicate (9 * i - nDigits n) 48 ++ decDigits n := by
          rw [val_take_all _ _ (by rw [Hl.out]; exact Nat.le_refl _), val_parts, Int.toNat_natCast]
          refine fixD_dec _ _ (by omega) ?_
          rw [← pow9]
          exact (parts_len n i).1 (by rw [Hl.out]; exact Nat.le_refl _)
        rw [hfin]
        obtain ⟨j, hj⟩ : ∃ j, 9 * i - nDigits n = j := ⟨_, rfl⟩
        rw [hj]
        obtain ⟨c0, r0, hd0, hc0⟩ := dec_head n (by omega)
        have hsz0 : (decDigits n).length ≤ 9 * i := by
          have := congrArg List.length hfin
          rw [fixD_length, List.length_append, List.length_replicate] at this
          omega
        have hj9 : j ≤ 9 * i := by omega
        generalize hDD : decDigits n = D at *
        have Hd0 := Lib.hid hd0
        have HDD := Lib.hid hDD
        clear hfin hj hd0 hDD
        have hhead : ∀ j, ∃ c r, List.replicate j 48 ++ D = c :: r := by
          intro j
          cases j with
          | zero => exact ⟨c0, r0, by rw [Hd0.out]; rfl⟩
          | succ j => exact ⟨48, List.replicate j 48 ++ D, rfl⟩
        obtain ⟨c1, r1, h1⟩ := hhead j
        rw [h1]
        have H1 := Lib.hid h1
        have Hh := Lib.hid hhead
        clear h1 hhead
        go_wp2
        go_loopw [3] (fun s wr => ∃ (c : UInt8) (r : List UInt8) (j' : Nat), s = .string ⟨(c :: r).toArray⟩ ∧ j' ≤ j ∧ Hid (List.replicate j' 48 ++ D = c :: r) ∧ Below w.heap.size w wr) (fun s _ => match s with | .string b => b.size | _ => 0)
        case atStart => exact ⟨c1, r1, j, rfl, Nat.le_refl _, H1, hbel⟩
        case round =>
          obtain ⟨c, r, j', rfl, hj', hh, hb3⟩ := hrel
          rcases j' with _ | j'
          · have hcc : c = c0 ∧ c :: r = D := by
              have h := hh.out
              rw [List.replicate_zero, List.nil_append] at h
              exact ⟨by rw [Hd0.out] at h; injection h with h _; exact h.symm, h.symm⟩
            obtain ⟨rfl, hD⟩ := hcc
            have hq1 : ((c.toNat : Int) == 48) = false := by
              simp only [beq_eq_false_iff_ne]
              intro e
              exact hc0 (UInt8.toNat_inj.1 (by have : (48 : UInt8).toNat = 48 := rfl; omega))
            have hq2 : (c == 48) = false := by simpa using hc0
            have HD := Lib.hid hD
            clear hh hD
            rcases r with _ | ⟨c2, r2⟩
            · go_wp2
              go_ret
              exact ⟨by rw [HDD.out, ← HD.out]; rfl, hb3⟩
            · have hq3 : ∀ h : 0 < (⟨(c :: c2 :: r2).toArray⟩ : ByteArray).size, ((((⟨(c :: c2 :: r2).toArray⟩ : ByteArray)[0]'h).toNat : Int) == 48) = false := fun _ => hq1
              go_wp2
              go_ret
              exact ⟨by rw [HDD.out, ← HD.out]; rfl, hb3⟩
          · obtain ⟨c2, r2, h2⟩ := Hh.out j'
            have hcc : c = 48 ∧ r = c2 :: r2 := by
              have h := hh.out
              rw [List.replicate_succ, List.cons_append, h2] at h
              injection h with h h'
              exact ⟨h.symm, h'.symm⟩
            obtain ⟨rfl, rfl⟩ := hcc
            have H2 := Lib.hid h2
            clear h2 hh
            have hx := cut1 48 (c2 :: r2)
            have Hx := Lib.hid hx
            clear hx
            go_wp2
            refine ⟨⟨c2, r2, j', ?_, by omega, H2, hb3⟩, ?_⟩
            · exact congrArg Value.string Hx.out
            · show ((⟨(48 :: c2 :: r2).toArray⟩ : ByteArray).extract 1 (r2.length + 1 + 1)).size < (⟨(48 :: c2 :: r2).toArray⟩ : ByteArray).size
              rw [show (⟨(48 :: c2 :: r2).toArray⟩ : ByteArray).extract 1 (r2.length + 1 + 1) = ⟨(c2 :: r2).toArray⟩ from Hx.out]
              simp [ByteArray.size]
end Go.Proofs.YtfjnplhhgdfepaaGreatDoor

/- FromBytes. -/
namespace Go.Proofs.YtfjnplhhgdfepaaGreatDoor
open Go.RowKit

/-- What FromBytes hands back where it refuses. -/
def RetNo (w : World) (e : Ending) (w' : World) : Prop := e = .returned (.tuple #[.agg #[.bool false, .slice none 0 0], .int .i64 12]) ∧ Below w.heap.size w w'

set_option maxHeartbeats 1000000 in
theorem fb_empty (ao : Option Addr) (cap : Nat) (bs : List Int) (w : World) (hs : Sb w ao 0 cap bs) :
    Calls Tryz.prog 34 #[.slice ao 0 cap] w (RetNo w) := by
  have hl := hs.len_le
  go_enter Tryz.func34, Tryz.ntmps34
  go_wp2
  refine bodyPost_ret (v := .tuple #[.agg #[.bool false, .slice none 0 0], .int .i64 12]) (by simp [results, Tryz.results34, go_sem]) rfl ?_
  exact ⟨rfl, ((Below.refl _ w).alloc (Nat.le_refl _) _)⟩

set_option maxHeartbeats 1000000 in
theorem fb_odd (ao : Option Addr) (len cap : Nat) (bs : List Int) (w : World) (hs : Sb w ao len cap bs) (h0 : 0 < len) (c : Int) (hc : bs.getD 0 0 = c) (hc0 : 0 ≤ c) (hne : (len : Int) ≠ 1 + 4 * (c % 128)) :
    Calls Tryz.prog 34 #[.slice ao len cap] w (RetNo w) := by
  have hl := hs.len_le
  have hA := hs.alloc (.cells #[.bool false, .slice none 0 0] 24)
  obtain ⟨b, o, rfl, hcell⟩ := hA.at h0
  have hb0 := hcell 0 h0
  rw [hc] at hb0
  simp only [Nat.add_zero] at hb0
  have hq0 : ((len : Int) == 0) = false := by simp; omega
  have hm : Int.tmod c 128 = c % 128 := Int.tmod_eq_emod_of_nonneg hc0
  have hm2 : 0 ≤ c % 128 ∧ c % 128 < 128 := by omega
  have hq : ((len : Int) != 1 + 4 * (c % 128)) = true := by simpa using hne
  have hi0 : (0 : Int) < (len : Int) := by omega
  clear hne hcell hs hA
  go_enter Tryz.func34, Tryz.ntmps34
  go_wp2
  go_region
  all_goals go_wp2
  all_goals (refine bodyPost_ret (v := .tuple #[.agg #[.bool false, .slice none 0 0], .int .i64 12]) (by simp [results, Tryz.results34, go_sem]) rfl ?_)
  all_goals exact ⟨rfl, ((Below.refl _ w).alloc (Nat.le_refl _) _).drew⟩

theorem i64_or_nat (a b : Nat) (ha : a < 4611686018427387904) (hb : b < 4611686018427387904) : bits .or .i64 (a : Int) (b : Int) = ((a ||| b : Nat) : Int) := by
  have hx : a ||| b < 2 ^ 62 := Nat.or_lt_two_pow (by omega) (by omega)
  have h1 : (BitVec.ofInt 64 (a : Int)).toNat = a := by
    rw [BitVec.ofInt_natCast, BitVec.toNat_ofNat]; exact Nat.mod_eq_of_lt (by omega)
  have h2 : (BitVec.ofInt 64 (b : Int)).toNat = b := by
    rw [BitVec.ofInt_natCast, BitVec.toNat_ofNat]; exact Nat.mod_eq_of_lt (by omega)
  show IntKind.i64.wrap ((BitVec.ofInt 64 (a : Int) ||| BitVec.ofInt 64 (b : Int)).toNat : Int) = _
  rw [BitVec.toNat_or, h1, h2, IntWalk.i64_in _ (by omega)]
theorem or_high (b a i m : Nat) (hm : m = 2 ^ i) (h : a < m) : (b * m) ||| a = b * m + a := by
  subst hm
  rw [← Nat.shiftLeft_eq, Nat.shiftLeft_add_eq_or_of_lt h]
theorem quad_or (d0 d1 d2 d3 : Int) (y0 : 0 ≤ d0 ∧ d0 ≤ 255) (y1 : 0 ≤ d1 ∧ d1 ≤ 255) (y2 : 0 ≤ d2 ∧ d2 ≤ 255) (y3 : 0 ≤ d3 ∧ d3 ≤ 255) :
    bits .or .i64 (bits .or .i64 (bits .or .i64 (IntKind.i64.wrap (IntKind.i64.wrap d0 * 16777216)) (IntKind.i64.wrap (IntKind.i64.wrap d1 * 65536))) (IntKind.i64.wrap (IntKind.i64.wrap d2 * 256))) (IntKind.i64.wrap d3) = d0 * 16777216 + d1 * 65536 + d2 * 256 + d3 := by
  obtain ⟨n0, rfl⟩ := Int.eq_ofNat_of_zero_le y0.1
  obtain ⟨n1, rfl⟩ := Int.eq_ofNat_of_zero_le y1.1
  obtain ⟨n2, rfl⟩ := Int.eq_ofNat_of_zero_le y2.1
  obtain ⟨n3, rfl⟩ := Int.eq_ofNat_of_zero_le y3.1
  rw [IntWalk.i64_in (n0 : Int) (by omega), IntWalk.i64_in (n1 : Int) (by omega), IntWalk.i64_in (n2 : Int) (by omega), IntWalk.i64_in (n3 : Int) (by omega),
    IntWalk.i64_in ((n0 : Int) * 16777216) (by omega), IntWalk.i64_in ((n1 : Int) * 65536) (by omega), IntWalk.i64_in ((n2 : Int) * 256) (by omega)]
  have e0 : ((n0 : Int) * 16777216) = ((n0 * 16777216 : Nat) : Int) := by omega
  have e1 : ((n1 : Int) * 65536) = ((n1 * 65536 : Nat) : Int) := by omega
  have e2 : ((n2 : Int) * 256) = ((n2 * 256 : Nat) : Int) := by omega
  rw [e0, e1, e2, i64_or_nat _ _ (by omega) (by omega), or_high n0 (n1 * 65536) 24 16777216 (by decide) (by omega), i64_or_nat _ _ (by omega) (by omega),
    show n0 * 16777216 + n1 * 65536 = (n0 * 256 + n1) * 65536 by omega, or_high _ (n2 * 256) 16 65536 (by decide) (by omega), i64_or_nat _ _ (by omega) (by omega),
    show (n0 * 256 + n1) * 65536 + n2 * 256 = ((n0 * 256 + n1) * 256 + n2) * 256 by omega, or_high _ n3 8 256 (by decide) (by omega)]
  omega
theorem cell_other {w : World} {b g i o : Nat} {v : Value} (h : b ≠ g) : (w.setCell ⟨g, i, none⟩ v).cell? ⟨b, o, none⟩ = w.cell? ⟨b, o, none⟩ := World.cell?_of_block (Below.heap_setCell _ _ _ _ h)
theorem cell_block {w : World} {b g i : Nat} {v : Value} (h : b ≠ g) : (w.setCell ⟨g, i, none⟩ v).heap[b]? = w.heap[b]? := Below.heap_setCell _ _ _ _ h
/-- The part that stands at 4 * i + 1 in the bytes. -/
def qv (bs : List Int) (i : Nat) : Int := bs.getD (1 + 4 * i) 0 * 16777216 + bs.getD (1 + 4 * i + 1) 0 * 65536 + bs.getD (1 + 4 * i + 2) 0 * 256 + bs.getD (1 + 4 * i + 3) 0
/-- The parts of the bytes, k of n done. -/
def qparts (bs : List Int) (n k : Nat) : List Int := (List.range n).map fun j => if n - 1 - j < k then qv bs (n - 1 - j) else 0

theorem Sb.other {w : World} {b o len cap g i : Nat} {xs : List Int} {v : Value} (h : Sb w (some ⟨b, o, none⟩) len cap xs) (hne : b ≠ g) : Sb (w.setCell ⟨g, i, none⟩ v).drew (some ⟨b, o, none⟩) len cap xs := by
  obtain ⟨h1, h2, h3, ⟨h4, _⟩ | ⟨b', o', h5, h6⟩⟩ := h
  · cases h4
  · cases h5
    exact ⟨h1, h2, h3, .inr ⟨b, o, rfl, fun j hj => (cell_other (w := w) hne).trans (h6 j hj)⟩⟩
theorem qparts_length (bs : List Int) (n k : Nat) : (qparts bs n k).length = n := by simp [qparts]
theorem qparts_step {bs : List Int} {n n1 k r : Nat} (h1 : n = n1 + 1) (h2 : n1 = k + r) : (qparts bs n k).set r (qv bs k) = qparts bs n (k + 1) := by
  apply List.ext_getElem (by simp [qparts])
  intro j k1 k2
  simp only [qparts, List.length_map, List.length_range] at k2
  simp only [List.getElem_set, qparts, List.getElem_map, List.getElem_range]
  by_cases h : r = j
  · subst h
    rw [if_pos rfl, if_pos (by omega), show n - 1 - r = k by omega]
  · rw [if_neg h]
    by_cases h3 : n - 1 - j < k
    · rw [if_pos h3, if_pos (by omega)]
    · rw [if_neg h3, if_neg (by omega)]
set_option maxRecDepth 100000 in
set_option maxHeartbeats 4000000 in
theorem fb_parts (ao : Option Addr) (len cap : Nat) (bs : List Int) (w : World) (hs : Sb w ao len cap bs) (n : Nat) (hlen : len = 1 + 4 * n) (hn : n < 128) (c : Int) (hc : bs.getD 0 0 = c) (hc0 : 0 ≤ c) (hcn : c % 128 = n) (hby : ∀ j, 0 ≤ bs.getD j 0 ∧ bs.getD j 0 ≤ 255) (ok : Bool) (hok : okInt (decide (128 ≤ c)) (qparts bs n n) = ok) :
    Calls Tryz.prog 34 #[.slice ao len cap] w fun e w' => if ok then RetPE (decide (128 ≤ c)) (qparts bs n n) 0 w e w' else RetNo w e w' := by
  have hl := hs.len_le
  obtain ⟨i0, hi, hz0, hz1, hz2⟩ := info_parts Tryz.info3
  have hA := hs.alloc (.cells #[.bool false, .slice none 0 0] 24)
  obtain ⟨b, o, rfl, hcell⟩ := hA.at (by omega)
  have hb0 := hcell 0 (by omega)
  rw [hc] at hb0
  simp only [Nat.add_zero] at hb0
  have hq0 : ((len : Int) == 0) = false := by simp; omega
  have hm : Int.tmod c 128 = n := by rw [Int.tmod_eq_emod_of_nonneg hc0, hcn]
  have hq : ((len : Int) != 1 + 4 * (n : Int)) = false := by simp; omega
  have hi0_ : (0 : Int) < (len : Int) := by omega
  have Hck := Lib.hid (fun ao len cap w hs => check_any (decide (128 ≤ c)) ao len cap (qparts bs n n) w hs)
  rw [hok] at Hck
  clear hok
  have Hlen := Lib.hid hlen
  have hlen1 : (len : Int) = 1 + 4 * (n : Int) := by omega
  have Hlen1 := Lib.hid hlen1
  clear hcell hs hlen hlen1
  go_enter Tryz.func34, Tryz.ntmps34
  go_wp2
  go_region
  have hw1 := (Below.refl w.heap.size w).alloc (Nat.le_refl _) (.cells #[.bool false, .slice none 0 0] 24)
  have hR := heap_new w (.cells #[.bool false, .slice none 0 0] 24)
  replace hw1 := hw1.drew
  replace hA := hA.below (Below.refl _ _).drew
  have hz : (w.alloc (.cells #[.bool false, .slice none 0 0] 24)).drew.heap.size = w.heap.size + 1 := by simp
  have hR' : (w.alloc (.cells #[.bool false, .slice none 0 0] 24)).drew.heap[w.heap.size]? = some (.cells #[.bool false, .slice none 0 0] 24) := hR
  generalize (w.alloc (.cells #[.bool false, .slice none 0 0] 24)).drew = w1 at *
  clear hR hb0
  go_wp2_with (at_make; refine wpList_make_full _ rfl _ _ 22 rfl w1.heap.size 3 i0 (.int .i64 0) 1 Tryz.underlying22 hi hz0 hz1 _ _ _ _ n rfl rfl ?c1 ?c2 ?c3 ?c4 ?c5 ?_)
  case c1 => omega
  case c2 => omega
  case c3 => rw [hz2]; omega
  case c4 => unfold maxLen; omega
  case c5 => omega
  intro w2 hown hgrow
  have hrow := RowOf.made hown rfl
  have hb2 : Below w1.heap.size w1 w2 := (Below.refl _ _).grown hgrow (Nat.le_refl _) (fun _ h => by cases h)
  have hA2 := hA.below hb2
  have hbw : b < w1.heap.size := by
    obtain ⟨b', o', e, hh⟩ := hA.at (by omega)
    cases e
    exact cell_lt (hh 0 (by omega))
  have hR2 := (hb2.block w.heap.size (by omega)).trans hR'
  have hbb := hw1.trans (hb2.mono (by omega))
  have hgl := hrow.lt
  rw [hz] at hbw
  have hz2' := hb2.size
  clear hown hgrow hR' hA hw1 hb2
  obtain ⟨gb, hgb⟩ : ∃ gb, w2.heap.size = gb := ⟨_, rfl⟩
  have hB0 := heap_new w2 (.cells #[.bool (decide (128 ≤ c)), .slice (some ⟨w.heap.size + 1, 0, none⟩) n n] 24)
  have hbb2 := hbb.alloc (by omega) (.cells #[.bool (decide (128 ≤ c)), .slice (some ⟨w.heap.size + 1, 0, none⟩) n n] 24)
  have hba := (Below.refl w2.heap.size w2).alloc (Nat.le_refl _) (.cells #[.bool (decide (128 ≤ c)), .slice (some ⟨w.heap.size + 1, 0, none⟩) n n] 24)
  have hR3 := (hba.block w.heap.size (by omega)).trans hR2
  have hrow3 := hrow.alloc (.cells #[.bool (decide (128 ≤ c)), .slice (some ⟨w.heap.size + 1, 0, none⟩) n n] 24)
  have hA3 := hA2.alloc (.cells #[.bool (decide (128 ≤ c)), .slice (some ⟨w.heap.size + 1, 0, none⟩) n n] 24)
  rw [hgb] at hB0
  have Hgb := Lib.hid hgb
  have hgb2 : w.heap.size + 1 < gb := by omega
  have Hbb := Lib.hid hbb2
  have Hrow := Lib.hid hrow3
  have HA := Lib.hid hA3
  have HR := Lib.hid hR3
  have HB := Lib.hid hB0
  clear hgb hbb2 hrow3 hA3 hR3 hB0 hba hbb hrow hR2 hgl hz2' hA2 hz
  go_wp2
  rw [Hgb.out]
  obtain ⟨w3, hw3⟩ : ∃ w3, (w2.alloc (.cells #[.bool (decide (128 ≤ c)), .slice (some ⟨w.heap.size + 1, 0, none⟩) n n] 24)) = w3 := ⟨_, rfl⟩
  have hbb := Hbb.out; have hrow := Hrow.out; have hA := HA.out; have hR := HR.out; have hB := HB.out
  rw [hw3] at hbb hrow hA hR hB ⊢
  clear hw3 Hbb Hrow HA HR HB Hgb
  go_loopw [7, 8, 34] (fun _ _ i wr => ∃ k : Nat, k ≤ n ∧ i = .int .i64 k ∧ RowOf wr (w.heap.size + 1) (qparts bs n k) ∧ BoxI wr gb (decide (128 ≤ c)) (some ⟨w.heap.size + 1, 0, none⟩) n n ∧ BoxI wr w.heap.size false none 0 0 ∧ Sb wr (some ⟨b, o, none⟩) len cap bs ∧ Below w.heap.size w wr) (fun _ _ i _ => n - (intOf i).toNat)
  case atStart => exact ⟨0, Nat.zero_le _, rfl, by rw [show qparts bs n 0 = List.replicate n 0 by simp [qparts, List.map_const']]; exact hrow, hB, hR, hA, hbb⟩
  case round =>
    clear hrow hB hR hA hbb
    obtain ⟨k, hk, rfl, hrow, hB, hR, hA, hbb⟩ := hrel
    by_cases hlt : k < n
    · have hlen := Hlen.out
      obtain ⟨m, hm_⟩ : ∃ m : Nat, 1 + 4 * k = m := ⟨_, rfl⟩
      obtain ⟨n1, hn1⟩ : ∃ m : Nat, n = m + 1 := ⟨n - 1, by omega⟩
      obtain ⟨r, hr⟩ : ∃ r : Nat, n1 = k + r := ⟨n1 - k, by omega⟩
      have hmI : (1 + 4 * (k : Int)) = (m : Int) := by omega
      have hs1 : IntKind.i64.wrap ((n : Int) - 1) = (n1 : Int) := by rw [IntWalk.i64_in _ (by omega)]; omega
      have hs2 : IntKind.i64.wrap ((n1 : Int) - (k : Int)) = (r : Int) := by rw [IntWalk.i64_in _ (by omega)]; omega
      have hs3 : (r : Int) < (n : Int) := by omega
      obtain ⟨m1, hm1⟩ : ∃ j : Nat, m + 1 = j := ⟨_, rfl⟩
      obtain ⟨m2, hm2⟩ : ∃ j : Nat, m + 2 = j := ⟨_, rfl⟩
      obtain ⟨m3, hm3⟩ : ∃ j : Nat, m + 3 = j := ⟨_, rfl⟩
      have hw1_ : IntKind.i64.wrap ((m : Int) + 1) = (m1 : Int) := by rw [IntWalk.i64_in _ (by omega)]; omega
      have hw2_ : IntKind.i64.wrap ((m : Int) + 2) = (m2 : Int) := by rw [IntWalk.i64_in _ (by omega)]; omega
      have hw3_ : IntKind.i64.wrap ((m : Int) + 3) = (m3 : Int) := by rw [IntWalk.i64_in _ (by omega)]; omega
      have hb_0 : (m : Int) < (len : Int) := by omega
      have hb_1 : (m1 : Int) < (len : Int) := by omega
      have hb_2 : (m2 : Int) < (len : Int) := by omega
      have hb_3 : (m3 : Int) < (len : Int) := by omega
      obtain ⟨b', o', e_, hcell⟩ := hA.at (by omega)
      cases e_
      have c0 := hcell m (by omega)
      have c1 := hcell m1 (by omega)
      have c2 := hcell m2 (by omega)
      have c3 := hcell m3 (by omega)
      have y0 := hby m; have y1 := hby m1; have y2 := hby m2; have y3 := hby m3
      have HQ := Lib.hid (show qv bs k = bs.getD m 0 * 16777216 + bs.getD m1 0 * 65536 + bs.getD m2 0 * 256 + bs.getD m3 0 by unfold qv; rw [hm_, hm1, hm2, hm3])
      generalize bs.getD m 0 = d0 at *
      generalize bs.getD m1 0 = d1 at *
      generalize bs.getD m2 0 = d2 at *
      generalize bs.getD m3 0 = d3 at *
      have bx := hB.cells
      have hq1 := hB.lt
      have hcz := hrow.cell r (by simp [qparts]; omega)
      have hfz := hrow.frozen r
      have hbne : b ≠ w.heap.size + 1 := by omega
      have hgne : gb ≠ w.heap.size + 1 := by omega
      have Hn1 := Lib.hid hn1; have Hr := Lib.hid hr; have Hm := Lib.hid hm_
      clear hcell hlen hn1 hr hm_ hm1 hm2 hm3
      go_wp2
      go_region_held3 (fun w' => w'.cell? ⟨b, o + m, none⟩ = some (.int .u8 d0) ∧ w'.cell? ⟨b, o + m1, none⟩ = some (.int .u8 d1) ∧ w'.cell? ⟨b, o + m2, none⟩ = some (.int .u8 d2) ∧ w'.cell? ⟨b, o + m3, none⟩ = some (.int .u8 d3) ∧ w'.cell? ⟨gb, 1, none⟩ = some (.slice (some ⟨w.heap.size + 1, 0, none⟩) n n)) (first | with_reducible exact ⟨c0, c1, c2, c3, bx.2⟩ | exact ⟨(cell_other (w := wr) hbne).trans c0, (cell_other (w := wr) hbne).trans c1, (cell_other (w := wr) hbne).trans c2, (cell_other (w := wr) hbne).trans c3, (cell_other (w := wr) hgne).trans bx.2⟩ | exact ⟨c0, c1, c2, c3, bx.2⟩) (fail)
      have QO := Lib.hid (quad_or d0 d1 d2 d3 y0 y1 y2 y3)
      rw [QO.out, ← HQ.out]
      go_wp2
      go_roundw
      case rel => exact ⟨k + 1, hlt, by go_num, by rw [← qparts_step Hn1.out Hr.out]; exact (hrow.set _ _).drew, (cell_block hgne).trans hB, (cell_block (by omega)).trans hR, hA.other hbne, (hbb.setCell (by simp) _).drew⟩
      case measure => simp [intOf]; omega
    · obtain rfl : k = n := by omega
      have bx0 := hB.cells.1; have bx1 := hB.cells.2; have hq1 := hB.lt; have hq2 := hR.lt
      have hsl := hrow.sl k (qparts_length _ _ _) (by omega)
      have f1 := hR.froz.1; have f2 := hR.froz.2
      go_wp2_with fail
      refine (Hck.out _ _ _ _ hsl).mono ?_
      rintro e w4 ⟨rfl, b4⟩
      have hB4 := hB.below b4; have hR4 := hR.below b4; have hs4 := hsl.below b4; have hbb4 := hbb.trans (b4.mono hbb.size)
      clear hB hR hsl hbb hrow hA b4 bx0 bx1 hq1 hq2 f1 f2
      have bx0 := hB4.cells.1; have bx1 := hB4.cells.2; have hq1 := hB4.lt; have hq2 := hR4.lt
      have r0 := hR4.cells.1; have r1 := hR4.cells.2; have f1 := hR4.froz.1; have f2 := hR4.froz.2
      cases ok
      · have q_ : errOf false = 10 := rfl
        rw [q_]
        go_wp2
        refine bodyPost_ret (v := .tuple #[.agg #[.bool false, .slice none 0 0], .int .i64 12]) (by simp [results, Tryz.results34, go_sem, r0, r1]) rfl ?_
        exact ⟨rfl, (hbb4.setCell (Nat.le_refl _) _).setCell (Nat.le_refl _) _⟩
      · have q_ : errOf true = 0 := rfl
        rw [q_]
        go_wp2
        refine bodyPost_ret (v := .tuple #[.agg #[.bool (decide (128 ≤ c)), .slice (some ⟨w.heap.size + 1, 0, none⟩) k k], .int .i64 0]) (by simp [results, Tryz.results34, go_sem, r0, r1]) rfl ?_
        exact ⟨_, k, k, rfl, hs4.store2 r0 r1 _ _, (hbb4.setCell (Nat.le_refl _) _).setCell (Nat.le_refl _) _⟩
end Go.Proofs.YtfjnplhhgdfepaaGreatDoor

/- Texts and bytes of integers, read back: mathematics. -/
namespace Go.Proofs.YtfjnplhhgdfepaaGreatDoor
open Go.RowKit
open Go.Lib (decDigits nDigits nDigits_small nDigits_big itoa)

theorem dec_step (n : Nat) (h : ¬ n < 10) : decDigits n = decDigits (n / 10) ++ [UInt8.ofNat (48 + n % 10)] := by rw [decDigits, dif_neg h]
theorem dec_one (n : Nat) (h : n < 10) : decDigits n = [UInt8.ofNat (48 + n)] := by rw [decDigits, dif_pos h]
theorem digit_nat (x : Nat) (h : x < 10) : (UInt8.ofNat (48 + x)).toNat = 48 + x := by simp; omega
theorem dig_digit (x : Nat) (h : x < 10) : dig (UInt8.ofNat (48 + x)) = true := by
  unfold dig; rw [digit_nat x h]; simp; omega
theorem dec_reads (n : Nat) : dval (decDigits n) = n ∧ (decDigits n).all dig = true := by
  induction n using Nat.strongRecOn with
  | _ n ih =>
    by_cases hn : n < 10
    · rw [dec_one n hn]
      refine ⟨?_, by rw [List.all_cons, dig_digit n hn]; rfl⟩
      show 0 * 10 + ((UInt8.ofNat (48 + n)).toNat - 48) = n
      rw [digit_nat n hn]; omega
    · obtain ⟨h1, h2⟩ := ih (n / 10) (by omega)
      have hm : n % 10 < 10 := Nat.mod_lt _ (by omega)
      rw [dec_step n hn]
      refine ⟨?_, by rw [List.all_append, h2, List.all_cons, dig_digit _ hm]; rfl⟩
      rw [dval_snoc, h1, digit_nat _ hm]; omega
/-- Digits without a zero in front are those of their number. -/
theorem dec_unique : ∀ (l : List UInt8), l ≠ [] → l.all dig = true → (l.head? ≠ some 48 ∨ l = [48]) → decDigits (dval l) = l := by
  intro l
  induction hl : l.length using Nat.strongRecOn generalizing l with
  | _ k ih =>
    intro hne hd hh
    rcases List.eq_nil_or_concat l with rfl | ⟨l', c, rfl⟩
    · exact absurd rfl hne
    · simp only [List.concat_eq_append] at *
      rw [List.all_append] at hd
      simp only [Bool.and_eq_true, List.all_cons, List.all_nil, and_true] at hd
      have hc : 48 ≤ c.toNat ∧ c.toNat ≤ 57 := by have := hd.2; unfold dig at this; simpa using this
      have ec : UInt8.ofNat (48 + (c.toNat - 48)) = c := by
        rw [show 48 + (c.toNat - 48) = c.toNat by omega]; exact UInt8.ofNat_toNat
      rw [dval_snoc]
      by_cases h0 : l' = []
      · subst h0
        rw [show dval [] = 0 from rfl, Nat.zero_mul, Nat.zero_add, dec_one _ (by omega), ec]; rfl
      · have hh' : l'.head? ≠ some 48 := by
          rcases hh with h | h
          · cases l' with
            | nil => exact absurd rfl h0
            | cons a r => simpa using h
          · have := congrArg List.length h
            simp at this
            exact absurd this h0
        have e1 := ih l'.length (by rw [← hl]; simp) l' rfl h0 hd.1 (.inl hh')
        have hpos : 0 < dval l' := by
          rcases Nat.eq_zero_or_pos (dval l') with h | h
          · rw [h, dec_one 0 (by omega)] at e1
            rw [← e1] at hh'
            exact absurd rfl hh'
          · exact h
        rw [dec_step _ (by omega), show (dval l' * 10 + (c.toNat - 48)) / 10 = dval l' by omega, show (dval l' * 10 + (c.toNat - 48)) % 10 = c.toNat - 48 by omega, e1, ec]
theorem dec_ne_dash (n : Nat) : (decDigits n).head? ≠ some 45 := by
  intro h
  have h2 := (dec_reads n).2
  cases hl : decDigits n with
  | nil => rw [hl] at h; cases h
  | cons c r =>
    rw [hl] at h h2
    simp at h
    subst h
    simp [dig] at h2
theorem dec_fits {n : Nat} (h : n < 1000000000 ^ 40) : (decDigits n).length ≤ 360 := by
  rw [Go.Lib.decDigits_length]
  exact nDigits_le n 360 (by omega) (by rw [pow9 40, show 9 * 40 = 360 from rfl] at h; exact h)

theorem txt_num (z : Int) : txt z = (if z < 0 then [45] else []) ++ decDigits z.natAbs := by
  unfold txt itoa
  by_cases h : z < 0
  · simp [h]
  · simp [h]; congr 1; omega
theorem size_of (l : List UInt8) : (⟨l.toArray⟩ : ByteArray).size = l.length := by simp [ByteArray.size]
theorem bys_of (l : List UInt8) : bys ⟨l.toArray⟩ = l := by simp [bys]
theorem neg_of (l : List UInt8) : neg? ⟨l.toArray⟩ = decide (l.head? = some 45) := by
  unfold neg?
  rw [Go.Lib.toList_data, size_of]
  cases l with
  | nil => simp
  | cons c r => by_cases hc : c = 45 <;> simp [hc]
theorem mag_of (l : List UInt8) : mag ⟨l.toArray⟩ = ⟨(if l.head? = some 45 then l.drop 1 else l).toArray⟩ := by
  unfold mag
  rw [neg_of]
  by_cases h : l.head? = some 45
  · simp only [h, decide_true, if_true]
    apply ByteArray.ext
    simp [ByteArray.data_extract, size_of]
    exact List.take_of_length_le (by simp)
  · simp [h]
theorem text_reads {z : Int} (hl : Lim z) : readErr ⟨(txt z).toArray⟩ = 0 ∧ readVal ⟨(txt z).toArray⟩ = z := by
  have hn := (lim_iff z).1 hl
  obtain ⟨h1, h2⟩ := dec_reads z.natAbs
  have h3 := dec_fits hn
  have h4 := decDigits_ne z.natAbs
  have hmag : mag ⟨(txt z).toArray⟩ = ⟨(decDigits z.natAbs).toArray⟩ := by
    rw [mag_of, txt_num]
    by_cases h : z < 0
    · simp [h]
    · simp [h, dec_ne_dash]
  have hneg : neg? ⟨(txt z).toArray⟩ = decide (z < 0) := by
    rw [neg_of, txt_num]
    by_cases h : z < 0
    · simp [h]
    · simp [h, dec_ne_dash]
  have herr : readErr ⟨(txt z).toArray⟩ = 0 := by
    unfold readErr
    rw [hmag, size_of, if_neg (by omega)]
    simp only [bys_of]
    rw [h2]
    have h5 : (decDigits z.natAbs).length ≠ 0 := fun h => h4 (List.length_eq_zero_iff.1 h)
    simp only [h5, decide_false, Bool.not_true, Bool.or_false, if_false, Bool.false_eq_true]
    rw [if_neg]
    intro h
    simp only [Bool.and_eq_true, Bool.not_eq_true', beq_iff_eq, beq_eq_false_iff_ne] at h
    rw [Go.Lib.toList_data] at h
    by_cases hz : z = 0
    · subst hz
      exact h.2 (by simp [txt_zero])
    · obtain ⟨c, r, e, hc⟩ := dec_head z.natAbs (by omega)
      rw [e] at h
      exact hc (by simpa using h.1)
  refine ⟨herr, ?_⟩
  unfold readVal
  rw [if_pos herr, hmag, hneg, bys_of, h1]
  unfold num
  by_cases h : z < 0
  · simp [h]; omega
  · simp [h]; omega
theorem reads_text {s : ByteArray} (h : readErr s = 0) : txt (readVal s) = bys s := by
  obtain ⟨l, rfl⟩ : ∃ l : List UInt8, s = ⟨l.toArray⟩ := ⟨s.data.toList, by simp⟩
  have hv : readVal ⟨l.toArray⟩ = num (neg? ⟨l.toArray⟩) (dval (bys (mag ⟨l.toArray⟩))) := by unfold readVal; rw [if_pos h]
  rw [hv, neg_of, mag_of]
  simp only [bys_of]
  unfold readErr at h
  rw [mag_of, size_of, Go.Lib.toList_data] at h
  simp only [bys_of] at h
  generalize hd : (if l.head? = some 45 then l.drop 1 else l) = d at *
  by_cases h1 : 360 < d.length
  · rw [if_pos h1] at h
    split at h <;> cases h
  · rw [if_neg h1] at h
    by_cases h2 : (decide (d.length = 0) || !d.all dig) = true
    · rw [if_pos h2] at h; cases h
    · rw [if_neg h2] at h
      simp only [Bool.or_eq_true, decide_eq_true_eq, Bool.not_eq_true', not_or, Bool.not_eq_false] at h2
      have hne : d ≠ [] := fun e => h2.1 (by rw [e]; rfl)
      by_cases h3 : (d.getD 0 0 == 48 && !((⟨l.toArray⟩ : ByteArray).data.toList == [48])) = true
      · rw [if_pos h3] at h; cases h
      · simp only [Bool.and_eq_true, beq_iff_eq, Bool.not_eq_true', beq_eq_false_iff_ne, not_and, Decidable.not_not] at h3
        have hhead : d.head? = some 48 → l = [48] := by
          intro e
          have : d.getD 0 0 = 48 := by
            cases d with
            | nil => cases e
            | cons c r => simp at e; simp [e]
          simpa using h3 this
        by_cases hneg : l.head? = some 45
        · rw [if_pos hneg] at hd
          have hnl : l ≠ [48] := fun e => by rw [e] at hneg; simp at hneg
          have hu := dec_unique d hne h2.2 (.inl fun e => hnl (hhead e))
          have hpos : 0 < dval d := by
            rcases Nat.eq_zero_or_pos (dval d) with e | e
            · rw [e, dec_one 0 (by omega)] at hu
              exact absurd (hhead (by rw [← hu]; rfl)) hnl
            · exact e
          have hn : num (decide (l.head? = some 45)) (dval d) = -((dval d : Nat) : Int) := by simp [num, hneg]
          rw [hn, txt_num, if_pos (by omega), Int.natAbs_neg, Int.natAbs_natCast, hu, ← hd]
          cases l with
          | nil => cases hneg
          | cons c r => simp at hneg; simp [hneg]
        · rw [if_neg hneg] at hd
          subst hd
          have hu := dec_unique l hne h2.2 (by
            by_cases e : l.head? = some 48
            · exact .inr (hhead e)
            · exact .inl e)
          have hn : num (decide (l.head? = some 45)) (dval l) = ((dval l : Nat) : Int) := by simp [num, hneg]
          rw [hn, txt_num, if_neg (by omega), Int.natAbs_natCast, hu]; rfl

/-! Bytes. -/
theorem quad_bd {x : Int} (h0 : 0 ≤ x) (h1 : x < 4294967296) : ∀ y ∈ quad x, 0 ≤ y ∧ y ≤ 255 := by
  intro y hy
  unfold quad at hy
  simp only [List.mem_cons, List.not_mem_nil, or_false] at hy
  rcases hy with rfl | rfl | rfl | rfl <;> omega
theorem quad_sum (x : Int) : x / 16777216 * 16777216 + x / 65536 % 256 * 65536 + x / 256 % 256 * 256 + x % 256 = x := by omega
theorem quad_back {a b c d : Int} (hb : 0 ≤ b ∧ b ≤ 255) (hc : 0 ≤ c ∧ c ≤ 255) (hd : 0 ≤ d ∧ d ≤ 255) : quad (a * 16777216 + b * 65536 + c * 256 + d) = [a, b, c, d] := by
  unfold quad
  have e1 : (a * 16777216 + b * 65536 + c * 256 + d) / 16777216 = a := by omega
  have e2 : (a * 16777216 + b * 65536 + c * 256 + d) / 65536 % 256 = b := by omega
  have e3 : (a * 16777216 + b * 65536 + c * 256 + d) / 256 % 256 = c := by omega
  have e4 : (a * 16777216 + b * 65536 + c * 256 + d) % 256 = d := by omega
  rw [e1, e2, e3, e4]
theorem flat_get (L : List Int) (i : Nat) (hi : i < L.length) : ((L.flatMap quad).getD (4 * i) 0 = L.getD i 0 / 16777216 ∧ (L.flatMap quad).getD (4 * i + 1) 0 = L.getD i 0 / 65536 % 256 ∧ (L.flatMap quad).getD (4 * i + 2) 0 = L.getD i 0 / 256 % 256 ∧ (L.flatMap quad).getD (4 * i + 3) 0 = L.getD i 0 % 256) := by
  induction L generalizing i with
  | nil => simp at hi
  | cons x L ih =>
    cases i with
    | zero => simp [quad]
    | succ i =>
      have h := ih i (by simpa using hi)
      have e : ∀ k, ((x :: L).flatMap quad).getD (4 * (i + 1) + k) 0 = (L.flatMap quad).getD (4 * i + k) 0 := by
        intro k
        rw [List.flatMap_cons, show 4 * (i + 1) + k = (4 * i + k) + 4 by omega]
        simp [quad]
      have e0 := e 0
      simp only [Nat.add_zero] at e0
      rw [e0, e 1, e 2, e 3]
      simpa using h
theorem flat_length (L : List Int) : (L.flatMap quad).length = 4 * L.length := by
  induction L with
  | nil => rfl
  | cons x L ih => rw [List.flatMap_cons, List.length_append, ih]; simp [quad]; omega
theorem bytesOf_length (z : Int) : (bytesOf z).length = 1 + 4 * (parts z.natAbs).length := by
  unfold bytesOf; rw [List.length_cons, flat_length, List.length_reverse]; omega
theorem dig_lt {n : Nat} : ∀ x ∈ parts n, 0 ≤ x ∧ x < 1000000000 := fun x hx => parts_dig n x hx
theorem bytesOf_bd {z : Int} (hl : Lim z) : ∀ j, 0 ≤ (bytesOf z).getD j 0 ∧ (bytesOf z).getD j 0 ≤ 255 := by
  have hlen : (parts z.natAbs).length ≤ 40 := hl
  have h : ∀ y ∈ bytesOf z, 0 ≤ y ∧ y ≤ 255 := by
    intro y hy
    unfold bytesOf at hy
    rcases List.mem_cons.1 hy with rfl | hy
    · split <;> omega
    · obtain ⟨x, hx, hq⟩ := List.mem_flatMap.1 hy
      have := dig_lt x (List.mem_reverse.1 hx)
      exact quad_bd (by omega) (by omega) y hq
  intro j
  by_cases hj : j < (bytesOf z).length
  · rw [getD_of_lt _ _ hj]; exact h _ (List.getElem_mem hj)
  · rw [List.getD_eq_getElem?_getD, List.getElem?_eq_none (by omega)]; simp
/-- The bytes of an integer, as FromBytes takes them apart. -/
theorem bytesOf_parts {z : Int} (hl : Lim z) : (bytesOf z).getD 0 0 % 128 = (parts z.natAbs).length ∧ decide (128 ≤ (bytesOf z).getD 0 0) = decide (z < 0) ∧ qparts (bytesOf z) (parts z.natAbs).length (parts z.natAbs).length = parts z.natAbs := by
  have hlen : (parts z.natAbs).length ≤ 40 := hl
  have h0 : (bytesOf z).getD 0 0 = ((parts z.natAbs).length : Int) + if z < 0 then 128 else 0 := rfl
  refine ⟨by rw [h0]; split <;> omega, by rw [h0]; by_cases h : z < 0 <;> simp [h] <;> omega, ?_⟩
  apply List.ext_getElem (by simp [qparts])
  intro j h1 h2
  simp only [qparts, List.getElem_map, List.getElem_range]
  rw [if_pos (by omega)]
  have hr : (parts z.natAbs).length - 1 - j < (parts z.natAbs).reverse.length := by rw [List.length_reverse]; omega
  obtain ⟨q0, q1, q2, q3⟩ := flat_get (parts z.natAbs).reverse ((parts z.natAbs).length - 1 - j) hr
  have e : ∀ k, (bytesOf z).getD (1 + 4 * ((parts z.natAbs).length - 1 - j) + k) 0 = ((parts z.natAbs).reverse.flatMap quad).getD (4 * ((parts z.natAbs).length - 1 - j) + k) 0 := by
    intro k
    unfold bytesOf
    rw [show 1 + 4 * ((parts z.natAbs).length - 1 - j) + k = (4 * ((parts z.natAbs).length - 1 - j) + k) + 1 by omega, List.getD_cons_succ]
  have e0 := e 0
  simp only [Nat.add_zero] at e0
  have hx : (parts z.natAbs).reverse.getD ((parts z.natAbs).length - 1 - j) 0 = (parts z.natAbs)[j] := by
    rw [getD_of_lt _ _ hr, List.getElem_reverse]
    congr 1; omega
  unfold qv
  rw [e0, e 1, e 2, e 3, q0, q1, q2, q3, hx]
  exact quad_sum _
theorem range_flat (g : Nat → Int) (n : Nat) : (List.range n).flatMap (fun i => [g (4 * i), g (4 * i + 1), g (4 * i + 2), g (4 * i + 3)]) = (List.range (4 * n)).map g := by
  induction n with
  | zero => rfl
  | succ n ih =>
    rw [List.range_succ, List.flatMap_append, ih, show 4 * (n + 1) = 4 * n + 1 + 1 + 1 + 1 by omega]
    simp [List.range_succ, List.append_assoc]
/-- What FromBytes has taken apart is put together as it was. -/
theorem parts_bytes {z c : Int} {n : Nat} {bs : List Int} (hlen : bs.length = 1 + 4 * n) (hc : bs.getD 0 0 = c) (hc0 : 0 ≤ c) (hcn : c % 128 = n) (hby : ∀ j, 0 ≤ bs.getD j 0 ∧ bs.getD j 0 ≤ 255) (hz : decide (128 ≤ c) = decide (z < 0)) (hp : qparts bs n n = parts z.natAbs) : bytesOf z = bs := by
  have hc1 : c ≤ 255 := by rw [← hc]; exact (hby 0).2
  have hl : (parts z.natAbs).length = n := by rw [← hp, qparts_length]
  have hrev : (parts z.natAbs).reverse = (List.range n).map (qv bs) := by
    rw [← hp]
    apply List.ext_getElem (by simp [qparts])
    intro j h1 h2
    simp only [List.length_map, List.length_range] at h2
    rw [List.getElem_reverse]
    simp only [qparts, List.getElem_map, List.getElem_range, List.length_map, List.length_range]
    rw [if_pos (by omega), show n - 1 - (n - 1 - j) = j by omega]
  have hq : ∀ i, quad (qv bs i) = [bs.getD (1 + 4 * i) 0, bs.getD (1 + (4 * i + 1)) 0, bs.getD (1 + (4 * i + 2)) 0, bs.getD (1 + (4 * i + 3)) 0] := by
    intro i
    unfold qv
    rw [quad_back (hby _) (hby _) (hby _)]
    rfl
  unfold bytesOf
  rw [hl, hrev, List.flatMap_map, show (fun i => quad (qv bs i)) = fun i => [(fun k => bs.getD (1 + k) 0) (4 * i), (fun k => bs.getD (1 + k) 0) (4 * i + 1), (fun k => bs.getD (1 + k) 0) (4 * i + 2), (fun k => bs.getD (1 + k) 0) (4 * i + 3)] from funext hq, range_flat (fun k => bs.getD (1 + k) 0) n]
  have hhead : ((n : Int) + if z < 0 then 128 else 0) = c := by
    have := decide_eq_decide.1 hz
    split <;> omega
  rw [hhead]
  apply List.ext_getElem (by simp [hlen]; omega)
  intro j h1 h2
  cases j with
  | zero => rw [List.getElem_cons_zero, ← hc, getD_of_lt _ _ h2]
  | succ j =>
    rw [List.getElem_cons_succ, List.getElem_map, List.getElem_range, getD_of_lt _ _ (by omega)]
    congr 1; omega
end Go.Proofs.YtfjnplhhgdfepaaGreatDoor

/- Contracts at named numbers for NumBack: Text, FromBytes of any bytes. -/
namespace Go.Proofs.YtfjnplhhgdfepaaGreatDoor
open Go.RowKit

theorem textQ {z : Int} {n : Bool} {xs : List Int} (hz : Num z n xs) {t : ByteArray} (he : ⟨(txt z).toArray⟩ = t) (ao : Option Addr) (len cap : Nat) (w : World) (hs : Sl w ao len cap xs) (ht : Tab w) :
    Calls Tryz.prog 25 #[.agg #[.bool n, .slice ao len cap]] w fun e w' => e = .returned (.tuple #[.string t, .int .i64 0]) ∧ Below w.heap.size w w' := by
  subst he
  by_cases h0 : z = 0
  · subst h0
    obtain ⟨_, rfl, rfl⟩ := hz
    exact Text_zero ao len cap w hs
  · exact textP hz h0 rfl ao len cap w hs ht
/-- FromBytes refuses the bytes, or they are those of an integer, which it hands back. -/
theorem fromB_any {len : Nat} {bs : List Int} (hl : bs.length = len) (hby : ∀ j, 0 ≤ bs.getD j 0 ∧ bs.getD j 0 ≤ 255) :
    (∀ ao cap w, Sb w ao len cap bs → Calls Tryz.prog 34 #[.slice ao len cap] w (RetNo w)) ∨
    ∃ z n xs, Num z n xs ∧ bytesOf z = bs ∧ ∀ ao cap w, Sb w ao len cap bs → Calls Tryz.prog 34 #[.slice ao len cap] w (RetPE n xs 0 w) := by
  by_cases h0 : len = 0
  · subst h0
    exact .inl fun ao cap w hs => fb_empty ao cap bs w hs
  · have hc0 := (hby 0).1
    by_cases hne : (len : Int) = 1 + 4 * (bs.getD 0 0 % 128)
    · obtain ⟨n, hn⟩ : ∃ n : Nat, bs.getD 0 0 % 128 = n := ⟨(bs.getD 0 0 % 128).toNat, by omega⟩
      have hlen : len = 1 + 4 * n := by omega
      have hn2 : n < 128 := by omega
      cases hok : okInt (decide (128 ≤ bs.getD 0 0)) (qparts bs n n) with
      | false =>
        refine .inl fun ao cap w hs => (fb_parts ao len cap bs w hs n hlen hn2 _ rfl hc0 hn hby false hok).mono fun _ _ h => ?_
        simpa using h
      | true =>
        obtain ⟨z, h1, h2, h3⟩ := (okInt_iff _ _).1 hok
        refine .inr ⟨z, _, _, ⟨h1, h2, h3⟩, parts_bytes (hl.trans hlen) rfl hc0 hn hby h2 h3, fun ao cap w hs => (fb_parts ao len cap bs w hs n hlen hn2 _ rfl hc0 hn hby true hok).mono fun _ _ h => ?_⟩
        simpa using h
    · exact .inl fun ao cap w hs => fb_odd ao len cap bs w hs (by omega) _ rfl hc0 hne
/-- FromBytes of the bytes of an integer. -/
theorem fromB_of {z : Int} {n : Bool} {xs : List Int} (hz : Num z n xs) (ao : Option Addr) (len cap : Nat) (w : World) (hs : Sb w ao len cap (bytesOf z)) :
    Calls Tryz.prog 34 #[.slice ao len cap] w (RetPE n xs 0 w) := by
  obtain ⟨h1, rfl, rfl⟩ := hz
  obtain ⟨k1, k2, k3⟩ := bytesOf_parts h1
  have hlen := (hs.length).symm.trans (bytesOf_length z)
  have h40 : (parts z.natAbs).length ≤ 40 := h1
  have hok : okInt (decide (128 ≤ (bytesOf z).getD 0 0)) (qparts (bytesOf z) (parts z.natAbs).length (parts z.natAbs).length) = true := by
    rw [k2, k3]; exact (okInt_iff _ _).2 ⟨z, h1, rfl, rfl⟩
  refine (fb_parts ao len cap (bytesOf z) w hs _ hlen (by omega) _ rfl (bytesOf_bd h1 0).1 k1 (bytesOf_bd h1) true hok).mono fun _ _ h => ?_
  rw [k2, k3] at h
  simpa using h
theorem read_lim (s : ByteArray) : Lim (readVal s) := by
  unfold readVal
  by_cases h : readErr s = 0
  · rw [if_pos h]
    have key : (mag s).size ≤ 360 ∧ (bys (mag s)).all dig = true := by
      unfold readErr at h
      by_cases h1 : 360 < (mag s).size
      · rw [if_pos h1] at h
        split at h <;> cases h
      · rw [if_neg h1] at h
        refine ⟨by omega, ?_⟩
        cases hd : (bys (mag s)).all dig with
        | true => rfl
        | false => rw [hd] at h; simp at h
    have h3 := dval_lt _ key.2
    rw [bys_length] at h3
    have h4 : dval (bys (mag s)) < 1000000000 ^ 40 := by
      have h5 := Nat.lt_of_lt_of_le h3 (Nat.pow_le_pow_right (n := 10) (by omega) (show (mag s).size ≤ 9 * 40 from key.1))
      rwa [← pow9 40] at h5
    rw [lim_iff]
    unfold num
    split <;> simp <;> exact h4
  · rw [if_neg h]; exact Lim.zero
theorem txt_size {z : Int} (hl : Lim z) : (⟨(txt z).toArray⟩ : ByteArray).size ≤ 9223372036854775807 := by
  have h := dec_fits ((lim_iff z).1 hl)
  rw [size_of, txt_num, List.length_append]
  split <;> simp <;> omega
theorem equalSelf (ax : Option Addr) (la ca : Nat) (ay : Option Addr) (lb cb : Nat) (bs : List Int) (w : World) (hx : Sb w ax la ca bs) (hy : Sb w ay lb cb bs) :
    Calls Tryz.prog 33 #[.slice ax la ca, .slice ay lb cb] w (RetBool true w) := by
  have := equalB_any ax la ca bs ay lb cb bs w hx hy
  rwa [show decide (bs = bs) = true by simp] at this
end Go.Proofs.YtfjnplhhgdfepaaGreatDoor

/- The number of parts read from the top. -/
namespace Go.Proofs.YtfjnplhhgdfepaaGreatDoor
open Go.RowKit

/-- The number of a list of parts, the most significant one first. -/
def hi (xs : List Int) : Int := xs.foldl (fun s x => s * 1000000000 + x) 0
theorem hi_nil : hi [] = 0 := rfl
theorem hi_snoc (xs : List Int) (x : Int) : hi (xs ++ [x]) = hi xs * 1000000000 + x := by simp [hi]
theorem hi_rev (xs : List Int) : hi xs.reverse = val xs := by
  induction xs with
  | nil => rfl
  | cons x xs ih => rw [List.reverse_cons, hi_snoc, ih]; show _ = x + 1000000000 * val xs; omega
theorem hi_step (ys : List Int) (hy : ∀ y ∈ ys, 0 ≤ y) (s : Int) (hs : 0 ≤ s) : s ≤ ys.foldl (fun s x => s * 1000000000 + x) s := by
  induction ys generalizing s with
  | nil => exact Int.le_refl _
  | cons y ys ih =>
    have h0 := hy y List.mem_cons_self
    have := ih (fun z hz => hy z (List.mem_cons_of_mem _ hz)) (s * 1000000000 + y) (by omega)
    simp only [List.foldl_cons]
    omega
theorem hi_nonneg (xs : List Int) (hx : ∀ x ∈ xs, 0 ≤ x) : 0 ≤ hi xs := hi_step xs hx 0 (Int.le_refl _)
theorem hi_prefix (xs ys : List Int) (hp : xs <+: ys) (hy : ∀ y ∈ ys, 0 ≤ y) : hi xs ≤ hi ys := by
  obtain ⟨zs, rfl⟩ := hp
  have h0 := hi_nonneg xs (fun x hx => hy x (List.mem_append_left _ hx))
  have := hi_step zs (fun z hz => hy z (List.mem_append_right _ hz)) (hi xs) h0
  unfold hi at *
  rw [List.foldl_append]
  exact this
theorem hi_parts (zs : List Part) : hi (zs.reverse.map (·.1)) = val (zs.map (·.1)) := by
  rw [List.map_reverse, hi_rev]
theorem hi_part (zs pre : List Part) (x : Part) (h : pre ++ [x] <+: zs.reverse) : 0 ≤ hi (pre.map (·.1)) ∧ hi (pre.map (·.1)) * 1000000000 + x.1 ≤ val (zs.map (·.1)) := by
  have hp : ∀ ws : List Part, ∀ y ∈ ws.map (·.1), 0 ≤ y := by
    intro ws y hy
    obtain ⟨p, _, rfl⟩ := List.mem_map.1 hy
    exact p.2.1
  refine ⟨hi_nonneg _ (hp _), ?_⟩
  rw [← hi_parts, ← hi_snoc]
  have := hi_prefix ((pre ++ [x]).map (·.1)) (zs.reverse.map (·.1)) (h.map _) (hp _)
  simpa using this
end Go.Proofs.YtfjnplhhgdfepaaGreatDoor

/- ToInt, where the number fits. -/
namespace Go.Proofs.YtfjnplhhgdfepaaGreatDoor
open Go.RowKit Go.Shelf Go.Lib
attribute [local go_sem] Oper.semAt_some

/-- What the loop of ToInt knows of its memory: block b holds the greatest size, block b + 1 the number so far, block b + 2 the iterator's parts. -/
def ToIntInv (b : Nat) (sv : Value) (M : Int) (w1 : World) (pre : List Part) (W : World) : Prop :=
  0 ≤ hi (pre.map (·.1)) ∧ hi (pre.map (·.1)) ≤ M ∧ Boxed W b 68 (.int .u64 M) ∧ Boxed W (b + 1) 68 (.int .u64 (hi (pre.map (·.1)))) ∧ Boxed W (b + 1 + 1) 22 sv ∧ Below w1.heap.size w1 W
theorem ToIntInv.own {b : Nat} {sv : Value} {M : Int} {w1 : World} {B : Nat} (hB : w1.heap.size ≤ B) : OwnFrom B (ToIntInv b sv M w1) := by
  rintro pre X Y row ⟨h1, h2, h3, h4, h5, hb⟩ hg hrow
  have hr := fun r e => (hrow r e).2
  exact ⟨h1, h2, boxed_grown h3 hg hr, boxed_grown h4 hg hr, boxed_grown h5 hg hr, hb.grown hg hb.size (fun k e => Nat.le_trans hB (hrow k e).1)⟩

set_option maxRecDepth 100000 in
set_option maxHeartbeats 4000000 in
theorem ToInt_fits (z : Int) (hl : Lim z) (hz0 : -9223372036854775808 ≤ z) (hz1 : z ≤ 9223372036854775807) (ao : Option Addr) (len cap : Nat) (w : World) (hs : Sl w ao len cap (parts z.natAbs)) :
    Calls Tryz.prog 18 #[.agg #[.bool (decide (z < 0)), .slice ao len cap]] w fun e w' => e = .returned (.tuple #[.int .i64 z, .int .i64 0]) ∧ Below w.heap.size w w' := by
  have hok : okInt (decide (z < 0)) (parts z.natAbs) = true := (okInt_iff _ _).2 ⟨z, hl, rfl, rfl⟩
  have hck := fun w h => check_any (decide (z < 0)) ao len cap (parts z.natAbs) w h
  rw [hok, show errOf true = 0 from rfl] at hck
  have hlen : len ≤ 40 := by have := hs.length; unfold Lim at hl; omega
  have hdig := parts_dig z.natAbs
  have hval : val (parts z.natAbs) = z.natAbs := val_parts _
  have hneg1 : decide (z < 0) = true → z = -(z.natAbs : Int) ∧ 1 ≤ (z.natAbs : Int) ∧ (z.natAbs : Int) ≤ 9223372036854775808 := by simp; omega
  have hneg0 : decide (z < 0) = false → z = (z.natAbs : Int) ∧ (z.natAbs : Int) ≤ 9223372036854775807 := by simp; omega
  generalize hneg : decide (z < 0) = neg at *
  generalize parts z.natAbs = xs at *
  generalize hn : z.natAbs = n at *
  have Hck := Lib.hid hck
  have Hval := Lib.hid hval
  have Hneg1 := Lib.hid hneg1
  have Hneg0 := Lib.hid hneg0
  clear hck hok hneg hval hneg1 hneg0 hn hl hz0 hz1
  refine (callsIn_wide (n := 5)).1 ?_
  refine callsIn_of_wp_marks Tryz.func18 rfl trivial ?_ rfl
  simp only [Tryz.ntmps18, List.size_toArray, List.length_cons, List.length_nil, Nat.reduceAdd, Nat.reduceSub, Array.replicate_succ, Array.replicate_zero, List.push_toArray, List.append_toArray, List.nil_append, List.cons_append]
  gi_wp2_with fail
  refine ⟨trivial, (callsIn_wide.2 (Hck.out _ (((hs.alloc _).alloc _).alloc _))).mono ?_⟩
  rintro e w1 ⟨rfl, hb1⟩
  have hA : w1.heap[w.heap.size]? = some (.cells #[.bool neg, .slice ao len cap] 24 (0, 0)) := (hb1.block _ (by simp; omega)).trans (heap3_0 w _ _ _)
  have hX : Boxed w1 (w.heap.size + 1) 3 (.int .i64 0) := (hb1.block _ (by simp)).trans (heap3_1 w _ _ _)
  have hY : Boxed w1 (w.heap.size + 1 + 1) 28 (.int .i64 0) := (hb1.block _ (by simp)).trans (heap3_2 w _ _ _)
  have hbb : Below w.heap.size w w1 := (below3 w _ _ _).trans (hb1.mono (by simp; omega))
  have hYl := hY.lt
  obtain ⟨k1, k2, k3, k4, k5⟩ := box2 hA
  have x1 := hX.cell; have x2 := hX.frozen; have y1 := hY.cell; have y2 := hY.frozen
  clear hb1
  gi_wp2
  · refine ⟨trivial, (top_in _ _ _ _).mono ?_⟩
    rintro e w' ⟨rfl, rfl⟩
    have hneg : neg = true := by assumption
    subst hneg
    gi_wp2
    have hD : Boxed (((w1.alloc (.cells #[.int .u64 9223372036854775808] 68)).alloc (.cells #[.int .u64 0] 68)).alloc (.cells #[.slice ao len cap] 22)) (w1.heap.size) 68 (.int .u64 9223372036854775808) := heap3_0 w1 _ _ _
    have hE : Boxed (((w1.alloc (.cells #[.int .u64 9223372036854775808] 68)).alloc (.cells #[.int .u64 0] 68)).alloc (.cells #[.slice ao len cap] 22)) (w1.heap.size + 1) 68 (.int .u64 0) := heap3_1 w1 _ _ _
    have hS : Boxed (((w1.alloc (.cells #[.int .u64 9223372036854775808] 68)).alloc (.cells #[.int .u64 0] 68)).alloc (.cells #[.slice ao len cap] 22)) (w1.heap.size + 1 + 1) 22 (.slice ao len cap) := heap3_2 w1 _ _ _
    have hBW : Below w1.heap.size w1 (((w1.alloc (.cells #[.int .u64 9223372036854775808] 68)).alloc (.cells #[.int .u64 0] 68)).alloc (.cells #[.slice ao len cap] 22)) := below3 w1 _ _ _
    have hsW := Sl.below hs (hbb.trans (hBW.mono hbb.size))
    have hlow : 0 < len → ∀ a, ao = some a → a.block < w1.heap.size := by
      intro h0 a ha
      obtain ⟨b, o, hbo, hc⟩ := hs.at h0
      rw [ha] at hbo
      obtain rfl := Option.some.inj hbo
      have := cell_lt (hc 0 h0)
      exact Nat.lt_of_lt_of_le this (by have := hbb.size; omega)
    obtain ⟨zs, rfl⟩ := parts_of hdig
    have hSlt := hS.lt
    generalize hW0 : ((w1.alloc (.cells #[.int .u64 9223372036854775808] 68)).alloc (.cells #[.int .u64 0] 68)).alloc (.cells #[.slice ao len cap] 22) = W0 at *
    refine wpIn_rangeFunc_ownG rfl (by omega) (gf := 116) (lb := #[.pointer (some ⟨w1.heap.size + 1 + 1, 0, none⟩)]) rfl trivial (enters_of Tryz.func116 (by kernel_rfl) rfl)
      (top_stops (w1.heap.size + 1 + 1) (w1.heap.size) ao len cap zs (by omega) W0 hS hsW hlow) KeepT.t (KeepT.b (by omega) (by omega)) (Below.refl _ _) (fun _ => rfl)
      (ToIntInv w1.heap.size (.slice ao len cap) 9223372036854775808 w1) (fun _ pre _ => 9223372036854775808 < hi (pre.map (·.1))) (ToIntInv.own (by omega)) (fun _ _ _ _ _ hs _ _ => hs)
      ⟨Int.le_refl _, (by decide : (0 : Int) ≤ 9223372036854775808), hD, hE, hS, hBW⟩
      (fun x => { tmps := #[.agg #[.bool true, .slice ao len cap], .pointer (some ⟨w.heap.size, 0, none⟩), .pointer (some ⟨w.heap.size + 1, 0, none⟩), .pointer (some ⟨w.heap.size + 1 + 1, 0, none⟩), .int .i64 0, .pointer (some ⟨w1.heap.size, 0, none⟩), .pointer (some ⟨w1.heap.size + 1, 0, none⟩), .int .i64 x.1, .agg #[.bool true, .slice ao len cap], .int .i64 0, .int .i64 0, .bool false, undef, .pointer (some ⟨w.heap.size, 0, none⟩), .bool true, .int .u64 9223372036854775807, .int .u64 9223372036854775808, .pointer (some ⟨w.heap.size, 1, none⟩), .slice ao len cap, .func (.func 116) #[] #[.pointer (some ⟨w1.heap.size + 1 + 1, 0, none⟩)], .int .i64 x.1, undef, undef, undef, undef, undef, undef, undef, undef, undef, undef, undef, undef, undef, undef, undef, undef, undef, undef], defers := [] }) ?assign ?body ?done ?stop
    case assign =>
      intro l x W K hK
      gi_wp2
      exact hK
    case stop =>
      rintro D c pre W _ ⟨ws, hws⟩ h _
      have hp := hi_prefix (pre.map (·.1)) (zs.reverse.map (·.1)) (List.IsPrefix.map (·.1) ⟨ws, hws⟩) (fun y hy => by obtain ⟨p, _, rfl⟩ := List.mem_map.1 hy; exact p.2.1)
      rw [hi_parts, Hval.out] at hp
      have := Hneg1.out (by first | rfl | trivial)
      exact absurd h (by omega)
    case done =>
      rintro D ys W hD9 rfl ⟨h1, h2, h3, h4, h5, hB9⟩ hK
      have hX9 : Boxed W (w.heap.size + 1) 3 (.int .i64 0) := (hB9.block _ (by omega)).trans hX
      have hY9 : Boxed W (w.heap.size + 1 + 1) 28 (.int .i64 0) := (hB9.block _ (by omega)).trans hY
      obtain ⟨a1, a2, a3, a4, a5⟩ := box2 ((hB9.block _ (by omega)).trans hA)
      rw [hi_parts, Hval.out] at h4
      obtain ⟨e1, e2⟩ := Hneg1.out (by first | rfl | trivial)
      have c1 := h4.cell; have c2 := h4.frozen
      have c3 := hX9.cell; have c4 := hX9.frozen; have c5 := hY9.cell; have c6 := hY9.frozen
      have hn0 : (0 : Int) ≤ n := by omega
      clear h1 h2
      gi_wp2
      have hz : wrap64 (IntKind.u64.wrap (-(n : Int))) = z := by rw [e1]; unfold wrap64; rw [IntKind.wrap_u64]; omega
      rw [hz]
      have hX3 : Boxed (((W.setCell ⟨w1.heap.size + 1, 0, none⟩ (.int .u64 (IntKind.u64.wrap (-(n : Int))))).setCell ⟨w.heap.size + 1, 0, none⟩ (.int .i64 z)).setCell ⟨w.heap.size + 1 + 1, 0, none⟩ (.int .i64 0)) (w.heap.size + 1) 3 (.int .i64 z) := (((hX9.kept (grownBy_setCell' W (w1.heap.size + 1) (.int .u64 (IntKind.u64.wrap (-(n : Int))))) (by simp <;> omega)).set (.int .i64 z)).kept (grownBy_setCell' ((W.setCell ⟨w1.heap.size + 1, 0, none⟩ (.int .u64 (IntKind.u64.wrap (-(n : Int))))).setCell ⟨w.heap.size + 1, 0, none⟩ (.int .i64 z)) (w.heap.size + 1 + 1) (.int .i64 0)) (by simp <;> omega))
      have hY3 : Boxed (((W.setCell ⟨w1.heap.size + 1, 0, none⟩ (.int .u64 (IntKind.u64.wrap (-(n : Int))))).setCell ⟨w.heap.size + 1, 0, none⟩ (.int .i64 z)).setCell ⟨w.heap.size + 1 + 1, 0, none⟩ (.int .i64 0)) (w.heap.size + 1 + 1) 28 (.int .i64 0) := (((hY9.kept (grownBy_setCell' W (w1.heap.size + 1) (.int .u64 (IntKind.u64.wrap (-(n : Int))))) (by simp <;> omega)).kept (grownBy_setCell' (W.setCell ⟨w1.heap.size + 1, 0, none⟩ (.int .u64 (IntKind.u64.wrap (-(n : Int))))) (w.heap.size + 1) (.int .i64 z)) (by simp <;> omega)).set (.int .i64 0))
      have hK3 : (((W.setCell ⟨w1.heap.size + 1, 0, none⟩ (.int .u64 (IntKind.u64.wrap (-(n : Int))))).setCell ⟨w.heap.size + 1, 0, none⟩ (.int .i64 z)).setCell ⟨w.heap.size + 1 + 1, 0, none⟩ (.int .i64 0)).heap[D]? = some (.deferred (some [])) := by rw [Below.heap_setCell _ _ _ _ (by simp; omega), Below.heap_setCell _ _ _ _ (by simp; omega), Below.heap_setCell _ _ _ _ (by simp; omega)]; exact hK
      have hB3 : Below w.heap.size w (((W.setCell ⟨w1.heap.size + 1, 0, none⟩ (.int .u64 (IntKind.u64.wrap (-(n : Int))))).setCell ⟨w.heap.size + 1, 0, none⟩ (.int .i64 z)).setCell ⟨w.heap.size + 1 + 1, 0, none⟩ (.int .i64 0)) := ((((hbb.trans (hB9.mono hbb.size)).setCell (by simp <;> omega) (.int .u64 (IntKind.u64.wrap (-(n : Int))))).setCell (by simp <;> omega) (.int .i64 z)).setCell (by simp <;> omega) (.int .i64 0))
      generalize (((W.setCell ⟨w1.heap.size + 1, 0, none⟩ (.int .u64 (IntKind.u64.wrap (-(n : Int))))).setCell ⟨w.heap.size + 1, 0, none⟩ (.int .i64 z)).setCell ⟨w.heap.size + 1 + 1, 0, none⟩ (.int .i64 0)) = W3 at *
      have hX4 := hX3.kept (grownBy_putObj' W3 D (.deferred none)) (by simp; omega)
      have hY4 := hY3.kept (grownBy_putObj' W3 D (.deferred none)) (by simp; omega)
      refine ⟨by simp, .inl ⟨_, _, rfl, run_takeDeferred hK3, ?_⟩⟩
      have g1 := hX4.cell; have g2 := hY4.cell
      refine ⟨.tuple #[.int .i64 z, .int .i64 0], ?_, rfl, hB3.trans (belowK_b (w := w) (Nat.le_refl _) W3 D _ _ (by omega) hK3 rfl rfl)⟩
      simp [results, Tryz.f18, go_sem, g1, g2]
    case body =>
      rintro l pre ⟨x, hx0, hx1⟩ W ⟨h1, h2, h3, h4, h5, hB9⟩ hp9
      have hX9 : Boxed W (w.heap.size + 1) 3 (.int .i64 0) := (hB9.block _ (by omega)).trans hX
      have hY9 : Boxed W (w.heap.size + 1 + 1) 28 (.int .i64 0) := (hB9.block _ (by omega)).trans hY
      have c1 := h4.cell; have c2 := h4.frozen; have c7 := h3.cell
      have c3 := hX9.cell; have c4 := hX9.frozen; have c5 := hY9.cell; have c6 := hY9.frozen
      have hE9 : hi ((pre ++ [(⟨x, hx0, hx1⟩ : Part)]).map (·.1)) = hi (pre.map (·.1)) * 1000000000 + x := by simp [hi_snoc]
      have HE := Lib.hid hE9
      clear hE9
      generalize hi (pre.map (·.1)) = s at *
      gi_wp2
      · refine ⟨((KeepsOthers.setCell _ _ _).trans (KeepsOthers.setCell _ _ _)).from _, ?_⟩
        show 9223372036854775808 < hi _
        rw [HE.out]; omega
      · have hS9 := h5.kept (grownBy_setCell' W (w1.heap.size + 1) (.int .u64 (s * 1000000000 + x))) (by simp)
        refine ⟨(KeepsOthers.setCell _ _ _).from _, ⟨(Below.refl _ _).setCell (by simp) _, (show _ = _ from hS9).trans (show _ = _ from h5).symm⟩, ?_, ?_, h3.kept (grownBy_setCell' W (w1.heap.size + 1) _) (by simp), ?_, hS9, hB9.setCell (by simp) _⟩
        · rw [HE.out]; omega
        · rw [HE.out]; omega
        · rw [HE.out]; exact h4.set _
  · refine ⟨trivial, (top_in _ _ _ _).mono ?_⟩
    rintro e w' ⟨rfl, rfl⟩
    have hneg : neg = false := by assumption
    subst hneg
    gi_wp2
    have hD : Boxed (((w1.alloc (.cells #[.int .u64 9223372036854775807] 68)).alloc (.cells #[.int .u64 0] 68)).alloc (.cells #[.slice ao len cap] 22)) (w1.heap.size) 68 (.int .u64 9223372036854775807) := heap3_0 w1 _ _ _
    have hE : Boxed (((w1.alloc (.cells #[.int .u64 9223372036854775807] 68)).alloc (.cells #[.int .u64 0] 68)).alloc (.cells #[.slice ao len cap] 22)) (w1.heap.size + 1) 68 (.int .u64 0) := heap3_1 w1 _ _ _
    have hS : Boxed (((w1.alloc (.cells #[.int .u64 9223372036854775807] 68)).alloc (.cells #[.int .u64 0] 68)).alloc (.cells #[.slice ao len cap] 22)) (w1.heap.size + 1 + 1) 22 (.slice ao len cap) := heap3_2 w1 _ _ _
    have hBW : Below w1.heap.size w1 (((w1.alloc (.cells #[.int .u64 9223372036854775807] 68)).alloc (.cells #[.int .u64 0] 68)).alloc (.cells #[.slice ao len cap] 22)) := below3 w1 _ _ _
    have hsW := Sl.below hs (hbb.trans (hBW.mono hbb.size))
    have hlow : 0 < len → ∀ a, ao = some a → a.block < w1.heap.size := by
      intro h0 a ha
      obtain ⟨b, o, hbo, hc⟩ := hs.at h0
      rw [ha] at hbo
      obtain rfl := Option.some.inj hbo
      have := cell_lt (hc 0 h0)
      exact Nat.lt_of_lt_of_le this (by have := hbb.size; omega)
    obtain ⟨zs, rfl⟩ := parts_of hdig
    have hSlt := hS.lt
    generalize hW0 : ((w1.alloc (.cells #[.int .u64 9223372036854775807] 68)).alloc (.cells #[.int .u64 0] 68)).alloc (.cells #[.slice ao len cap] 22) = W0 at *
    refine wpIn_rangeFunc_ownG rfl (by omega) (gf := 116) (lb := #[.pointer (some ⟨w1.heap.size + 1 + 1, 0, none⟩)]) rfl trivial (enters_of Tryz.func116 (by kernel_rfl) rfl)
      (top_stops (w1.heap.size + 1 + 1) (w1.heap.size) ao len cap zs (by omega) W0 hS hsW hlow) KeepT.t (KeepT.b (by omega) (by omega)) (Below.refl _ _) (fun _ => rfl)
      (ToIntInv w1.heap.size (.slice ao len cap) 9223372036854775807 w1) (fun _ pre _ => 9223372036854775807 < hi (pre.map (·.1))) (ToIntInv.own (by omega)) (fun _ _ _ _ _ hs _ _ => hs)
      ⟨Int.le_refl _, (by decide : (0 : Int) ≤ 9223372036854775807), hD, hE, hS, hBW⟩
      (fun x => { tmps := #[.agg #[.bool false, .slice ao len cap], .pointer (some ⟨w.heap.size, 0, none⟩), .pointer (some ⟨w.heap.size + 1, 0, none⟩), .pointer (some ⟨w.heap.size + 1 + 1, 0, none⟩), .int .i64 0, .pointer (some ⟨w1.heap.size, 0, none⟩), .pointer (some ⟨w1.heap.size + 1, 0, none⟩), .int .i64 x.1, .agg #[.bool false, .slice ao len cap], .int .i64 0, .int .i64 0, .bool false, undef, .pointer (some ⟨w.heap.size, 0, none⟩), .bool false, undef, undef, .pointer (some ⟨w.heap.size, 1, none⟩), .slice ao len cap, .func (.func 116) #[] #[.pointer (some ⟨w1.heap.size + 1 + 1, 0, none⟩)], .int .i64 x.1, undef, undef, undef, undef, undef, undef, undef, undef, undef, undef, undef, undef, undef, undef, undef, undef, undef, undef], defers := [] }) ?assign ?body ?done ?stop
    case assign =>
      intro l x W K hK
      gi_wp2
      exact hK
    case stop =>
      rintro D c pre W _ ⟨ws, hws⟩ h _
      have hp := hi_prefix (pre.map (·.1)) (zs.reverse.map (·.1)) (List.IsPrefix.map (·.1) ⟨ws, hws⟩) (fun y hy => by obtain ⟨p, _, rfl⟩ := List.mem_map.1 hy; exact p.2.1)
      rw [hi_parts, Hval.out] at hp
      have := Hneg0.out (by first | rfl | trivial)
      exact absurd h (by omega)
    case done =>
      rintro D ys W hD9 rfl ⟨h1, h2, h3, h4, h5, hB9⟩ hK
      have hX9 : Boxed W (w.heap.size + 1) 3 (.int .i64 0) := (hB9.block _ (by omega)).trans hX
      have hY9 : Boxed W (w.heap.size + 1 + 1) 28 (.int .i64 0) := (hB9.block _ (by omega)).trans hY
      obtain ⟨a1, a2, a3, a4, a5⟩ := box2 ((hB9.block _ (by omega)).trans hA)
      rw [hi_parts, Hval.out] at h4
      obtain ⟨e1, e2⟩ := Hneg0.out (by first | rfl | trivial)
      have c1 := h4.cell; have c2 := h4.frozen
      have c3 := hX9.cell; have c4 := hX9.frozen; have c5 := hY9.cell; have c6 := hY9.frozen
      have hn0 : (0 : Int) ≤ n := by omega
      clear h1 h2
      gi_wp2
      rw [← e1]
      have hX3 : Boxed ((W.setCell ⟨w.heap.size + 1, 0, none⟩ (.int .i64 z)).setCell ⟨w.heap.size + 1 + 1, 0, none⟩ (.int .i64 0)) (w.heap.size + 1) 3 (.int .i64 z) := ((hX9.set (.int .i64 z)).kept (grownBy_setCell' (W.setCell ⟨w.heap.size + 1, 0, none⟩ (.int .i64 z)) (w.heap.size + 1 + 1) (.int .i64 0)) (by simp <;> omega))
      have hY3 : Boxed ((W.setCell ⟨w.heap.size + 1, 0, none⟩ (.int .i64 z)).setCell ⟨w.heap.size + 1 + 1, 0, none⟩ (.int .i64 0)) (w.heap.size + 1 + 1) 28 (.int .i64 0) := ((hY9.kept (grownBy_setCell' W (w.heap.size + 1) (.int .i64 z)) (by simp <;> omega)).set (.int .i64 0))
      have hK3 : ((W.setCell ⟨w.heap.size + 1, 0, none⟩ (.int .i64 z)).setCell ⟨w.heap.size + 1 + 1, 0, none⟩ (.int .i64 0)).heap[D]? = some (.deferred (some [])) := by rw [Below.heap_setCell _ _ _ _ (by simp; omega), Below.heap_setCell _ _ _ _ (by simp; omega)]; exact hK
      have hB3 : Below w.heap.size w ((W.setCell ⟨w.heap.size + 1, 0, none⟩ (.int .i64 z)).setCell ⟨w.heap.size + 1 + 1, 0, none⟩ (.int .i64 0)) := (((hbb.trans (hB9.mono hbb.size)).setCell (by simp <;> omega) (.int .i64 z)).setCell (by simp <;> omega) (.int .i64 0))
      generalize ((W.setCell ⟨w.heap.size + 1, 0, none⟩ (.int .i64 z)).setCell ⟨w.heap.size + 1 + 1, 0, none⟩ (.int .i64 0)) = W3 at *
      have hX4 := hX3.kept (grownBy_putObj' W3 D (.deferred none)) (by simp; omega)
      have hY4 := hY3.kept (grownBy_putObj' W3 D (.deferred none)) (by simp; omega)
      refine ⟨by simp, .inl ⟨_, _, rfl, run_takeDeferred hK3, ?_⟩⟩
      have g1 := hX4.cell; have g2 := hY4.cell
      refine ⟨.tuple #[.int .i64 z, .int .i64 0], ?_, rfl, hB3.trans (belowK_b (w := w) (Nat.le_refl _) W3 D _ _ (by omega) hK3 rfl rfl)⟩
      simp [results, Tryz.f18, go_sem, g1, g2]
    case body =>
      rintro l pre ⟨x, hx0, hx1⟩ W ⟨h1, h2, h3, h4, h5, hB9⟩ hp9
      have hX9 : Boxed W (w.heap.size + 1) 3 (.int .i64 0) := (hB9.block _ (by omega)).trans hX
      have hY9 : Boxed W (w.heap.size + 1 + 1) 28 (.int .i64 0) := (hB9.block _ (by omega)).trans hY
      have c1 := h4.cell; have c2 := h4.frozen; have c7 := h3.cell
      have c3 := hX9.cell; have c4 := hX9.frozen; have c5 := hY9.cell; have c6 := hY9.frozen
      have hE9 : hi ((pre ++ [(⟨x, hx0, hx1⟩ : Part)]).map (·.1)) = hi (pre.map (·.1)) * 1000000000 + x := by simp [hi_snoc]
      have HE := Lib.hid hE9
      clear hE9
      generalize hi (pre.map (·.1)) = s at *
      gi_wp2
      · refine ⟨((KeepsOthers.setCell _ _ _).trans (KeepsOthers.setCell _ _ _)).from _, ?_⟩
        show 9223372036854775807 < hi _
        rw [HE.out]; omega
      · have hS9 := h5.kept (grownBy_setCell' W (w1.heap.size + 1) (.int .u64 (s * 1000000000 + x))) (by simp)
        refine ⟨(KeepsOthers.setCell _ _ _).from _, ⟨(Below.refl _ _).setCell (by simp) _, (show _ = _ from hS9).trans (show _ = _ from h5).symm⟩, ?_, ?_, h3.kept (grownBy_setCell' W (w1.heap.size + 1) _) (by simp), ?_, hS9, hB9.setCell (by simp) _⟩
        · rw [HE.out]; omega
        · rw [HE.out]; omega
        · rw [HE.out]; exact h4.set _
end Go.Proofs.YtfjnplhhgdfepaaGreatDoor

/- ToInt, where the number fits. -/
namespace Go.Proofs.YtfjnplhhgdfepaaGreatDoor
open Go.RowKit Go.Shelf Go.Lib
attribute [local go_sem] Oper.semAt_some

/-- ToInt has met a number that is too large: the return waits, with its results. -/
def ToIntOut (bx : Nat) (w0 : World) (c : Code) (_ : List Part) (W : World) : Prop :=
  c = Code.ret ∧ Boxed W (bx + 1) 3 (.int .i64 0) ∧ Boxed W (bx + 1 + 1) 28 (.int .i64 2) ∧ Below w0.heap.size w0 W
theorem ToIntOut.own {bx : Nat} {w0 : World} {B : Nat} (hB : w0.heap.size ≤ B) (c : Code) : OwnFrom B (ToIntOut bx w0 c) := by
  rintro pre X Y row ⟨h0, h1, h2, hb⟩ hg hrow
  have hr := fun r e => (hrow r e).2
  exact ⟨h0, boxed_grown h1 hg hr, boxed_grown h2 hg hr, hb.grown hg hb.size (fun k e => Nat.le_trans hB (hrow k e).1)⟩

set_option maxRecDepth 100000 in
set_option maxHeartbeats 1000000 in
theorem ToInt_bad (neg : Bool) (ao : Option Addr) (len cap : Nat) (xs : List Int) (w : World) (hs : Sl w ao len cap xs) (ho : okInt neg xs = false) :
    Calls Tryz.prog 18 #[.agg #[.bool neg, .slice ao len cap]] w fun e w' => e = .returned (.tuple #[.int .i64 0, .int .i64 10]) ∧ Below w.heap.size w w' := by
  have hck := fun w h => check_any neg ao len cap xs w h
  rw [ho, show errOf false = 10 from rfl] at hck
  have Hck := Lib.hid hck
  clear hck ho
  go_enter Tryz.func18, Tryz.ntmps18
  go_wp2_with fail
  refine (Hck.out _ (((hs.alloc _).alloc _).alloc _)).mono ?_
  rintro e w1 ⟨rfl, hb1⟩
  have hX : Boxed w1 (w.heap.size + 1) 3 (.int .i64 0) := (hb1.block _ (by simp)).trans (heap3_1 w _ _ _)
  have hY : Boxed w1 (w.heap.size + 1 + 1) 28 (.int .i64 0) := (hb1.block _ (by simp)).trans (heap3_2 w _ _ _)
  have hbb : Below w.heap.size w w1 := (below3 w _ _ _).trans (hb1.mono (by simp; omega))
  have x1 := hX.cell; have x2 := hX.frozen; have y1 := hY.cell; have y2 := hY.frozen; have xl := hX.lt; have yl := hY.lt
  clear hb1
  go_wp2
  have g1 := ((hX.set (.int .i64 0)).kept (grownBy_setCell' (w1.setCell ⟨w.heap.size + 1, 0, none⟩ (.int .i64 0)) (w.heap.size + 1 + 1) (.int .i64 10)) (by simp)).cell
  have g2 := ((hY.kept (grownBy_setCell' w1 (w.heap.size + 1) (.int .i64 0)) (by simp)).set (.int .i64 10)).cell
  refine bodyPost_ret (v := .tuple #[.int .i64 0, .int .i64 10]) (by simp [results, Tryz.f18, Tryz.results18, go_sem, g1, g2]) rfl ?_
  exact ⟨rfl, (hbb.setCell (by simp <;> omega) _).setCell (by simp <;> omega) _⟩

set_option maxRecDepth 100000 in
set_option maxHeartbeats 4000000 in
theorem ToInt_big (z : Int) (hl : Lim z) (hz : z < -9223372036854775808 ∨ 9223372036854775807 < z) (ao : Option Addr) (len cap : Nat) (w : World) (hs : Sl w ao len cap (parts z.natAbs)) :
    Calls Tryz.prog 18 #[.agg #[.bool (decide (z < 0)), .slice ao len cap]] w fun e w' => e = .returned (.tuple #[.int .i64 0, .int .i64 2]) ∧ Below w.heap.size w w' := by
  have hok : okInt (decide (z < 0)) (parts z.natAbs) = true := (okInt_iff _ _).2 ⟨z, hl, rfl, rfl⟩
  have hck := fun w h => check_any (decide (z < 0)) ao len cap (parts z.natAbs) w h
  rw [hok, show errOf true = 0 from rfl] at hck
  have hlen : len ≤ 40 := by have := hs.length; unfold Lim at hl; omega
  have hdig := parts_dig z.natAbs
  have hval : val (parts z.natAbs) = z.natAbs := val_parts _
  have hneg1 : decide (z < 0) = true → 9223372036854775808 < (z.natAbs : Int) := by simp; omega
  have hneg0 : decide (z < 0) = false → 9223372036854775807 < (z.natAbs : Int) := by simp; omega
  generalize hneg : decide (z < 0) = neg at *
  generalize parts z.natAbs = xs at *
  generalize hn : z.natAbs = n at *
  have Hck := Lib.hid hck
  have Hval := Lib.hid hval
  have Hneg1 := Lib.hid hneg1
  have Hneg0 := Lib.hid hneg0
  clear hck hok hneg hval hneg1 hneg0 hn hl hz
  refine (callsIn_wide (n := 5)).1 ?_
  refine callsIn_of_wp_marks Tryz.func18 rfl trivial ?_ rfl
  simp only [Tryz.ntmps18, List.size_toArray, List.length_cons, List.length_nil, Nat.reduceAdd, Nat.reduceSub, Array.replicate_succ, Array.replicate_zero, List.push_toArray, List.append_toArray, List.nil_append, List.cons_append]
  gi_wp2_with fail
  refine ⟨trivial, (callsIn_wide.2 (Hck.out _ (((hs.alloc _).alloc _).alloc _))).mono ?_⟩
  rintro e w1 ⟨rfl, hb1⟩
  have hA : w1.heap[w.heap.size]? = some (.cells #[.bool neg, .slice ao len cap] 24 (0, 0)) := (hb1.block _ (by simp; omega)).trans (heap3_0 w _ _ _)
  have hX : Boxed w1 (w.heap.size + 1) 3 (.int .i64 0) := (hb1.block _ (by simp)).trans (heap3_1 w _ _ _)
  have hY : Boxed w1 (w.heap.size + 1 + 1) 28 (.int .i64 0) := (hb1.block _ (by simp)).trans (heap3_2 w _ _ _)
  have hbb : Below w.heap.size w w1 := (below3 w _ _ _).trans (hb1.mono (by simp; omega))
  have hYl := hY.lt
  obtain ⟨k1, k2, k3, k4, k5⟩ := box2 hA
  have x1 := hX.cell; have x2 := hX.frozen; have y1 := hY.cell; have y2 := hY.frozen
  clear hb1
  gi_wp2
  · refine ⟨trivial, (top_in _ _ _ _).mono ?_⟩
    rintro e w' ⟨rfl, rfl⟩
    have hneg : neg = true := by assumption
    subst hneg
    gi_wp2
    have hD : Boxed (((w1.alloc (.cells #[.int .u64 9223372036854775808] 68)).alloc (.cells #[.int .u64 0] 68)).alloc (.cells #[.slice ao len cap] 22)) (w1.heap.size) 68 (.int .u64 9223372036854775808) := heap3_0 w1 _ _ _
    have hE : Boxed (((w1.alloc (.cells #[.int .u64 9223372036854775808] 68)).alloc (.cells #[.int .u64 0] 68)).alloc (.cells #[.slice ao len cap] 22)) (w1.heap.size + 1) 68 (.int .u64 0) := heap3_1 w1 _ _ _
    have hS : Boxed (((w1.alloc (.cells #[.int .u64 9223372036854775808] 68)).alloc (.cells #[.int .u64 0] 68)).alloc (.cells #[.slice ao len cap] 22)) (w1.heap.size + 1 + 1) 22 (.slice ao len cap) := heap3_2 w1 _ _ _
    have hBW : Below w1.heap.size w1 (((w1.alloc (.cells #[.int .u64 9223372036854775808] 68)).alloc (.cells #[.int .u64 0] 68)).alloc (.cells #[.slice ao len cap] 22)) := below3 w1 _ _ _
    have hsW := Sl.below hs (hbb.trans (hBW.mono hbb.size))
    have hlow : 0 < len → ∀ a, ao = some a → a.block < w1.heap.size := by
      intro h0 a ha
      obtain ⟨b, o, hbo, hc⟩ := hs.at h0
      rw [ha] at hbo
      obtain rfl := Option.some.inj hbo
      have := cell_lt (hc 0 h0)
      exact Nat.lt_of_lt_of_le this (by have := hbb.size; omega)
    obtain ⟨zs, rfl⟩ := parts_of hdig
    have hSlt := hS.lt
    generalize hW0 : ((w1.alloc (.cells #[.int .u64 9223372036854775808] 68)).alloc (.cells #[.int .u64 0] 68)).alloc (.cells #[.slice ao len cap] 22) = W0 at *
    refine wpIn_rangeFunc_ownG rfl (by omega) (gf := 116) (lb := #[.pointer (some ⟨w1.heap.size + 1 + 1, 0, none⟩)]) rfl trivial (enters_of Tryz.func116 (by kernel_rfl) rfl)
      (top_stops (w1.heap.size + 1 + 1) (w1.heap.size) ao len cap zs (by omega) W0 hS hsW hlow) KeepT.t (KeepT.b (by omega) (by omega)) (Below.refl _ _) (fun _ => rfl)
      (ToIntInv w1.heap.size (.slice ao len cap) 9223372036854775808 w1) (ToIntOut w.heap.size w) (ToIntInv.own (by omega)) (fun c => ToIntOut.own (by have := hbb.size; omega) c)
      ⟨Int.le_refl _, (by decide : (0 : Int) ≤ 9223372036854775808), hD, hE, hS, hBW⟩
      (fun x => { tmps := #[.agg #[.bool true, .slice ao len cap], .pointer (some ⟨w.heap.size, 0, none⟩), .pointer (some ⟨w.heap.size + 1, 0, none⟩), .pointer (some ⟨w.heap.size + 1 + 1, 0, none⟩), .int .i64 0, .pointer (some ⟨w1.heap.size, 0, none⟩), .pointer (some ⟨w1.heap.size + 1, 0, none⟩), .int .i64 x.1, .agg #[.bool true, .slice ao len cap], .int .i64 0, .int .i64 0, .bool false, undef, .pointer (some ⟨w.heap.size, 0, none⟩), .bool true, .int .u64 9223372036854775807, .int .u64 9223372036854775808, .pointer (some ⟨w.heap.size, 1, none⟩), .slice ao len cap, .func (.func 116) #[] #[.pointer (some ⟨w1.heap.size + 1 + 1, 0, none⟩)], .int .i64 x.1, undef, undef, undef, undef, undef, undef, undef, undef, undef, undef, undef, undef, undef, undef, undef, undef, undef, undef], defers := [] }) ?assign ?body ?done ?stop
    case assign =>
      intro l x W K hK
      gi_wp2
      exact hK
    case stop =>
      rintro D c pre W hD9 _ ⟨rfl, hX9, hY9, hB9⟩ hK
      have c3 := hX9.cell; have c5 := hY9.cell
      gi_wp2
      have hX4 := hX9.kept (grownBy_putObj' W D (.deferred none)) (by simp; omega)
      have hY4 := hY9.kept (grownBy_putObj' W D (.deferred none)) (by simp; omega)
      refine ⟨by simp, .inl ⟨_, _, rfl, run_takeDeferred hK, ?_⟩⟩
      have g1 := hX4.cell; have g2 := hY4.cell
      refine ⟨.tuple #[.int .i64 0, .int .i64 2], ?_, rfl, hB9.trans (belowK_b (w := w) (Nat.le_refl _) W D _ _ (by omega) hK rfl rfl)⟩
      simp [results, Tryz.f18, go_sem, g1, g2]
    case done =>
      rintro D ys W hD9 rfl ⟨h1, h2, h3, h4, h5, hB9⟩ hK
      rw [hi_parts, Hval.out] at h2
      have := Hneg1.out (by first | rfl | trivial)
      omega
    case body =>
      rintro l pre ⟨x, hx0, hx1⟩ W ⟨h1, h2, h3, h4, h5, hB9⟩ hp9
      have hX9 : Boxed W (w.heap.size + 1) 3 (.int .i64 0) := (hB9.block _ (by omega)).trans hX
      have hY9 : Boxed W (w.heap.size + 1 + 1) 28 (.int .i64 0) := (hB9.block _ (by omega)).trans hY
      have c1 := h4.cell; have c2 := h4.frozen; have c7 := h3.cell
      have c3 := hX9.cell; have c4 := hX9.frozen; have c5 := hY9.cell; have c6 := hY9.frozen
      have hE9 : hi ((pre ++ [(⟨x, hx0, hx1⟩ : Part)]).map (·.1)) = hi (pre.map (·.1)) * 1000000000 + x := by simp [hi_snoc]
      have HE := Lib.hid hE9
      clear hE9
      generalize hi (pre.map (·.1)) = s at *
      gi_wp2
      · refine ⟨((KeepsOthers.setCell _ _ _).trans (KeepsOthers.setCell _ _ _)).from _, rfl, ?_, ?_, ?_⟩
        · exact (hX9.set (.int .i64 0)).kept (grownBy_setCell' _ _ _) (by simp)
        · exact (hY9.kept (grownBy_setCell' _ _ _) (by simp)).set (.int .i64 2)
        · exact ((hbb.trans (hB9.mono hbb.size)).setCell (by simp <;> omega) _).setCell (by simp <;> omega) _
      · have hS9 := h5.kept (grownBy_setCell' W (w1.heap.size + 1) (.int .u64 (s * 1000000000 + x))) (by simp)
        refine ⟨(KeepsOthers.setCell _ _ _).from _, ⟨(Below.refl _ _).setCell (by simp) _, (show _ = _ from hS9).trans (show _ = _ from h5).symm⟩, ?_, ?_, h3.kept (grownBy_setCell' W (w1.heap.size + 1) _) (by simp), ?_, hS9, hB9.setCell (by simp) _⟩
        · rw [HE.out]; omega
        · rw [HE.out]; omega
        · rw [HE.out]; exact h4.set _
  · refine ⟨trivial, (top_in _ _ _ _).mono ?_⟩
    rintro e w' ⟨rfl, rfl⟩
    have hneg : neg = false := by assumption
    subst hneg
    gi_wp2
    have hD : Boxed (((w1.alloc (.cells #[.int .u64 9223372036854775807] 68)).alloc (.cells #[.int .u64 0] 68)).alloc (.cells #[.slice ao len cap] 22)) (w1.heap.size) 68 (.int .u64 9223372036854775807) := heap3_0 w1 _ _ _
    have hE : Boxed (((w1.alloc (.cells #[.int .u64 9223372036854775807] 68)).alloc (.cells #[.int .u64 0] 68)).alloc (.cells #[.slice ao len cap] 22)) (w1.heap.size + 1) 68 (.int .u64 0) := heap3_1 w1 _ _ _
    have hS : Boxed (((w1.alloc (.cells #[.int .u64 9223372036854775807] 68)).alloc (.cells #[.int .u64 0] 68)).alloc (.cells #[.slice ao len cap] 22)) (w1.heap.size + 1 + 1) 22 (.slice ao len cap) := heap3_2 w1 _ _ _
    have hBW : Below w1.heap.size w1 (((w1.alloc (.cells #[.int .u64 9223372036854775807] 68)).alloc (.cells #[.int .u64 0] 68)).alloc (.cells #[.slice ao len cap] 22)) := below3 w1 _ _ _
    have hsW := Sl.below hs (hbb.trans (hBW.mono hbb.size))
    have hlow : 0 < len → ∀ a, ao = some a → a.block < w1.heap.size := by
      intro h0 a ha
      obtain ⟨b, o, hbo, hc⟩ := hs.at h0
      rw [ha] at hbo
      obtain rfl := Option.some.inj hbo
      have := cell_lt (hc 0 h0)
      exact Nat.lt_of_lt_of_le this (by have := hbb.size; omega)
    obtain ⟨zs, rfl⟩ := parts_of hdig
    have hSlt := hS.lt
    generalize hW0 : ((w1.alloc (.cells #[.int .u64 9223372036854775807] 68)).alloc (.cells #[.int .u64 0] 68)).alloc (.cells #[.slice ao len cap] 22) = W0 at *
    refine wpIn_rangeFunc_ownG rfl (by omega) (gf := 116) (lb := #[.pointer (some ⟨w1.heap.size + 1 + 1, 0, none⟩)]) rfl trivial (enters_of Tryz.func116 (by kernel_rfl) rfl)
      (top_stops (w1.heap.size + 1 + 1) (w1.heap.size) ao len cap zs (by omega) W0 hS hsW hlow) KeepT.t (KeepT.b (by omega) (by omega)) (Below.refl _ _) (fun _ => rfl)
      (ToIntInv w1.heap.size (.slice ao len cap) 9223372036854775807 w1) (ToIntOut w.heap.size w) (ToIntInv.own (by omega)) (fun c => ToIntOut.own (by have := hbb.size; omega) c)
      ⟨Int.le_refl _, (by decide : (0 : Int) ≤ 9223372036854775807), hD, hE, hS, hBW⟩
      (fun x => { tmps := #[.agg #[.bool false, .slice ao len cap], .pointer (some ⟨w.heap.size, 0, none⟩), .pointer (some ⟨w.heap.size + 1, 0, none⟩), .pointer (some ⟨w.heap.size + 1 + 1, 0, none⟩), .int .i64 0, .pointer (some ⟨w1.heap.size, 0, none⟩), .pointer (some ⟨w1.heap.size + 1, 0, none⟩), .int .i64 x.1, .agg #[.bool false, .slice ao len cap], .int .i64 0, .int .i64 0, .bool false, undef, .pointer (some ⟨w.heap.size, 0, none⟩), .bool false, undef, undef, .pointer (some ⟨w.heap.size, 1, none⟩), .slice ao len cap, .func (.func 116) #[] #[.pointer (some ⟨w1.heap.size + 1 + 1, 0, none⟩)], .int .i64 x.1, undef, undef, undef, undef, undef, undef, undef, undef, undef, undef, undef, undef, undef, undef, undef, undef, undef, undef], defers := [] }) ?assign ?body ?done ?stop
    case assign =>
      intro l x W K hK
      gi_wp2
      exact hK
    case stop =>
      rintro D c pre W hD9 _ ⟨rfl, hX9, hY9, hB9⟩ hK
      have c3 := hX9.cell; have c5 := hY9.cell
      gi_wp2
      have hX4 := hX9.kept (grownBy_putObj' W D (.deferred none)) (by simp; omega)
      have hY4 := hY9.kept (grownBy_putObj' W D (.deferred none)) (by simp; omega)
      refine ⟨by simp, .inl ⟨_, _, rfl, run_takeDeferred hK, ?_⟩⟩
      have g1 := hX4.cell; have g2 := hY4.cell
      refine ⟨.tuple #[.int .i64 0, .int .i64 2], ?_, rfl, hB9.trans (belowK_b (w := w) (Nat.le_refl _) W D _ _ (by omega) hK rfl rfl)⟩
      simp [results, Tryz.f18, go_sem, g1, g2]
    case done =>
      rintro D ys W hD9 rfl ⟨h1, h2, h3, h4, h5, hB9⟩ hK
      rw [hi_parts, Hval.out] at h2
      have := Hneg0.out (by first | rfl | trivial)
      omega
    case body =>
      rintro l pre ⟨x, hx0, hx1⟩ W ⟨h1, h2, h3, h4, h5, hB9⟩ hp9
      have hX9 : Boxed W (w.heap.size + 1) 3 (.int .i64 0) := (hB9.block _ (by omega)).trans hX
      have hY9 : Boxed W (w.heap.size + 1 + 1) 28 (.int .i64 0) := (hB9.block _ (by omega)).trans hY
      have c1 := h4.cell; have c2 := h4.frozen; have c7 := h3.cell
      have c3 := hX9.cell; have c4 := hX9.frozen; have c5 := hY9.cell; have c6 := hY9.frozen
      have hE9 : hi ((pre ++ [(⟨x, hx0, hx1⟩ : Part)]).map (·.1)) = hi (pre.map (·.1)) * 1000000000 + x := by simp [hi_snoc]
      have HE := Lib.hid hE9
      clear hE9
      generalize hi (pre.map (·.1)) = s at *
      gi_wp2
      · refine ⟨((KeepsOthers.setCell _ _ _).trans (KeepsOthers.setCell _ _ _)).from _, rfl, ?_, ?_, ?_⟩
        · exact (hX9.set (.int .i64 0)).kept (grownBy_setCell' _ _ _) (by simp)
        · exact (hY9.kept (grownBy_setCell' _ _ _) (by simp)).set (.int .i64 2)
        · exact ((hbb.trans (hB9.mono hbb.size)).setCell (by simp <;> omega) _).setCell (by simp <;> omega) _
      · have hS9 := h5.kept (grownBy_setCell' W (w1.heap.size + 1) (.int .u64 (s * 1000000000 + x))) (by simp)
        refine ⟨(KeepsOthers.setCell _ _ _).from _, ⟨(Below.refl _ _).setCell (by simp) _, (show _ = _ from hS9).trans (show _ = _ from h5).symm⟩, ?_, ?_, h3.kept (grownBy_setCell' W (w1.heap.size + 1) _) (by simp), ?_, hS9, hB9.setCell (by simp) _⟩
        · rw [HE.out]; omega
        · rw [HE.out]; omega
        · rw [HE.out]; exact h4.set _
end Go.Proofs.YtfjnplhhgdfepaaGreatDoor

/- The reference's FromInt. -/
namespace Go.Proofs.YtfjnplhhgdfepaaGreatDoor
open Go.RowKit

theorem parts_part {P ds : List Int} {k x : Int} (h : P = ds ++ parts k.natAbs) (hk : k ≠ 0) (hx : x = (k.natAbs : Int) % 1000000000) (q : Int) (hq : q.natAbs = k.natAbs / 1000000000) : P = (ds ++ [x]) ++ parts q.natAbs := by
  rw [hq, hx, h, parts_pos k.natAbs (by omega), Int.natCast_emod]; simp
theorem tm_pos {k : Int} (h : 0 ≤ k) : k.tmod 1000000000 = (k.natAbs : Int) % 1000000000 := by
  rw [Int.tmod_eq_emod_of_nonneg h]; omega
theorem tm_neg {k : Int} (h : k < 0) : k.tmod 1000000000 = -((k.natAbs : Int) % 1000000000) := by
  have := Int.neg_tmod (-k) 1000000000
  rw [Int.neg_neg] at this
  rw [this, Int.tmod_eq_emod_of_nonneg (by omega)]
  congr 2; omega
theorem td_abs (k : Int) : (k.tdiv 1000000000).natAbs = k.natAbs / 1000000000 := by
  rw [Int.natAbs_tdiv]; rfl
theorem td_bd {k : Int} (h0 : -9223372036854775808 ≤ k) (h1 : k ≤ 9223372036854775807) : -9223372036854775808 ≤ k.tdiv 1000000000 ∧ k.tdiv 1000000000 ≤ 9223372036854775807 := by
  have := td_abs k
  omega

set_option maxRecDepth 100000 in
set_option maxHeartbeats 2000000 in
theorem refFrom_any (n : Int) (w : World) (h0 : -9223372036854775808 ≤ n) (h1 : n ≤ 9223372036854775807) :
    Calls Tryz.prog 24 #[.int .i64 n] w (RetN n w) := by
  obtain ⟨i0, hi, hz0, hz1, hz2⟩ := info_parts Tryz.info3
  have hmod : n.natAbs ≤ 9223372036854775808 := by omega
  have hl3 := (parts_len n.natAbs 3).2 (Nat.lt_of_le_of_lt hmod (by decide))
  have Hl3 := Lib.hid hl3
  clear hl3 hmod
  generalize hN : parts n.natAbs = P at *
  have HN := Lib.hid hN
  generalize hs : decide (n < 0) = sn at *
  have Hs := Lib.hid hs
  clear hN hs
  go_enter Tryz.func24, Tryz.ntmps24
  go_wp2
  rw [Hs.out]
  go_loopw [0, 4, 5] (fun s v _ wr => ∃ (k : Int) (ds : List Int), s = .int .i64 k ∧ -9223372036854775808 ≤ k ∧ k ≤ 9223372036854775807 ∧ wr.ownsRow (w.heap.size + 1) 3 1 v ds.length (ds.map (Value.int .i64)) ∧ P = ds ++ parts k.natAbs ∧ Below (w.heap.size + 1) (w.alloc (.cells #[.bool false, .slice none 0 0] 24)) wr) (fun s _ _ _ => (intOf s).natAbs)
  case atStart => exact ⟨n, [], rfl, h0, h1, ⟨rfl, .inl ⟨rfl, rfl⟩⟩, HN.out.symm, Below.refl _ _⟩
  case round =>
    obtain ⟨k, ds, rfl, hk0, hk1, hown, hpd, hbel⟩ := hrel
    clear h0 h1
    have hdl : ds.length ≤ 3 := by
      have := Hl3.out
      rw [hpd, List.length_append] at this; omega
    have Hpd := Lib.hid hpd
    have hbz := hbel.size
    simp at hbz
    clear hpd
    by_cases hk : k = 0
    · subst hk
      obtain ⟨ao, cap, rfl, hsl⟩ := Sl.of_owns hown
      have hds := Lib.hid (show ds = P by rw [Hpd.out, show (0 : Int).natAbs = 0 from rfl, parts_zero, List.append_nil])
      obtain ⟨f1, f2, f3, f4, f5⟩ := box2 (w := wr) (g := w.heap.size) (by rw [hbel.block _ (by omega)]; exact heap_new w _)
      go_wp2
      refine bodyPost_ret (v := .agg #[.bool sn, .slice ao ds.length cap]) (by simp [results, Tryz.results24, go_sem, f1, f2]) rfl ?_
      refine ⟨ao, ds.length, cap, by rw [Hs.out], ?_, ((((Below.refl _ w).alloc (Nat.le_refl _) _).trans (hbel.mono (by omega))).setCell (Nat.le_refl _) _).setCell (Nat.le_refl _) _⟩
      rw [HN.out, ← hds.out]
      exact hsl.store2 f1 f2 _ _
    · have hqb := td_bd hk0 hk1
      have hqa := td_abs k
      generalize hq : k.tdiv 1000000000 = q at *
      have hqm : q.natAbs < k.natAbs := by rw [hqa]; omega
      obtain ⟨x, hxe⟩ : ∃ x : Int, (k.natAbs : Int) % 1000000000 = x := ⟨_, rfl⟩
      have hx0 : 0 ≤ x := by omega
      have hx1 : x < 1000000000 := by omega
      have hstep := Lib.hid (parts_part Hpd.out hk hxe.symm q hqa)
      have HQ := Lib.hid hq
      rcases Int.lt_or_le k 0 with hn | hn
      · have ht := tm_neg hn
        rw [hxe] at ht
        clear hxe hqa
        rcases (show x = 0 ∨ 0 < x by omega) with hz | hz
        · subst hz
          go_wp2_with (at_builtin; refine wpList_append_own _ rfl _ _ 22 rfl (w.heap.size + 1) 3 i0 (.int .i64 0) 1 8 Tryz.underlying22 hi hz0 hz1 hz2 rfl (by decide) _ _ _ rfl (hown.alloc _) ⟨wr.heap.size, 0, none⟩ 1 1 [.int .i64 0] rfl ?qc1 ?qc2 ?qc3 ?qc4 ?qc5 ?qc6 ?_)
          case qc1 => rfl
          case qc2 => exact cell_one_new _ _ _
          case qc3 => exact ints_oneCell .i64 [0]
          case qc4 => unfold maxLen; omega
          case qc5 => omega
          case qc6 => simp; omega
          intro v' w1 hown' hgrow _
          go_wp2
          go_roundw
          case rel =>
            refine ⟨q, ds ++ [0], by first | rfl | exact congrArg (Value.int .i64) (by first | assumption | (symm; assumption) | rfl), hqb.1, hqb.2, ?_, hstep.out, (hbel.alloc (by omega) _).grown hgrow (by simp; omega) ?_⟩
            · rw [List.length_append, List.map_append]; exact hown'
            · intro i hi
              rcases hown.2 with ⟨rfl, _⟩ | ⟨g, cap, cur, rfl, hge, _⟩
              · simp [Value.ownBlock] at hi
              · simp [Value.ownBlock] at hi; omega
          case measure => simp [intOf]; omega
        · skip
          go_wp2_with (at_builtin; refine wpList_append_own _ rfl _ _ 22 rfl (w.heap.size + 1) 3 i0 (.int .i64 0) 1 8 Tryz.underlying22 hi hz0 hz1 hz2 rfl (by decide) _ _ _ rfl (hown.alloc _) ⟨wr.heap.size, 0, none⟩ 1 1 [.int .i64 x] rfl ?qc1 ?qc2 ?qc3 ?qc4 ?qc5 ?qc6 ?_)
          case qc1 => rfl
          case qc2 => exact cell_one_new _ _ _
          case qc3 => exact ints_oneCell .i64 [x]
          case qc4 => unfold maxLen; omega
          case qc5 => omega
          case qc6 => simp; omega
          intro v' w1 hown' hgrow _
          go_wp2
          go_roundw
          case rel =>
            refine ⟨q, ds ++ [x], by first | rfl | exact congrArg (Value.int .i64) (by first | assumption | (symm; assumption) | rfl), hqb.1, hqb.2, ?_, hstep.out, (hbel.alloc (by omega) _).grown hgrow (by simp; omega) ?_⟩
            · rw [List.length_append, List.map_append]; exact hown'
            · intro i hi
              rcases hown.2 with ⟨rfl, _⟩ | ⟨g, cap, cur, rfl, hge, _⟩
              · simp [Value.ownBlock] at hi
              · simp [Value.ownBlock] at hi; omega
          case measure => simp [intOf]; omega
      · have ht := tm_pos hn
        rw [hxe] at ht
        clear hxe hqa
        go_wp2_with (at_builtin; refine wpList_append_own _ rfl _ _ 22 rfl (w.heap.size + 1) 3 i0 (.int .i64 0) 1 8 Tryz.underlying22 hi hz0 hz1 hz2 rfl (by decide) _ _ _ rfl (hown.alloc _) ⟨wr.heap.size, 0, none⟩ 1 1 [.int .i64 x] rfl ?qc1 ?qc2 ?qc3 ?qc4 ?qc5 ?qc6 ?_)
        case qc1 => rfl
        case qc2 => exact cell_one_new _ _ _
        case qc3 => exact ints_oneCell .i64 [x]
        case qc4 => unfold maxLen; omega
        case qc5 => omega
        case qc6 => simp; omega
        intro v' w1 hown' hgrow _
        go_wp2
        go_roundw
        case rel =>
          refine ⟨q, ds ++ [x], by first | rfl | exact congrArg (Value.int .i64) (by first | assumption | (symm; assumption) | rfl), hqb.1, hqb.2, ?_, hstep.out, (hbel.alloc (by omega) _).grown hgrow (by simp; omega) ?_⟩
          · rw [List.length_append, List.map_append]; exact hown'
          · intro i hi
            rcases hown.2 with ⟨rfl, _⟩ | ⟨g, cap, cur, rfl, hge, _⟩
            · simp [Value.ownBlock] at hi
            · simp [Value.ownBlock] at hi; omega
        case measure => simp [intOf]; omega
end Go.Proofs.YtfjnplhhgdfepaaGreatDoor

/- The reference's ToInt. -/
namespace Go.Proofs.YtfjnplhhgdfepaaGreatDoor
open Go.RowKit

theorem val_at {xs : List Int} {k : Nat} (h : k < xs.length) : val (xs.drop k) = xs.getD k 0 + 1000000000 * val (xs.drop (k + 1)) := by
  rw [List.drop_eq_getElem_cons h]
  simp [val, List.getD_eq_getElem?_getD, h]
theorem drop_le : ∀ {xs : List Int} (_ : Dig xs) (k : Nat), val (xs.drop k) ≤ val xs
  | [], _, _ => by simp
  | _ :: _, _, 0 => by simp
  | x :: xs, dx, k + 1 => by
    have dr : Dig xs := fun y hy => dx y (List.mem_cons_of_mem _ hy)
    have h1 := drop_le dr k
    have h2 := dx x List.mem_cons_self
    have h3 := val_nonneg dr
    simp only [List.drop_succ_cons, val]
    omega

set_option maxRecDepth 100000 in
set_option maxHeartbeats 2000000 in
theorem refToInt_bad (neg : Bool) (ao : Option Addr) (len cap : Nat) (xs : List Int) (w : World) (hs : Sl w ao len cap xs) (ho : okInt neg xs = false) :
    Calls Tryz.prog 19 #[.agg #[.bool neg, .slice ao len cap]] w fun e w' => e = .returned (.tuple #[.int .i64 0, .int .i64 10]) ∧ Below w.heap.size w w' := by
  have hI := fun w h => is_any neg ao len cap xs w h
  rw [ho] at hI
  have HI := Lib.hid hI
  clear hI ho
  have hb0 := (Below.refl w.heap.size w).alloc (Nat.le_refl _) (.cells #[.bool neg, .slice ao len cap] 24)
  go_enter Tryz.func19, Tryz.ntmps19
  go_wp2_with fail
  refine (HI.out _ (hs.alloc _)).mono ?_
  rintro e w1 ⟨rfl, b1⟩
  replace hb0 := hb0.trans (b1.mono hb0.size)
  go_wp2
  refine bodyPost_ret (v := .tuple #[.int .i64 0, .int .i64 10]) (by simp [results, Tryz.results19, go_sem]) rfl ?_
  exact ⟨rfl, hb0⟩

set_option maxRecDepth 100000 in
set_option maxHeartbeats 4000000 in
theorem refToInt_big (z : Int) (hl : Lim z) (hz : z < -9223372036854775808 ∨ 9223372036854775807 < z) (ao : Option Addr) (len cap : Nat) (w : World) (hs : Sl w ao len cap (parts z.natAbs)) :
    Calls Tryz.prog 19 #[.agg #[.bool (decide (z < 0)), .slice ao len cap]] w fun e w' => e = .returned (.tuple #[.int .i64 0, .int .i64 2]) ∧ Below w.heap.size w w' := by
  have hok : okInt (decide (z < 0)) (parts z.natAbs) = true := (okInt_iff _ _).2 ⟨z, hl, rfl, rfl⟩
  have hI := fun w h => is_any (decide (z < 0)) ao len cap (parts z.natAbs) w h
  rw [hok] at hI
  have hlen : len ≤ 40 := by have := hs.length; unfold Lim at hl; omega
  have hC1 : ∀ al ll cl w, Sl w ao len cap (parts z.natAbs) → Sl w al ll cl (parts (-9223372036854775808 : Int).natAbs) → Calls Tryz.prog 39 #[.agg #[.bool (decide (z < 0)), .slice ao len cap], .agg #[.bool true, .slice al ll cl]] w (RetB (cmp3 z (-9223372036854775808)) w) := fun al ll cl w hx hy => by
    have h := refCompare_any (decide (z < 0)) ao len cap (parts z.natAbs) (decide ((-9223372036854775808 : Int) < 0)) al ll cl (parts (-9223372036854775808 : Int).natAbs) w hx hy
    rw [cmpI_num] at h; exact h
  have hC2 : ∀ al ll cl w, Sl w ao len cap (parts z.natAbs) → Sl w al ll cl (parts (9223372036854775807 : Int).natAbs) → Calls Tryz.prog 39 #[.agg #[.bool (decide (z < 0)), .slice ao len cap], .agg #[.bool false, .slice al ll cl]] w (RetB (cmp3 z 9223372036854775807) w) := fun al ll cl w hx hy => by
    have h := refCompare_any (decide (z < 0)) ao len cap (parts z.natAbs) (decide ((9223372036854775807 : Int) < 0)) al ll cl (parts (9223372036854775807 : Int).natAbs) w hx hy
    rw [cmpI_num] at h; exact h
  have hF1 := fun w => refFrom_any (-9223372036854775808) w (by omega) (by omega)
  have hF2 := fun w => refFrom_any 9223372036854775807 w (by omega) (by omega)
  rcases hz with hz | hz
  · rw [cmp3_lt hz] at hC1
    generalize hn : decide (z < 0) = n at *
    clear hn hz hl
    have HI := Lib.hid hI; have HC1 := Lib.hid hC1; have HC2 := Lib.hid hC2; have HF1 := Lib.hid hF1; have HF2 := Lib.hid hF2
    clear hI hC1 hC2 hF1 hF2 hok
    have U0 := Below.refl w.heap.size w
    go_enter Tryz.func19, Tryz.ntmps19
    go_wp2_with fail
    replace U0 := U0.alloc U0.size (.cells #[.bool n, .slice ao len cap] 24)
    replace hs := hs.alloc (.cells #[.bool n, .slice ao len cap] 24)
    have Ta := BoxI.new w (w.heap.size) (by first | rfl | simp) n ao len cap
    have cTa0 := Ta.cells.1; have cTa1 := Ta.cells.2; have zTa := Ta.lt
    refine (HI.out _ hs).mono ?_
    rintro e w1 ⟨rfl, b1⟩
    replace U0 := U0.trans (b1.mono U0.size); replace Ta := Ta.below b1; replace hs := hs.below b1
    replace cTa0 := Ta.cells.1; replace cTa1 := Ta.cells.2; replace zTa := Ta.lt
    clear b1
    go_wp2_with fail
    refine (HF1.out _).mono ?_
    rintro e w2 ⟨al, ll, cl, rfl, sl, b1⟩
    replace U0 := U0.trans (b1.mono U0.size); replace Ta := Ta.below b1; replace hs := hs.below b1
    replace cTa0 := Ta.cells.1; replace cTa1 := Ta.cells.2; replace zTa := Ta.lt
    clear b1
    go_wp2_with fail
    replace U0 := U0.alloc U0.size (.cells #[.bool true, .slice al ll cl] 24); replace Ta := Ta.alloc (.cells #[.bool true, .slice al ll cl] 24); replace hs := hs.alloc (.cells #[.bool true, .slice al ll cl] 24); replace sl := sl.alloc (.cells #[.bool true, .slice al ll cl] 24)
    replace cTa0 := Ta.cells.1; replace cTa1 := Ta.cells.2; replace zTa := Ta.lt
    have Tl := BoxI.new w2 (w2.heap.size) (by first | rfl | simp) true al ll cl
    have cTl0 := Tl.cells.1; have cTl1 := Tl.cells.2; have zTl := Tl.lt
    refine (HF2.out _).mono ?_
    rintro e w3 ⟨am, lm, cm, rfl, sm, b1⟩
    replace U0 := U0.trans (b1.mono U0.size); replace Ta := Ta.below b1; replace Tl := Tl.below b1; replace hs := hs.below b1; replace sl := sl.below b1
    replace cTa0 := Ta.cells.1; replace cTa1 := Ta.cells.2; replace zTa := Ta.lt; replace cTl0 := Tl.cells.1; replace cTl1 := Tl.cells.2; replace zTl := Tl.lt
    clear b1
    go_wp2_with fail
    replace U0 := U0.alloc U0.size (.cells #[.bool false, .slice am lm cm] 24); replace Ta := Ta.alloc (.cells #[.bool false, .slice am lm cm] 24); replace Tl := Tl.alloc (.cells #[.bool false, .slice am lm cm] 24); replace hs := hs.alloc (.cells #[.bool false, .slice am lm cm] 24); replace sl := sl.alloc (.cells #[.bool false, .slice am lm cm] 24); replace sm := sm.alloc (.cells #[.bool false, .slice am lm cm] 24)
    replace cTa0 := Ta.cells.1; replace cTa1 := Ta.cells.2; replace zTa := Ta.lt; replace cTl0 := Tl.cells.1; replace cTl1 := Tl.cells.2; replace zTl := Tl.lt
    have Tm := BoxI.new w3 (w3.heap.size) (by first | rfl | simp) false am lm cm
    have cTm0 := Tm.cells.1; have cTm1 := Tm.cells.2; have zTm := Tm.lt
    refine (HC1.out _ _ _ _ hs sl).mono ?_
    rintro e w4 ⟨rfl, b1⟩
    replace U0 := U0.trans (b1.mono U0.size); replace Ta := Ta.below b1; replace Tl := Tl.below b1; replace Tm := Tm.below b1; replace hs := hs.below b1; replace sl := sl.below b1; replace sm := sm.below b1
    replace cTa0 := Ta.cells.1; replace cTa1 := Ta.cells.2; replace zTa := Ta.lt; replace cTl0 := Tl.cells.1; replace cTl1 := Tl.cells.2; replace zTl := Tl.lt; replace cTm0 := Tm.cells.1; replace cTm1 := Tm.cells.2; replace zTm := Tm.lt
    clear b1
    go_wp2
    refine bodyPost_ret (v := .tuple #[.int .i64 0, .int .i64 2]) (by simp [results, Tryz.results19, go_sem]) rfl ?_
    exact ⟨rfl, U0⟩
  · rw [cmp3_gt (show (-9223372036854775808 : Int) < z by omega)] at hC1
    rw [cmp3_gt hz] at hC2
    generalize hn : decide (z < 0) = n at *
    clear hn hz hl
    have HI := Lib.hid hI; have HC1 := Lib.hid hC1; have HC2 := Lib.hid hC2; have HF1 := Lib.hid hF1; have HF2 := Lib.hid hF2
    clear hI hC1 hC2 hF1 hF2 hok
    have U0 := Below.refl w.heap.size w
    go_enter Tryz.func19, Tryz.ntmps19
    go_wp2_with fail
    replace U0 := U0.alloc U0.size (.cells #[.bool n, .slice ao len cap] 24)
    replace hs := hs.alloc (.cells #[.bool n, .slice ao len cap] 24)
    have Ta := BoxI.new w (w.heap.size) (by first | rfl | simp) n ao len cap
    have cTa0 := Ta.cells.1; have cTa1 := Ta.cells.2; have zTa := Ta.lt
    refine (HI.out _ hs).mono ?_
    rintro e w1 ⟨rfl, b1⟩
    replace U0 := U0.trans (b1.mono U0.size); replace Ta := Ta.below b1; replace hs := hs.below b1
    replace cTa0 := Ta.cells.1; replace cTa1 := Ta.cells.2; replace zTa := Ta.lt
    clear b1
    go_wp2_with fail
    refine (HF1.out _).mono ?_
    rintro e w2 ⟨al, ll, cl, rfl, sl, b1⟩
    replace U0 := U0.trans (b1.mono U0.size); replace Ta := Ta.below b1; replace hs := hs.below b1
    replace cTa0 := Ta.cells.1; replace cTa1 := Ta.cells.2; replace zTa := Ta.lt
    clear b1
    go_wp2_with fail
    replace U0 := U0.alloc U0.size (.cells #[.bool true, .slice al ll cl] 24); replace Ta := Ta.alloc (.cells #[.bool true, .slice al ll cl] 24); replace hs := hs.alloc (.cells #[.bool true, .slice al ll cl] 24); replace sl := sl.alloc (.cells #[.bool true, .slice al ll cl] 24)
    replace cTa0 := Ta.cells.1; replace cTa1 := Ta.cells.2; replace zTa := Ta.lt
    have Tl := BoxI.new w2 (w2.heap.size) (by first | rfl | simp) true al ll cl
    have cTl0 := Tl.cells.1; have cTl1 := Tl.cells.2; have zTl := Tl.lt
    refine (HF2.out _).mono ?_
    rintro e w3 ⟨am, lm, cm, rfl, sm, b1⟩
    replace U0 := U0.trans (b1.mono U0.size); replace Ta := Ta.below b1; replace Tl := Tl.below b1; replace hs := hs.below b1; replace sl := sl.below b1
    replace cTa0 := Ta.cells.1; replace cTa1 := Ta.cells.2; replace zTa := Ta.lt; replace cTl0 := Tl.cells.1; replace cTl1 := Tl.cells.2; replace zTl := Tl.lt
    clear b1
    go_wp2_with fail
    replace U0 := U0.alloc U0.size (.cells #[.bool false, .slice am lm cm] 24); replace Ta := Ta.alloc (.cells #[.bool false, .slice am lm cm] 24); replace Tl := Tl.alloc (.cells #[.bool false, .slice am lm cm] 24); replace hs := hs.alloc (.cells #[.bool false, .slice am lm cm] 24); replace sl := sl.alloc (.cells #[.bool false, .slice am lm cm] 24); replace sm := sm.alloc (.cells #[.bool false, .slice am lm cm] 24)
    replace cTa0 := Ta.cells.1; replace cTa1 := Ta.cells.2; replace zTa := Ta.lt; replace cTl0 := Tl.cells.1; replace cTl1 := Tl.cells.2; replace zTl := Tl.lt
    have Tm := BoxI.new w3 (w3.heap.size) (by first | rfl | simp) false am lm cm
    have cTm0 := Tm.cells.1; have cTm1 := Tm.cells.2; have zTm := Tm.lt
    refine (HC1.out _ _ _ _ hs sl).mono ?_
    rintro e w4 ⟨rfl, b1⟩
    replace U0 := U0.trans (b1.mono U0.size); replace Ta := Ta.below b1; replace Tl := Tl.below b1; replace Tm := Tm.below b1; replace hs := hs.below b1; replace sl := sl.below b1; replace sm := sm.below b1
    replace cTa0 := Ta.cells.1; replace cTa1 := Ta.cells.2; replace zTa := Ta.lt; replace cTl0 := Tl.cells.1; replace cTl1 := Tl.cells.2; replace zTl := Tl.lt; replace cTm0 := Tm.cells.1; replace cTm1 := Tm.cells.2; replace zTm := Tm.lt
    clear b1
    go_wp2_with fail
    refine (HC2.out _ _ _ _ hs sm).mono ?_
    rintro e w5 ⟨rfl, b1⟩
    replace U0 := U0.trans (b1.mono U0.size); replace Ta := Ta.below b1; replace Tl := Tl.below b1; replace Tm := Tm.below b1; replace hs := hs.below b1; replace sl := sl.below b1; replace sm := sm.below b1
    replace cTa0 := Ta.cells.1; replace cTa1 := Ta.cells.2; replace zTa := Ta.lt; replace cTl0 := Tl.cells.1; replace cTl1 := Tl.cells.2; replace zTl := Tl.lt; replace cTm0 := Tm.cells.1; replace cTm1 := Tm.cells.2; replace zTm := Tm.lt
    clear b1
    go_wp2
    refine bodyPost_ret (v := .tuple #[.int .i64 0, .int .i64 2]) (by simp [results, Tryz.results19, go_sem]) rfl ?_
    exact ⟨rfl, U0⟩

set_option maxRecDepth 100000 in
set_option maxHeartbeats 4000000 in
theorem refToInt_fits (z : Int) (hl : Lim z) (hz0 : -9223372036854775808 ≤ z) (hz1 : z ≤ 9223372036854775807) (ao : Option Addr) (len cap : Nat) (w : World) (hs : Sl w ao len cap (parts z.natAbs)) :
    Calls Tryz.prog 19 #[.agg #[.bool (decide (z < 0)), .slice ao len cap]] w fun e w' => e = .returned (.tuple #[.int .i64 z, .int .i64 0]) ∧ Below w.heap.size w w' := by
  have hok : okInt (decide (z < 0)) (parts z.natAbs) = true := (okInt_iff _ _).2 ⟨z, hl, rfl, rfl⟩
  have hI := fun w h => is_any (decide (z < 0)) ao len cap (parts z.natAbs) w h
  rw [hok] at hI
  have hlen : len ≤ 40 := by have := hs.length; unfold Lim at hl; omega
  have hC1 : ∀ al ll cl w, Sl w ao len cap (parts z.natAbs) → Sl w al ll cl (parts (-9223372036854775808 : Int).natAbs) → Calls Tryz.prog 39 #[.agg #[.bool (decide (z < 0)), .slice ao len cap], .agg #[.bool true, .slice al ll cl]] w (RetB (cmp3 z (-9223372036854775808)) w) := fun al ll cl w hx hy => by
    have h := refCompare_any (decide (z < 0)) ao len cap (parts z.natAbs) (decide ((-9223372036854775808 : Int) < 0)) al ll cl (parts (-9223372036854775808 : Int).natAbs) w hx hy
    rw [cmpI_num] at h; exact h
  have hC2 : ∀ al ll cl w, Sl w ao len cap (parts z.natAbs) → Sl w al ll cl (parts (9223372036854775807 : Int).natAbs) → Calls Tryz.prog 39 #[.agg #[.bool (decide (z < 0)), .slice ao len cap], .agg #[.bool false, .slice al ll cl]] w (RetB (cmp3 z 9223372036854775807) w) := fun al ll cl w hx hy => by
    have h := refCompare_any (decide (z < 0)) ao len cap (parts z.natAbs) (decide ((9223372036854775807 : Int) < 0)) al ll cl (parts (9223372036854775807 : Int).natAbs) w hx hy
    rw [cmpI_num] at h; exact h
  have hF1 := fun w => refFrom_any (-9223372036854775808) w (by omega) (by omega)
  have hF2 := fun w => refFrom_any 9223372036854775807 w (by omega) (by omega)
  have hv1 : ¬ cmp3 z (-9223372036854775808) < 0 := by unfold cmp3; split <;> (try split) <;> omega
  have hv2 : ¬ 0 < cmp3 z 9223372036854775807 := by unfold cmp3; split <;> (try split) <;> omega
  generalize cmp3 z (-9223372036854775808) = v1 at *
  generalize cmp3 z 9223372036854775807 = v2 at *
  have dx := parts_dig z.natAbs
  have hle := fun k => drop_le dx k
  rw [val_parts] at hle
  have hge := fun k => val_nonneg (dx.drop k)
  have hat := fun k (h : k < (parts z.natAbs).length) => val_at h
  have hv0 := val_parts z.natAbs
  have hend : val ((parts z.natAbs).drop (parts z.natAbs).length) = 0 := by simp [val]
  have hll := hs.length
  have Hz : Hid (z = if z < 0 then -(z.natAbs : Int) else (z.natAbs : Int)) := Lib.hid (by split <;> omega)
  have HB : Hid (if z < 0 then (z.natAbs : Int) ≤ 9223372036854775808 else (z.natAbs : Int) ≤ 9223372036854775807) := Lib.hid (by split <;> omega)
  by_cases hn : z < 0
  · have hnn : decide (z < 0) = true := by simpa using hn
    have Hz2 := Hz.out; have HB2 := HB.out
    rw [if_pos hn] at Hz2 HB2
    generalize hne : decide (z < 0) = n at *
    have Hn := Lib.hid hnn; have Hz3 := Lib.hid Hz2; have HB3 := Lib.hid HB2; have Hle := Lib.hid hle; have Hge := Lib.hid hge; have Hat := Lib.hid hat; have Hv0 := Lib.hid hv0; have Hend := Lib.hid hend; have Hll := Lib.hid hll; have Hdx := Lib.hid dx
    clear hn hnn hne Hz2 HB2 hle hge hat hv0 hend hll dx Hz HB hz0 hz1 hl
    generalize parts z.natAbs = xs at *
    generalize z.natAbs = N at *
    have HI := Lib.hid hI; have HC1 := Lib.hid hC1; have HC2 := Lib.hid hC2; have HF1 := Lib.hid hF1; have HF2 := Lib.hid hF2
    clear hI hC1 hC2 hF1 hF2 hok
    have U0 := Below.refl w.heap.size w
    go_enter Tryz.func19, Tryz.ntmps19
    go_wp2_with fail
    replace U0 := U0.alloc U0.size (.cells #[.bool n, .slice ao len cap] 24)
    replace hs := hs.alloc (.cells #[.bool n, .slice ao len cap] 24)
    have Ta := BoxI.new w (w.heap.size) (by first | rfl | simp) n ao len cap
    have cTa0 := Ta.cells.1; have cTa1 := Ta.cells.2; have zTa := Ta.lt
    refine (HI.out _ hs).mono ?_
    rintro e w1 ⟨rfl, b1⟩
    replace U0 := U0.trans (b1.mono U0.size); replace Ta := Ta.below b1; replace hs := hs.below b1
    replace cTa0 := Ta.cells.1; replace cTa1 := Ta.cells.2; replace zTa := Ta.lt
    clear b1
    go_wp2_with fail
    refine (HF1.out _).mono ?_
    rintro e w2 ⟨al, ll, cl, rfl, sl, b1⟩
    replace U0 := U0.trans (b1.mono U0.size); replace Ta := Ta.below b1; replace hs := hs.below b1
    replace cTa0 := Ta.cells.1; replace cTa1 := Ta.cells.2; replace zTa := Ta.lt
    clear b1
    go_wp2_with fail
    replace U0 := U0.alloc U0.size (.cells #[.bool true, .slice al ll cl] 24); replace Ta := Ta.alloc (.cells #[.bool true, .slice al ll cl] 24); replace hs := hs.alloc (.cells #[.bool true, .slice al ll cl] 24); replace sl := sl.alloc (.cells #[.bool true, .slice al ll cl] 24)
    replace cTa0 := Ta.cells.1; replace cTa1 := Ta.cells.2; replace zTa := Ta.lt
    have Tl := BoxI.new w2 (w2.heap.size) (by first | rfl | simp) true al ll cl
    have cTl0 := Tl.cells.1; have cTl1 := Tl.cells.2; have zTl := Tl.lt
    refine (HF2.out _).mono ?_
    rintro e w3 ⟨am, lm, cm, rfl, sm, b1⟩
    replace U0 := U0.trans (b1.mono U0.size); replace Ta := Ta.below b1; replace Tl := Tl.below b1; replace hs := hs.below b1; replace sl := sl.below b1
    replace cTa0 := Ta.cells.1; replace cTa1 := Ta.cells.2; replace zTa := Ta.lt; replace cTl0 := Tl.cells.1; replace cTl1 := Tl.cells.2; replace zTl := Tl.lt
    clear b1
    go_wp2_with fail
    replace U0 := U0.alloc U0.size (.cells #[.bool false, .slice am lm cm] 24); replace Ta := Ta.alloc (.cells #[.bool false, .slice am lm cm] 24); replace Tl := Tl.alloc (.cells #[.bool false, .slice am lm cm] 24); replace hs := hs.alloc (.cells #[.bool false, .slice am lm cm] 24); replace sl := sl.alloc (.cells #[.bool false, .slice am lm cm] 24); replace sm := sm.alloc (.cells #[.bool false, .slice am lm cm] 24)
    replace cTa0 := Ta.cells.1; replace cTa1 := Ta.cells.2; replace zTa := Ta.lt; replace cTl0 := Tl.cells.1; replace cTl1 := Tl.cells.2; replace zTl := Tl.lt
    have Tm := BoxI.new w3 (w3.heap.size) (by first | rfl | simp) false am lm cm
    have cTm0 := Tm.cells.1; have cTm1 := Tm.cells.2; have zTm := Tm.lt
    refine (HC1.out _ _ _ _ hs sl).mono ?_
    rintro e w4 ⟨rfl, b1⟩
    replace U0 := U0.trans (b1.mono U0.size); replace Ta := Ta.below b1; replace Tl := Tl.below b1; replace Tm := Tm.below b1; replace hs := hs.below b1; replace sl := sl.below b1; replace sm := sm.below b1
    replace cTa0 := Ta.cells.1; replace cTa1 := Ta.cells.2; replace zTa := Ta.lt; replace cTl0 := Tl.cells.1; replace cTl1 := Tl.cells.2; replace zTl := Tl.lt; replace cTm0 := Tm.cells.1; replace cTm1 := Tm.cells.2; replace zTm := Tm.lt
    clear b1
    go_wp2_with fail
    refine (HC2.out _ _ _ _ hs sm).mono ?_
    rintro e w5 ⟨rfl, b1⟩
    replace U0 := U0.trans (b1.mono U0.size); replace Ta := Ta.below b1; replace Tl := Tl.below b1; replace Tm := Tm.below b1; replace hs := hs.below b1; replace sl := sl.below b1; replace sm := sm.below b1
    replace cTa0 := Ta.cells.1; replace cTa1 := Ta.cells.2; replace zTa := Ta.lt; replace cTl0 := Tl.cells.1; replace cTl1 := Tl.cells.2; replace zTl := Tl.lt; replace cTm0 := Tm.cells.1; replace cTm1 := Tm.cells.2; replace zTm := Tm.lt
    clear b1
    obtain rfl := Hn.out
    go_wp2_with fail
    clear hv1 hv2
    go_loopw [7, 8] (fun n i wr => wr = w5 ∧ ∃ (k : Nat) (iv : Int), k ≤ len ∧ i = .int .i64 iv ∧ iv = (k : Int) - 1 ∧ n = .int .i64 (-(val (xs.drop k)))) (fun _ i _ => (intOf i + 1).toNat)
    case atStart => exact ⟨rfl, len, _, Nat.le_refl _, rfl, by omega, by rw [← Hll.out, Hend.out]; (try rfl)⟩
    case round =>
      obtain ⟨rfl, k, iv, hk, rfl, hiv, rfl⟩ := hrel
      rcases Nat.eq_zero_or_pos k with h0 | h0
      · subst h0
        obtain rfl : iv = -1 := by omega
        clear hiv
        have hzz : -(val (xs.drop 0)) = z := by rw [List.drop_zero, Hv0.out]; exact Hz3.out.symm
        generalize -(val (xs.drop 0)) = q at *
        subst hzz
        go_wp2
        refine bodyPost_ret (v := .tuple #[.int .i64 q, .int .i64 0]) (by simp [results, Tryz.results19, go_sem]) rfl ?_
        exact ⟨rfl, U0⟩
      · obtain ⟨k, rfl⟩ : ∃ j, k = j + 1 := ⟨k - 1, by omega⟩
        obtain rfl : iv = (k : Int) := by omega
        clear hiv
        obtain ⟨b, ob, rfl, hc⟩ := hs.at (by omega)
        have hck := hc k (by omega)
        have hxd := Hdx.out.getD k
        have h1 := Hat.out k (by rw [Hll.out]; omega)
        have h2 := Hle.out k; have h3 := Hge.out (k + 1); have h4 := HB3.out; have h5 := Hge.out k
        have Hst := Lib.hid h1
        generalize xs.getD k 0 = x at *
        generalize val (xs.drop (k + 1)) = v at *
        generalize hvk : val (xs.drop k) = u at *
        have Hu := Lib.hid hvk
        have h1a : x + 1000000000 * v ≤ u := by omega
        have h1b : u ≤ x + 1000000000 * v := by omega
        clear hc hvk h1
        go_wp2
        go_roundw
        case rel => exact ⟨trivial, k, _, by omega, rfl, by omega, congrArg (Value.int .i64) (by rw [Hu.out]; have := Hst.out; omega)⟩
        case measure => simp [intOf]
  · have hnn : decide (z < 0) = false := by simpa using hn
    have Hz2 := Hz.out; have HB2 := HB.out
    rw [if_neg hn] at Hz2 HB2
    generalize hne : decide (z < 0) = n at *
    have Hn := Lib.hid hnn; have Hz3 := Lib.hid Hz2; have HB3 := Lib.hid HB2; have Hle := Lib.hid hle; have Hge := Lib.hid hge; have Hat := Lib.hid hat; have Hv0 := Lib.hid hv0; have Hend := Lib.hid hend; have Hll := Lib.hid hll; have Hdx := Lib.hid dx
    clear hn hnn hne Hz2 HB2 hle hge hat hv0 hend hll dx Hz HB hz0 hz1 hl
    generalize parts z.natAbs = xs at *
    generalize z.natAbs = N at *
    have HI := Lib.hid hI; have HC1 := Lib.hid hC1; have HC2 := Lib.hid hC2; have HF1 := Lib.hid hF1; have HF2 := Lib.hid hF2
    clear hI hC1 hC2 hF1 hF2 hok
    have U0 := Below.refl w.heap.size w
    go_enter Tryz.func19, Tryz.ntmps19
    go_wp2_with fail
    replace U0 := U0.alloc U0.size (.cells #[.bool n, .slice ao len cap] 24)
    replace hs := hs.alloc (.cells #[.bool n, .slice ao len cap] 24)
    have Ta := BoxI.new w (w.heap.size) (by first | rfl | simp) n ao len cap
    have cTa0 := Ta.cells.1; have cTa1 := Ta.cells.2; have zTa := Ta.lt
    refine (HI.out _ hs).mono ?_
    rintro e w1 ⟨rfl, b1⟩
    replace U0 := U0.trans (b1.mono U0.size); replace Ta := Ta.below b1; replace hs := hs.below b1
    replace cTa0 := Ta.cells.1; replace cTa1 := Ta.cells.2; replace zTa := Ta.lt
    clear b1
    go_wp2_with fail
    refine (HF1.out _).mono ?_
    rintro e w2 ⟨al, ll, cl, rfl, sl, b1⟩
    replace U0 := U0.trans (b1.mono U0.size); replace Ta := Ta.below b1; replace hs := hs.below b1
    replace cTa0 := Ta.cells.1; replace cTa1 := Ta.cells.2; replace zTa := Ta.lt
    clear b1
    go_wp2_with fail
    replace U0 := U0.alloc U0.size (.cells #[.bool true, .slice al ll cl] 24); replace Ta := Ta.alloc (.cells #[.bool true, .slice al ll cl] 24); replace hs := hs.alloc (.cells #[.bool true, .slice al ll cl] 24); replace sl := sl.alloc (.cells #[.bool true, .slice al ll cl] 24)
    replace cTa0 := Ta.cells.1; replace cTa1 := Ta.cells.2; replace zTa := Ta.lt
    have Tl := BoxI.new w2 (w2.heap.size) (by first | rfl | simp) true al ll cl
    have cTl0 := Tl.cells.1; have cTl1 := Tl.cells.2; have zTl := Tl.lt
    refine (HF2.out _).mono ?_
    rintro e w3 ⟨am, lm, cm, rfl, sm, b1⟩
    replace U0 := U0.trans (b1.mono U0.size); replace Ta := Ta.below b1; replace Tl := Tl.below b1; replace hs := hs.below b1; replace sl := sl.below b1
    replace cTa0 := Ta.cells.1; replace cTa1 := Ta.cells.2; replace zTa := Ta.lt; replace cTl0 := Tl.cells.1; replace cTl1 := Tl.cells.2; replace zTl := Tl.lt
    clear b1
    go_wp2_with fail
    replace U0 := U0.alloc U0.size (.cells #[.bool false, .slice am lm cm] 24); replace Ta := Ta.alloc (.cells #[.bool false, .slice am lm cm] 24); replace Tl := Tl.alloc (.cells #[.bool false, .slice am lm cm] 24); replace hs := hs.alloc (.cells #[.bool false, .slice am lm cm] 24); replace sl := sl.alloc (.cells #[.bool false, .slice am lm cm] 24); replace sm := sm.alloc (.cells #[.bool false, .slice am lm cm] 24)
    replace cTa0 := Ta.cells.1; replace cTa1 := Ta.cells.2; replace zTa := Ta.lt; replace cTl0 := Tl.cells.1; replace cTl1 := Tl.cells.2; replace zTl := Tl.lt
    have Tm := BoxI.new w3 (w3.heap.size) (by first | rfl | simp) false am lm cm
    have cTm0 := Tm.cells.1; have cTm1 := Tm.cells.2; have zTm := Tm.lt
    refine (HC1.out _ _ _ _ hs sl).mono ?_
    rintro e w4 ⟨rfl, b1⟩
    replace U0 := U0.trans (b1.mono U0.size); replace Ta := Ta.below b1; replace Tl := Tl.below b1; replace Tm := Tm.below b1; replace hs := hs.below b1; replace sl := sl.below b1; replace sm := sm.below b1
    replace cTa0 := Ta.cells.1; replace cTa1 := Ta.cells.2; replace zTa := Ta.lt; replace cTl0 := Tl.cells.1; replace cTl1 := Tl.cells.2; replace zTl := Tl.lt; replace cTm0 := Tm.cells.1; replace cTm1 := Tm.cells.2; replace zTm := Tm.lt
    clear b1
    go_wp2_with fail
    refine (HC2.out _ _ _ _ hs sm).mono ?_
    rintro e w5 ⟨rfl, b1⟩
    replace U0 := U0.trans (b1.mono U0.size); replace Ta := Ta.below b1; replace Tl := Tl.below b1; replace Tm := Tm.below b1; replace hs := hs.below b1; replace sl := sl.below b1; replace sm := sm.below b1
    replace cTa0 := Ta.cells.1; replace cTa1 := Ta.cells.2; replace zTa := Ta.lt; replace cTl0 := Tl.cells.1; replace cTl1 := Tl.cells.2; replace zTl := Tl.lt; replace cTm0 := Tm.cells.1; replace cTm1 := Tm.cells.2; replace zTm := Tm.lt
    clear b1
    obtain rfl := Hn.out
    go_wp2_with fail
    clear hv1 hv2
    go_loopw [7, 8] (fun n i wr => wr = w5 ∧ ∃ (k : Nat) (iv : Int), k ≤ len ∧ i = .int .i64 iv ∧ iv = (k : Int) - 1 ∧ n = .int .i64 ((val (xs.drop k)))) (fun _ i _ => (intOf i + 1).toNat)
    case atStart => exact ⟨rfl, len, _, Nat.le_refl _, rfl, by omega, by rw [← Hll.out, Hend.out]; (try rfl)⟩
    case round =>
      obtain ⟨rfl, k, iv, hk, rfl, hiv, rfl⟩ := hrel
      rcases Nat.eq_zero_or_pos k with h0 | h0
      · subst h0
        obtain rfl : iv = -1 := by omega
        clear hiv
        have hzz : (val (xs.drop 0)) = z := by rw [List.drop_zero, Hv0.out]; exact Hz3.out.symm
        generalize (val (xs.drop 0)) = q at *
        subst hzz
        go_wp2
        refine bodyPost_ret (v := .tuple #[.int .i64 q, .int .i64 0]) (by simp [results, Tryz.results19, go_sem]) rfl ?_
        exact ⟨rfl, U0⟩
      · obtain ⟨k, rfl⟩ : ∃ j, k = j + 1 := ⟨k - 1, by omega⟩
        obtain rfl : iv = (k : Int) := by omega
        clear hiv
        obtain ⟨b, ob, rfl, hc⟩ := hs.at (by omega)
        have hck := hc k (by omega)
        have hxd := Hdx.out.getD k
        have h1 := Hat.out k (by rw [Hll.out]; omega)
        have h2 := Hle.out k; have h3 := Hge.out (k + 1); have h4 := HB3.out; have h5 := Hge.out k
        have Hst := Lib.hid h1
        generalize xs.getD k 0 = x at *
        generalize val (xs.drop (k + 1)) = v at *
        generalize hvk : val (xs.drop k) = u at *
        have Hu := Lib.hid hvk
        have h1a : x + 1000000000 * v ≤ u := by omega
        have h1b : u ≤ x + 1000000000 * v := by omega
        clear hc hvk h1
        go_wp2
        go_roundw
        case rel => exact ⟨trivial, k, _, by omega, rfl, by omega, congrArg (Value.int .i64) (by rw [Hu.out]; have := Hst.out; omega)⟩
        case measure => simp [intOf]
end Go.Proofs.YtfjnplhhgdfepaaGreatDoor

/- The reference's Text. -/
namespace Go.Proofs.YtfjnplhhgdfepaaGreatDoor
open Go.RowKit
open Go.Lib (decDigits)

set_option maxRecDepth 100000 in
set_option maxHeartbeats 2000000 in
theorem refText_bad (neg : Bool) (ao : Option Addr) (len cap : Nat) (xs : List Int) (w : World) (hs : Sl w ao len cap xs) (ho : okInt neg xs = false) :
    Calls Tryz.prog 26 #[.agg #[.bool neg, .slice ao len cap]] w fun e w' => e = .returned (.tuple #[.string ⟨#[]⟩, .int .i64 10]) ∧ Below w.heap.size w w' := by
  have hI := fun w h => is_any neg ao len cap xs w h
  rw [ho] at hI
  have HI := Lib.hid hI
  clear hI ho
  have hb0 := (Below.refl w.heap.size w).alloc (Nat.le_refl _) (.cells #[.bool neg, .slice ao len cap] 24)
  go_enter Tryz.func26, Tryz.ntmps26
  go_wp2_with fail
  refine (HI.out _ (hs.alloc _)).mono ?_
  rintro e w1 ⟨rfl, b1⟩
  replace hb0 := hb0.trans (b1.mono hb0.size)
  go_wp2
  refine bodyPost_ret (v := .tuple #[.string ⟨#[]⟩, .int .i64 10]) (by simp [results, Tryz.results26, go_sem]) rfl ?_
  exact ⟨rfl, hb0⟩

set_option maxRecDepth 100000 in
set_option maxHeartbeats 2000000 in
theorem refText_ok (z : Int) (hl : Lim z) (ao : Option Addr) (len cap : Nat) (w : World) (hs : Sl w ao len cap (parts z.natAbs)) :
    Calls Tryz.prog 26 #[.agg #[.bool (decide (z < 0)), .slice ao len cap]] w fun e w' => e = .returned (.tuple #[.string ⟨(txt z).toArray⟩, .int .i64 0]) ∧ Below w.heap.size w w' := by
  have hok : okInt (decide (z < 0)) (parts z.natAbs) = true := (okInt_iff _ _).2 ⟨z, hl, rfl, rfl⟩
  have hI := fun w h => is_any (decide (z < 0)) ao len cap (parts z.natAbs) w h
  rw [hok] at hI
  have hlen : len ≤ 40 := by have := hs.length; unfold Lim at hl; omega
  have hD := fun w (h : Sl w ao len cap (parts z.natAbs)) => digits_any z.natAbs ao len cap w h (by omega)
  have hdl : (decDigits z.natAbs).length ≤ 360 := dec_fits ((lim_iff z).1 hl)
  have htx := txt_num z
  have HI := Lib.hid hI; have HD := Lib.hid hD; have Hdl := Lib.hid hdl
  clear hI hok hD hdl hl
  generalize decDigits z.natAbs = D at *
  generalize parts z.natAbs = xs at *
  have hb0 := (Below.refl w.heap.size w).alloc (Nat.le_refl _) (.cells #[.bool (decide (z < 0)), .slice ao len cap] 24)
  have Ta := BoxI.new w w.heap.size rfl (decide (z < 0)) ao len cap
  have hs1 := hs.alloc (.cells #[.bool (decide (z < 0)), .slice ao len cap] 24)
  by_cases hz : z < 0
  all_goals
    first
      | rw [if_pos hz] at htx
      | rw [if_neg hz] at htx
  · have hn : decide (z < 0) = true := decide_eq_true hz
    generalize hnn : decide (z < 0) = n at *
    have Hn := Lib.hid hn
    have Htx := Lib.hid htx
    clear hn hnn htx hz
    go_enter Tryz.func26, Tryz.ntmps26
    go_wp2_with fail
    refine (HI.out _ hs1).mono ?_
    rintro e w1 ⟨rfl, b1⟩
    replace hb0 := hb0.trans (b1.mono hb0.size)
    replace Ta := Ta.below b1
    replace hs1 := hs1.below b1
    have c0 := Ta.cells.1; have c1 := Ta.cells.2
    clear b1
    go_wp2_with fail
    refine (HD.out _ hs1).mono ?_
    rintro e w2 ⟨rfl, b1⟩
    replace hb0 := hb0.trans (b1.mono hb0.size)
    replace Ta := Ta.below b1
    replace c0 := Ta.cells.1
    obtain rfl := Hn.out
    have hdl := Hdl.out
    clear b1
    go_wp2
    refine bodyPost_ret (v := .tuple #[.string ⟨(txt z).toArray⟩, .int .i64 0]) (by rw [Htx.out]; simp [results, Tryz.results26, go_sem]; exact ByteArray.ext (by simp)) rfl ?_
    exact ⟨rfl, hb0⟩
  · have hn : decide (z < 0) = false := decide_eq_false hz
    generalize hnn : decide (z < 0) = n at *
    have Hn := Lib.hid hn
    have Htx := Lib.hid htx
    clear hn hnn htx hz
    go_enter Tryz.func26, Tryz.ntmps26
    go_wp2_with fail
    refine (HI.out _ hs1).mono ?_
    rintro e w1 ⟨rfl, b1⟩
    replace hb0 := hb0.trans (b1.mono hb0.size)
    replace Ta := Ta.below b1
    replace hs1 := hs1.below b1
    have c0 := Ta.cells.1; have c1 := Ta.cells.2
    clear b1
    go_wp2_with fail
    refine (HD.out _ hs1).mono ?_
    rintro e w2 ⟨rfl, b1⟩
    replace hb0 := hb0.trans (b1.mono hb0.size)
    replace Ta := Ta.below b1
    replace c0 := Ta.cells.1
    obtain rfl := Hn.out
    clear b1
    go_wp2
    refine bodyPost_ret (v := .tuple #[.string ⟨(txt z).toArray⟩, .int .i64 0]) (by rw [Htx.out]; simp [results, Tryz.results26, go_sem]) rfl ?_
    exact ⟨rfl, hb0⟩
end Go.Proofs.YtfjnplhhgdfepaaGreatDoor

/- The reference's Bytes. -/
namespace Go.Proofs.YtfjnplhhgdfepaaGreatDoor
open Go.RowKit

theorem drop_quads {xs : List Int} {k : Nat} (h : k < xs.length) : (xs.drop k).reverse.flatMap quad = (xs.drop (k + 1)).reverse.flatMap quad ++ quad (xs.getD k 0) := by
  rw [List.drop_eq_getElem_cons h, List.reverse_cons, List.flatMap_append]
  simp [List.getD_eq_getElem?_getD, h]

set_option maxRecDepth 100000 in
set_option maxHeartbeats 2000000 in
theorem refBytes_bad (neg : Bool) (ao : Option Addr) (len cap : Nat) (xs : List Int) (w : World) (hs : Sl w ao len cap xs) (ho : okInt neg xs = false) :
    Calls Tryz.prog 32 #[.agg #[.bool neg, .slice ao len cap]] w fun e w' => e = .returned (.tuple #[.slice none 0 0, .int .i64 10]) ∧ Below w.heap.size w w' := by
  have hI := fun w h => is_any neg ao len cap xs w h
  rw [ho] at hI
  have HI := Lib.hid hI
  clear hI ho
  have hb0 := (Below.refl w.heap.size w).alloc (Nat.le_refl _) (.cells #[.bool neg, .slice ao len cap] 24)
  go_enter Tryz.func32, Tryz.ntmps32
  go_wp2_with fail
  refine (HI.out _ (hs.alloc _)).mono ?_
  rintro e w1 ⟨rfl, b1⟩
  replace hb0 := hb0.trans (b1.mono hb0.size)
  go_wp2
  refine bodyPost_ret (v := .tuple #[.slice none 0 0, .int .i64 10]) (by simp [results, Tryz.results32, go_sem]) rfl ?_
  exact ⟨rfl, hb0⟩

set_option maxRecDepth 100000 in
set_option maxHeartbeats 4000000 in
theorem refBytes_ok (z : Int) (hl : Lim z) (ao : Option Addr) (len cap : Nat) (w : World) (hs : Sl w ao len cap (parts z.natAbs)) :
    Calls Tryz.prog 32 #[.agg #[.bool (decide (z < 0)), .slice ao len cap]] w fun e w' => ∃ ao len cap, e = .returned (.tuple #[.slice ao len cap, .int .i64 0]) ∧ Sb w' ao len cap (bytesOf z) ∧ Below w.heap.size w w' := by
  have hok : okInt (decide (z < 0)) (parts z.natAbs) = true := (okInt_iff _ _).2 ⟨z, hl, rfl, rfl⟩
  have hI := fun w h => is_any (decide (z < 0)) ao len cap (parts z.natAbs) w h
  rw [hok] at hI
  have hlen : len ≤ 40 := by have := hs.length; unfold Lim at hl; omega
  have dx := parts_dig z.natAbs
  have hby : bytesOf z = ((len : Int) + if decide (z < 0) = true then 128 else 0) :: (parts z.natAbs).reverse.flatMap quad := by
    unfold bytesOf; rw [hs.length]; simp
  have hll := hs.length
  generalize decide (z < 0) = neg at *
  generalize parts z.natAbs = xs at *
  have HI := Lib.hid hI; have Hby := Lib.hid hby; have Hdx := Lib.hid dx; have Hll := Lib.hid hll
  clear hI hok hby dx hll
  obtain ⟨i0, hi, hz0, hz1, hz2⟩ := info_parts Tryz.infoB
  have U0 := Below.refl w.heap.size w
  cases neg
  · go_enter Tryz.func32, Tryz.ntmps32
    go_wp2_with fail
    replace U0 := U0.alloc U0.size (.cells #[.bool false, .slice ao len cap] 24)
    replace hs := hs.alloc (.cells #[.bool false, .slice ao len cap] 24)
    have Ta := BoxI.new w w.heap.size rfl false ao len cap
    refine (HI.out _ hs).mono ?_
    rintro e w1 ⟨rfl, b1⟩
    replace U0 := U0.trans (b1.mono U0.size); replace hs := hs.below b1; replace Ta := Ta.below b1
    have ca0 := Ta.cells.1; have ca1 := Ta.cells.2; have za := Ta.lt
    clear b1
    go_wp2_with fail
    have hrow : (w1.alloc (.cells #[.int .u8 (len : Int)] 5)).ownsRow w1.heap.size 5 1 (.slice (some ⟨w1.heap.size, 0, none⟩) 1 1) (1 + 4 * (len - len)) ([((len : Int) : Int)].map (Value.int .u8)) := by
      rw [Nat.sub_self]
      exact ⟨rfl, .inr ⟨w1.heap.size, 1, #[.int .u8 (len : Int)], rfl, Nat.le_refl _, heap_new _ _, Nat.le_refl _, by unfold maxLen; omega, rfl, rfl⟩⟩
    go_loopw [6, 7, 8] (fun v i _ wr => ∃ (k : Nat) (iv : Int), k ≤ len ∧ i = .int .i64 iv ∧ iv = (k : Int) - 1 ∧ wr.ownsRow w1.heap.size 5 1 v (1 + 4 * (len - k)) (((len : Int) :: (xs.drop k).reverse.flatMap quad).map (Value.int .u8)) ∧ Below w1.heap.size w1 wr) (fun _ i _ _ => (intOf i + 1).toNat)
    case atStart => exact ⟨len, _, Nat.le_refl _, rfl, by omega, by rw [show xs.drop len = [] by rw [← Hll.out]; simp]; exact hrow, (Below.refl _ _).alloc (Nat.le_refl _) _⟩
    case round =>
      clear hrow
      obtain ⟨k, iv, hk, rfl, hiv, hown, hbel⟩ := hrel
      rcases Nat.eq_zero_or_pos k with h0 | h0
      · subst h0
        obtain rfl : iv = -1 := by omega
        clear hiv
        obtain ⟨a2, c2, rfl, hsb⟩ := Sb.of_owns hown
        go_wp2
        refine bodyPost_ret (v := .tuple #[.slice a2 (1 + 4 * (len - 0)) c2, .int .i64 0]) (by simp [results, Tryz.results32, go_sem]) rfl ?_
        exact ⟨_, _, _, rfl, by rw [Hby.out]; simpa using hsb, U0.trans (hbel.mono U0.size)⟩
      · obtain ⟨k, rfl⟩ : ∃ j, k = j + 1 := ⟨k - 1, by omega⟩
        obtain rfl : iv = (k : Int) := by omega
        clear hiv
        have hsx := hs.below hbel
        have Tx := Ta.below hbel
        have cx0 := Tx.cells.1; have cx1 := Tx.cells.2
        obtain ⟨b, ob, rfl, hc⟩ := hsx.at (by omega)
        have hck := hc k (by omega)
        have hxd := Hdx.out.getD k
        have hqs := drop_quads (xs := xs) (k := k) (by rw [Hll.out]; omega)
        have hbz := hbel.size
        generalize xs.getD k 0 = x at *
        have Hq := Lib.hid hqs
        clear hc hqs
        have hn4 := four_new wr (.int .u8 (x / 16777216)) (.int .u8 (x / 65536 % 256)) (.int .u8 (x / 256 % 256)) (.int .u8 (x % 256))
        have hones : ∀ u ∈ [Value.int .u8 (x / 16777216), .int .u8 (x / 65536 % 256), .int .u8 (x / 256 % 256), .int .u8 (x % 256)], u.oneCell' = true := by simp [Value.oneCell']
        have hmx : 1 + 4 * (len - (k + 1)) + 4 ≤ maxLen := by unfold maxLen; omega
        have hbytes : (1 + 4 * (len - (k + 1)) + 4) * 1 ≤ 140737488355328 := by omega
        go_wp2_with (at_builtin; go_loud (refine wpList_append_own _ rfl _ _ 25 rfl (w1.heap.size) 5 i0 (.int .u8 0) 1 1 Tryz.underlying25 hi hz0 hz1 hz2 rfl (by decide) _ _ _ rfl (hown.alloc _) ⟨wr.heap.size, 0, none⟩ 4 4 [.int .u8 (x / 16777216), .int .u8 (x / 65536 % 256), .int .u8 (x / 256 % 256), .int .u8 (x % 256)] rfl rfl hn4 hones hmx hbytes (by simp; omega) ?_))
        intro v' w2 hown' hgrow _
        go_wp2
        go_roundw
        case rel =>
          refine ⟨k, _, by omega, rfl, by omega, ?_, (hbel.alloc (by omega) _).grown hgrow (by simp; omega) ?_⟩
          · rw [Hq.out, show 1 + 4 * (len - k) = 1 + 4 * (len - (k + 1)) + 4 by omega, ← List.cons_append, List.map_append]
            exact hown'
          · intro i hi
            rcases hown.2 with ⟨rfl, _⟩ | ⟨g, cap, cur, rfl, hge, _⟩
            · simp [Value.ownBlock] at hi
            · simp [Value.ownBlock] at hi; omega
        case measure => simp [intOf]
  · go_enter Tryz.func32, Tryz.ntmps32
    go_wp2_with fail
    replace U0 := U0.alloc U0.size (.cells #[.bool true, .slice ao len cap] 24)
    replace hs := hs.alloc (.cells #[.bool true, .slice ao len cap] 24)
    have Ta := BoxI.new w w.heap.size rfl true ao len cap
    refine (HI.out _ hs).mono ?_
    rintro e w1 ⟨rfl, b1⟩
    replace U0 := U0.trans (b1.mono U0.size); replace hs := hs.below b1; replace Ta := Ta.below b1
    have ca0 := Ta.cells.1; have ca1 := Ta.cells.2; have za := Ta.lt
    clear b1
    go_wp2_with fail
    have hrow : (w1.alloc (.cells #[.int .u8 ((len : Int) + 128)] 5)).ownsRow w1.heap.size 5 1 (.slice (some ⟨w1.heap.size, 0, none⟩) 1 1) (1 + 4 * (len - len)) ([(((len : Int) + 128) : Int)].map (Value.int .u8)) := by
      rw [Nat.sub_self]
      exact ⟨rfl, .inr ⟨w1.heap.size, 1, #[.int .u8 ((len : Int) + 128)], rfl, Nat.le_refl _, heap_new _ _, Nat.le_refl _, by unfold maxLen; omega, rfl, rfl⟩⟩
    go_loopw [6, 7, 8] (fun v i _ wr => ∃ (k : Nat) (iv : Int), k ≤ len ∧ i = .int .i64 iv ∧ iv = (k : Int) - 1 ∧ wr.ownsRow w1.heap.size 5 1 v (1 + 4 * (len - k)) ((((len : Int) + 128) :: (xs.drop k).reverse.flatMap quad).map (Value.int .u8)) ∧ Below w1.heap.size w1 wr) (fun _ i _ _ => (intOf i + 1).toNat)
    case atStart => exact ⟨len, _, Nat.le_refl _, rfl, by omega, by rw [show xs.drop len = [] by rw [← Hll.out]; simp]; exact hrow, (Below.refl _ _).alloc (Nat.le_refl _) _⟩
    case round =>
      clear hrow
      obtain ⟨k, iv, hk, rfl, hiv, hown, hbel⟩ := hrel
      rcases Nat.eq_zero_or_pos k with h0 | h0
      · subst h0
        obtain rfl : iv = -1 := by omega
        clear hiv
        obtain ⟨a2, c2, rfl, hsb⟩ := Sb.of_owns hown
        go_wp2
        refine bodyPost_ret (v := .tuple #[.slice a2 (1 + 4 * (len - 0)) c2, .int .i64 0]) (by simp [results, Tryz.results32, go_sem]) rfl ?_
        exact ⟨_, _, _, rfl, by rw [Hby.out]; simpa using hsb, U0.trans (hbel.mono U0.size)⟩
      · obtain ⟨k, rfl⟩ : ∃ j, k = j + 1 := ⟨k - 1, by omega⟩
        obtain rfl : iv = (k : Int) := by omega
        clear hiv
        have hsx := hs.below hbel
        have Tx := Ta.below hbel
        have cx0 := Tx.cells.1; have cx1 := Tx.cells.2
        obtain ⟨b, ob, rfl, hc⟩ := hsx.at (by omega)
        have hck := hc k (by omega)
        have hxd := Hdx.out.getD k
        have hqs := drop_quads (xs := xs) (k := k) (by rw [Hll.out]; omega)
        have hbz := hbel.size
        generalize xs.getD k 0 = x at *
        have Hq := Lib.hid hqs
        clear hc hqs
        have hn4 := four_new wr (.int .u8 (x / 16777216)) (.int .u8 (x / 65536 % 256)) (.int .u8 (x / 256 % 256)) (.int .u8 (x % 256))
        have hones : ∀ u ∈ [Value.int .u8 (x / 16777216), .int .u8 (x / 65536 % 256), .int .u8 (x / 256 % 256), .int .u8 (x % 256)], u.oneCell' = true := by simp [Value.oneCell']
        have hmx : 1 + 4 * (len - (k + 1)) + 4 ≤ maxLen := by unfold maxLen; omega
        have hbytes : (1 + 4 * (len - (k + 1)) + 4) * 1 ≤ 140737488355328 := by omega
        go_wp2_with (at_builtin; go_loud (refine wpList_append_own _ rfl _ _ 25 rfl (w1.heap.size) 5 i0 (.int .u8 0) 1 1 Tryz.underlying25 hi hz0 hz1 hz2 rfl (by decide) _ _ _ rfl (hown.alloc _) ⟨wr.heap.size, 0, none⟩ 4 4 [.int .u8 (x / 16777216), .int .u8 (x / 65536 % 256), .int .u8 (x / 256 % 256), .int .u8 (x % 256)] rfl rfl hn4 hones hmx hbytes (by simp; omega) ?_))
        intro v' w2 hown' hgrow _
        go_wp2
        go_roundw
        case rel =>
          refine ⟨k, _, by omega, rfl, by omega, ?_, (hbel.alloc (by omega) _).grown hgrow (by simp; omega) ?_⟩
          · rw [Hq.out, show 1 + 4 * (len - k) = 1 + 4 * (len - (k + 1)) + 4 by omega, ← List.cons_append, List.map_append]
            exact hown'
          · intro i hi
            rcases hown.2 with ⟨rfl, _⟩ | ⟨g, cap, cur, rfl, hge, _⟩
            · simp [Value.ownBlock] at hi
            · simp [Value.ownBlock] at hi; omega
        case measure => simp [intOf]
end Go.Proofs.YtfjnplhhgdfepaaGreatDoor

/- The reference's shorn. -/
namespace Go.Proofs.YtfjnplhhgdfepaaGreatDoor
open Go.RowKit

set_option maxRecDepth 100000 in
set_option maxHeartbeats 1000000 in
theorem shorn_any (ao : Option Addr) (len cap : Nat) (xs : List Int) (w : World) (hs : Sl w ao len cap xs) (hm : len ≤ 1000000) :
    Calls Tryz.prog 92 #[.slice ao len cap] w (RetS (trim xs) w) := by
  have hb := hs.len_le
  have hlx := Lib.hid hs.length
  obtain ⟨i0, hi, hz0, hz1, hz2⟩ := info_parts Tryz.info3
  go_enter Tryz.func92, Tryz.ntmps92
  go_wp2
  go_loop [3] (fun s => ∃ n : Nat, n ≤ len ∧ s = .int .i64 n ∧ trim (xs.take n) = trim xs) (fun s => (intOf s).toNat)
  case atStart => exact ⟨len, Nat.le_refl _, rfl, by rw [← hlx.out, List.take_length]⟩
  case round =>
    obtain ⟨n, hn, rfl, ht⟩ := hrel
    have Ht := Lib.hid ht
    clear ht
    rcases n with _ | n
    · have e : trim xs = [] := by rw [← Ht.out]; rfl
      rw [e]
      rcases hs.2.2.2 with ⟨rfl, hc⟩ | ⟨b, o, rfl, hc⟩
      · obtain rfl : len = 0 := by omega
        subst hc
        go_wp2
        go_ret
        exact ⟨none, 0, 0, rfl, Sl.nil _, Below.refl _ _⟩
      · clear hc
        go_wp2_with (at_builtin; refine wpList_append_own _ rfl _ _ 22 rfl w.heap.size 3 i0 (.int .i64 0) 1 8 Tryz.underlying22 hi hz0 hz1 hz2 rfl (by decide) _ _ _ rfl (show w.ownsRow w.heap.size 3 1 (.slice none 0 0) 0 [] from ⟨rfl, .inl ⟨rfl, rfl⟩⟩) ⟨b, o, none⟩ 0 cap ((xs.take 0).map (Value.int .i64)) rfl ?qa1 ?qa2 ?qa3 ?qa4 ?qa5 ?qa6 ?_)
        all_goals (first | rfl | (simp; done) | omega | skip)
        intro v' w1 hown hgrow hnil
        subst hnil
        go_wp2
        go_ret
        exact ⟨none, 0, 0, rfl, by rw [e]; exact Sl.nil _, (Below.refl _ w).grown hgrow (Nat.le_refl _) (by intro k hk; simp [Value.ownBlock] at hk)⟩
    · obtain ⟨b, o, rfl, hc⟩ := hs.at (by omega)
      have hcn := hc n (by omega)
      have hi1 : (((n : Int) + 1 - 1)) = (n : Int) := by omega
      have hlt : (n : Int) < (len : Int) := by omega
      by_cases hz : xs.getD n 0 = 0
      · have Hz := Lib.hid hz
        rw [hz] at hcn
        clear hz hc
        go_wp2
        go_round
        case rel => exact ⟨n, by omega, by go_num, by rw [← Ht.out, trim_take_succ xs n (by have := hlx.out; omega) Hz.out]⟩
        case measure => simp [intOf]
      · have hz' : (xs.getD n 0 == 0) = false := by simpa using hz
        obtain ⟨v, hv⟩ : ∃ v, v = xs.getD n 0 := ⟨_, rfl⟩
        rw [← hv] at hcn hz'
        have HT := Lib.hid (trim_take_stop xs n (by have := hlx.out; omega) hz)
        have HC := Lib.hid hc
        clear hz hv hc
        go_wp2_with (at_builtin; refine wpList_append_own _ rfl _ _ 22 rfl w.heap.size 3 i0 (.int .i64 0) 1 8 Tryz.underlying22 hi hz0 hz1 hz2 rfl (by decide) _ _ _ rfl (show w.ownsRow w.heap.size 3 1 (.slice none 0 0) 0 [] from ⟨rfl, .inl ⟨rfl, rfl⟩⟩) ⟨b, o, none⟩ (n + 1) cap ((xs.take (n + 1)).map (Value.int .i64)) rfl ?qb1 ?qb2 ?qb3 ?qb4 ?qb5 ?qb6 ?_)
        case qb1 => rw [hlx.out]; omega
        case qb2 =>
          intro j u hj
          have hjn : j < n + 1 := by
            have := (List.getElem?_eq_some_iff.1 hj).1
            rw [List.length_take] at this; omega
          rw [HC.out j (by omega)]
          rw [List.getElem?_take, if_pos hjn, List.getElem?_map, List.getElem?_eq_getElem (by rw [hlx.out]; omega)] at hj
          rw [getD_of_lt _ _ (by rw [hlx.out]; omega)]
          exact hj
        case qb3 =>
          have := ints_oneCell .i64 (xs.take (n + 1))
          rw [List.map_take] at this
          exact this
        case qb4 => unfold maxLen; omega
        case qb5 => omega
        intro v' w1 hown hgrow hnil
        go_wp2
        go_ret
        rw [← List.map_take] at hown
        obtain ⟨ao', cap', hv, hsl⟩ := Sl.of_owns hown
        have e : trim xs = xs.take (n + 1) := by rw [← Ht.out]; exact HT.out
        rw [e]
        exact ⟨ao', _, cap', by rw [hv]; rfl, hsl, (Below.refl _ w).grown hgrow (Nat.le_refl _) (by intro k hk; simp [Value.ownBlock] at hk)⟩
end Go.Proofs.YtfjnplhhgdfepaaGreatDoor

/- The reference's product of two numbers' parts. -/
namespace Go.Proofs.YtfjnplhhgdfepaaGreatDoor
open Go.RowKit

/-- At the head of a round of the outer loop. -/
def RMul (xs ys : List Int) (i : Nat) (zs : List Int) : Prop :=
  zs.length = xs.length + ys.length + 1 ∧ Dig zs ∧ (∀ j, i + ys.length ≤ j → zs.getD j 0 = 0) ∧ val zs = val (xs.take i) * val ys
theorem RMul.start (xs ys : List Int) : RMul xs ys 0 (List.replicate (xs.length + ys.length + 1) 0) :=
  ⟨by simp, Dig.replicate _, fun j _ => getD_replicate _ _, by rw [val_replicate]; simp [val]⟩
theorem RMul.enter {xs ys : List Int} {i : Nat} {zs : List Int} (h : RMul xs ys i zs) (x : Int) : MulInv i x ys (val zs) (xs.length + ys.length + 1) 0 0 zs :=
  ⟨h.1, h.2.1, h.2.2.1, by omega, by omega, by simp [val]⟩
theorem RMul.leave {xs ys : List Int} {i : Nat} {zs : List Int} (h : RMul xs ys i zs) (hi : i < xs.length) {c : Int} {zs' : List Int}
    (k : MulInv i (xs.getD i 0) ys (val zs) (xs.length + ys.length + 1) ys.length c zs') : RMul xs ys (i + 1) (zs'.set (i + ys.length) c) := by
  obtain ⟨_, _, _, g4⟩ := h
  obtain ⟨k1, k2, k3, k4, k5, k6⟩ := k
  refine ⟨by simp [k1], k2.set _ _ k4 k5, fun j hj => ?_, ?_⟩
  · rw [getD_set_ne _ _ _ _ (by omega)]; exact k3 j (by omega)
  · rw [val_set _ _ _ (by omega), k3 _ (Nat.le_refl _), val_take_step]
    rw [List.take_length] at k6
    grind

set_option maxRecDepth 100000 in
set_option maxHeartbeats 4000000 in
theorem refTimes_any (ax : Option Addr) (la ca : Nat) (xs : List Int) (ay : Option Addr) (lb cb : Nat) (ys : List Int) (w : World) (hx : Sl w ax la ca xs) (hy : Sl w ay lb cb ys)
    (dx : Dig xs) (dy : Dig ys) (hm : la ≤ 100000) (hn : lb ≤ 100000) :
    Calls Tryz.prog 91 #[.slice ax la ca, .slice ay lb cb] w (RetS (parts (val xs * val ys).toNat) w) := by
  obtain ⟨i0, hi, hz0, hz1, hz2⟩ := info_parts Tryz.info3
  go_enter Tryz.func91, Tryz.ntmps91
  go_wp2_with (at_make; refine wpList_make_full _ rfl _ _ 22 rfl w.heap.size 3 i0 (.int .i64 0) 1 Tryz.underlying22 hi hz0 hz1 _ _ _ _ (la + lb + 1) rfl rfl ?c1 ?c2 ?c3 ?c4 ?c5 ?_)
  case c1 => omega
  case c2 => omega
  case c3 => rw [hz2]; omega
  case c4 => unfold maxLen; omega
  case c5 => omega
  intro w1 hown hgrow
  have hrow := RowOf.made hown rfl
  have hb1 : Below w.heap.size w w1 := (Below.refl _ _).grown hgrow (Nat.le_refl _) (fun _ h => by cases h)
  generalize hg : w.heap.size = g at *
  have Hg := Lib.hid hg
  clear hg hown hgrow
  go_wp2
  have hlx := Lib.hid hx.length
  have hly := Lib.hid hy.length
  go_loopw [6, 7, 8, 9] (fun i _ _ _ wr => ∃ (k : Nat) (zs : List Int), k ≤ la ∧ i = .int .i64 k ∧ RMul xs ys k zs ∧ RowOf wr g zs ∧ Below g w wr) (fun i _ _ _ _ => la - (intOf i).toNat)
  case atStart => exact ⟨0, _, Nat.zero_le _, rfl, by have := RMul.start xs ys; rwa [hlx.out, hly.out] at this, hrow, hb1⟩
  case round =>
    clear hb1 hrow
    obtain ⟨k, zs, hk, rfl, hout, hrow, hbel⟩ := hrel
    have hsx := hx.below (by rw [Hg.out]; exact hbel)
    by_cases hlt : k < la
    · obtain ⟨bx, ox, rfl, hcx⟩ := hsx.at (by omega)
      have hxd := dx.getD k
      generalize hxk : xs.getD k 0 = x at hxd
      have Hxk := Lib.hid hxk
      clear hcx hxk
      obtain ⟨hx0, hx1⟩ := hxd
      go_wp2
      obtain ⟨wo, rfl⟩ : ∃ wo : World, wo = wr := ⟨_, rfl⟩
      go_loopw [7, 8, 9] (fun c i _ wr => ∃ (j : Nat) (cv : Int) (vs : List Int), j ≤ lb ∧ i = .int .i64 j ∧ c = .int .i64 cv ∧ MulInv k x ys (val zs) (la + lb + 1) j cv vs ∧ RowOf wr g vs ∧ Below g w wr) (fun _ i _ _ => lb - (intOf i).toNat)
      case atStart => exact ⟨0, 0, zs, Nat.zero_le _, rfl, rfl, by have := hout.enter x; rwa [hlx.out, hly.out] at this, hrow, hbel⟩
      case round =>
        clear hrow hbel
        obtain ⟨j, cv, vs, hj, rfl, rfl, hinv, hrow, hbel⟩ := hrel
        have hsx := hx.below (by rw [Hg.out]; exact hbel)
        have hsy := hy.below (by rw [Hg.out]; exact hbel)
        have hc0 := hinv.2.2.2.1
        have hc1 := hinv.2.2.2.2.1
        have hzl := Lib.hid hinv.1
        by_cases hjt : j < lb
        · obtain ⟨by', oy, rfl, hcy⟩ := hsy.at (by omega)
          have hcyk := hcy j hjt
          have hyd := dy.getD j
          generalize hyk : ys.getD j 0 = y at hcyk hyd
          have Hyk := Lib.hid hyk
          have hcxk := hsx.cellAt k hlt
          rw [Hxk.out] at hcxk
          have hfz := hrow.frozen (k + j)
          have hcz := hrow.cell (k + j) (by rw [hzl.out]; omega)
          have hzd := hinv.2.1.getD (k + j)
          generalize hzk : vs.getD (k + j) 0 = z at hcz hzd
          have Hzk := Lib.hid hzk
          obtain ⟨hp0, hp1⟩ := mul_bd hx0 (show x ≤ 999999999 by omega) hyd.1 (show y ≤ 999999999 by omega)
          have hI1 : (k : Int) < (la : Int) := by omega
          have hI2 : (j : Int) < (lb : Int) := by omega
          have hI3 : (k : Int) + (j : Int) < (la : Int) + (lb : Int) + 1 := by omega
          clear hcy hyk hzk
          go_wp2
          go_region
          go_wp2
          go_roundw
          case rel => exact ⟨j + 1, _, _, hjt, by go_num, rfl, hinv.step (by rw [hly.out]; exact hjt) (by omega) hx0 (by omega) dy _ (by rw [Hyk.out, Hzk.out]), (by first | exact hrow.set _ _ | exact hrow.drew.set _ _), (by first | exact hbel.setCell (Nat.le_refl _) _ | exact hbel.drew.setCell (Nat.le_refl _) _)⟩
          case measure => simp [intOf]; omega
        · have hjl : j = lb := by omega
          subst hjl
          have hfz := hrow.frozen (k + j)
          have hcz := hrow.cell (k + j) (by rw [hzl.out]; omega)
          rw [hinv.2.2.1 (k + j) (by rw [hly.out]; omega)] at hcz
          go_wp2
          go_roundw
          case rel => exact ⟨k + 1, _, hlt, by go_num, by have := hout.leave (c := cv) (zs' := vs) (by rw [hlx.out]; exact hlt) (by rw [Hxk.out, hlx.out, hly.out]; exact hinv); rwa [hly.out] at this, hrow.set _ _, hbel.setCell (Nat.le_refl _) _⟩
          case measure => simp [intOf]; omega
    · have hkl : k = la := by omega
      subst hkl
      have hsl := hrow.sl (k + lb + 1) (by rw [hout.1, hlx.out, hly.out]) (by omega)
      have hfin := Lib.hid hout
      clear hout
      go_wp2_with fail
      refine (shorn_any _ _ _ _ _ hsl (by omega)).mono ?_
      rintro e w2 ⟨a3, l3, c3, rfl, hs3, hb3⟩
      go_wp2
      go_ret
      refine ⟨a3, l3, c3, rfl, ?_, ?_⟩
      · rw [trim_eq hfin.out.2.1, hfin.out.2.2.2, ← hlx.out, List.take_length] at hs3
        exact hs3
      · rw [Hg.out]; exact hbel.trans (hb3.mono (by rw [← Hg.out]; exact hbel.size))
end Go.Proofs.YtfjnplhhgdfepaaGreatDoor

/- The reference's digit: a binary search for a quotient of one part. -/
namespace Go.Proofs.YtfjnplhhgdfepaaGreatDoor
open Go.RowKit

theorem dig_one {m : Int} (h0 : 0 ≤ m) (h1 : m < 1000000000) : Dig [m] := by
  intro y hy
  rw [List.mem_singleton.1 hy]; omega
theorem one_new (w : World) (m : Int) : Sl (w.alloc (.cells #[.int .i64 m] 3)) (some ⟨w.heap.size, 0, none⟩) 1 1 [m] := by
  refine ⟨rfl, Nat.le_refl _, by unfold maxLen; omega, .inr ⟨w.heap.size, 0, rfl, fun j hj => ?_⟩⟩
  obtain rfl : j = 0 := by omega
  have hh := heap_new w (.cells #[.int .i64 m] 3)
  simp only [World.cell?, hh, Nat.zero_add]
  simp

set_option maxRecDepth 100000 in
set_option maxHeartbeats 4000000 in
theorem digit_any (ax : Option Addr) (la ca A : Nat) (ay : Option Addr) (lb cb B : Nat) (w : World) (hx : Sl w ax la ca (parts A)) (hy : Sl w ay lb cb (parts B)) (hB : 0 < B) (hA : A < B * 1000000000) (hn : lb ≤ 1000) :
    Calls Tryz.prog 129 #[.slice ax la ca, .slice ay lb cb] w fun e w' => e = .returned (.int .i64 ((A / B : Nat) : Int)) ∧ Below w.heap.size w w' := by
  obtain ⟨q, hq⟩ : ∃ q, A / B = q := ⟨_, rfl⟩
  have hq1 : q * B ≤ A := by rw [← hq]; exact Nat.div_mul_le_self A B
  have hq2 : A < (q + 1) * B := by rw [← hq]; have := Nat.div_add_mod A B; have := Nat.mod_lt A hB; rw [Nat.add_mul, Nat.mul_comm (A / B) B]; omega
  have hq3 : q < 1000000000 := by rw [← hq]; exact Nat.div_lt_of_lt_mul hA
  rw [hq]
  have HT := Lib.hid (fun ao l c (m : Int) (w : World) (h0 : 0 ≤ m) (h1 : m < 1000000000) (h2 : l ≤ 100000) (hy : Sl w ay lb cb (parts B)) (h : Sl w ao l c (parts m.toNat)) => refTimes_any ay lb cb (parts B) ao l c (parts m.toNat) w hy h (parts_dig _) (parts_dig _) (by omega) h2)
  have HS := Lib.hid (fun ao l c (xs : List Int) (w : World) (h : Sl w ao l c xs) (hx : Sl w ax la ca (parts A)) => size_below ao l c xs ax la ca (parts A) w h hx)
  have HQ := Lib.hid (And.intro hq1 hq2)
  clear hq hA hq1 hq2
  go_enter Tryz.func129, Tryz.ntmps129
  go_wp2
  go_loopw [5, 6, 7, 8] (fun lo hi_ _ _ wr => ∃ l h : Nat, lo = .int .i64 l ∧ hi_ = .int .i64 h ∧ l ≤ q ∧ q ≤ h ∧ h ≤ 999999999 ∧ Below w.heap.size w wr) (fun lo hi_ _ _ _ => (intOf hi_ - intOf lo).toNat)
  case atStart => exact ⟨0, 999999999, rfl, rfl, Nat.zero_le _, by omega, Nat.le_refl _, Below.refl _ _⟩
  case round =>
    obtain ⟨l, h, rfl, rfl, h1, h2, h3, hbel⟩ := hrel
    have hsx := hx.below hbel
    have hsy := hy.below hbel
    have hbz := hbel.size
    by_cases hlt : l < h
    · obtain ⟨m, hm⟩ : ∃ m : Nat, (l + h + 1) / 2 = m := ⟨_, rfl⟩
      have hm1 : l < m := by omega
      have hm2 : m ≤ h := by omega
      have hmI : Int.tdiv ((l : Int) + (h : Int) + 1) 2 = (m : Int) := by
        rw [Int.tdiv_eq_ediv_of_nonneg (by omega)]; omega
      have hmJ : ((l : Int) + (h : Int) + 1) / 2 = (m : Int) := by omega
      have Hm := Lib.hid hm
      clear hm
      have hb2 : Below w.heap.size w (wr.alloc (.cells #[.int .i64 (m : Int)] 3)) := hbel.alloc hbz _
      have hsx2 := hsx.alloc (.cells #[.int .i64 (m : Int)] 3)
      have hsy2 := hsy.alloc (.cells #[.int .i64 (m : Int)] 3)
      go_wp2_with fail
      refine (shorn_any _ _ _ _ _ (one_new wr (m : Int)) (by omega)).mono ?_
      rintro e w2 ⟨a2, l2, c2, rfl, s2, b2⟩
      rw [trim_eq (dig_one (by omega) (by omega)), show val [(m : Int)] = (m : Int) by simp [val]] at s2
      have hl2 : l2 ≤ 40 := by
        rw [← s2.length, parts_len]
        have : (1000000000 : Nat) ^ 1 ≤ 1000000000 ^ 40 := Nat.pow_le_pow_right (by omega) (by omega)
        omega
      replace hsx2 := hsx2.below b2
      replace hsy2 := hsy2.below b2
      replace hb2 := hb2.trans (b2.mono hb2.size)
      clear b2 hsx hsy hbel
      go_wp2_with fail
      refine (HT.out _ _ _ _ _ (by omega) (by omega) (by omega) hsy2 s2).mono ?_
      rintro e w3 ⟨a3, l3, c3, rfl, s3, b3⟩
      rw [val_parts, val_parts, show ((B : Int) * (((m : Int).toNat : Nat) : Int)).toNat = B * m by rw [Int.toNat_natCast, ← Int.natCast_mul]; exact Int.toNat_natCast _] at s3
      replace hsx2 := hsx2.below b3
      replace hb2 := hb2.trans (b3.mono hb2.size)
      clear b3 s2 hsy2
      go_wp2_with fail
      refine (HS.out _ _ _ _ _ s3 hsx2).mono ?_
      rintro e w4 ⟨rfl, b4⟩
      replace hb2 := hb2.trans (b4.mono hb2.size)
      rw [cmpL_parts]
      clear b4 s3 hsx2
      by_cases hle : B * m ≤ A
      · have hs : decide (cmp3 ((B * m : Nat) : Int) (A : Int) ≤ 0) = true := by
          refine decide_eq_true ?_
          unfold cmp3; split
          · omega
          · split <;> omega
        have hmq : m ≤ q := by
          obtain ⟨g1, g2⟩ := HQ.out
          rcases Nat.lt_or_ge q m with h' | h'
          · have : (q + 1) * B ≤ m * B := Nat.mul_le_mul_right B h'
            rw [Nat.mul_comm] at hle; omega
          · exact h'
        generalize cmp3 ((B * m : Nat) : Int) (A : Int) = v at *
        go_wp2
        go_roundw
        case rel => exact ⟨m, h, rfl, rfl, hmq, h2, h3, hb2⟩
        case measure => simp [intOf]; omega
      · have hs : decide (cmp3 ((B * m : Nat) : Int) (A : Int) ≤ 0) = false := by
          refine decide_eq_false ?_
          unfold cmp3; rw [if_neg (by omega), if_neg (by omega)]; omega
        have hmq : q < m := by
          obtain ⟨g1, g2⟩ := HQ.out
          rcases Nat.lt_or_ge q m with h' | h'
          · exact h'
          · have : m * B ≤ q * B := Nat.mul_le_mul_right B h'
            rw [Nat.mul_comm] at hle; omega
        generalize cmp3 ((B * m : Nat) : Int) (A : Int) = v at *
        obtain ⟨m', hm'⟩ : ∃ m' : Nat, m = m' + 1 := ⟨m - 1, by omega⟩
        subst hm'
        go_wp2
        go_roundw
        case rel => exact ⟨l, m', rfl, by go_num, h1, by omega, by omega, hb2⟩
        case measure => simp [intOf]; omega
    · obtain rfl : l = q := by omega
      go_wp2
      go_ret
      exact ⟨rfl, hbel⟩
end Go.Proofs.YtfjnplhhgdfepaaGreatDoor

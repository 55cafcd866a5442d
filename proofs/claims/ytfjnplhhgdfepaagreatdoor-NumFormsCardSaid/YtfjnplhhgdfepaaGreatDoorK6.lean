/- Contracts of the functions of package num and of the law's helpers, part 6: each call ends and hands back what its contract says, for all arguments within the contract's premises. -/
import Derived.Deep.DeepCutAuto
import Derived.Outline
import Derived.OrdersHeld
import Derived.Deep.RegionHeld3
import Derived.WalkKit
import Derived.Test.YtfjnplhhgdfepaaGreatDoorProg
import Derived.Test.YtfjnplhhgdfepaaGreatDoorK5
set_option linter.all false

/- power. -/
namespace Go.Proofs.YtfjnplhhgdfepaaGreatDoor
open Go.RowKit

/-- Block g has two cells, which hold a and b, and may be written. -/
structure Bx (w : World) (g : Nat) (a b : Value) : Prop where
  c0 : w.cell? ⟨g, 0, none⟩ = some a
  c1 : w.cell? ⟨g, 1, none⟩ = some b
  f0 : w.frozen? ⟨g, 0, none⟩ = false
  f1 : w.frozen? ⟨g, 1, none⟩ = false
  lt : g < w.heap.size
theorem Bx.of {w : World} {g : Nat} {a b : Value} {t : TypeId} (h : w.heap[g]? = some (.cells #[a, b] t (0, 0))) : Bx w g a b := by
  obtain ⟨h1, h2, h3, h4, h5⟩ := box2 h; exact ⟨h1, h2, h3, h4, h5⟩
theorem Bx.block {w w' : World} {g : Nat} {a b : Value} (h : Bx w g a b) (e : w'.heap[g]? = w.heap[g]?) : Bx w' g a b := by
  have hl : g < w'.heap.size := by
    rcases Nat.lt_or_ge g w'.heap.size with h' | h'
    · exact h'
    · rw [Array.getElem?_eq_none h'] at e
      have := Array.getElem?_eq_getElem h.lt
      rw [← e] at this; cases this
  refine ⟨?_, ?_, ?_, ?_, hl⟩
  · rw [World.cell?_of_block (w := w) e]; exact h.c0
  · rw [World.cell?_of_block (w := w) e]; exact h.c1
  · rw [World.frozen?_of_block (w := w) e]; exact h.f0
  · rw [World.frozen?_of_block (w := w) e]; exact h.f1
theorem Bx.drew {w : World} {g : Nat} {a b : Value} (h : Bx w g a b) : Bx w.drew g a b := h.block rfl
theorem Bx.alloc {w : World} {g : Nat} {a b : Value} (h : Bx w g a b) (o : Obj) : Bx (w.alloc o) g a b := h.block (Below.heap_alloc _ _ _ h.lt)
theorem Bx.below {w w' : World} {g B : Nat} {a b : Value} (h : Bx w g a b) (hb : Below B w w') (hB : g < B) : Bx w' g a b := h.block (hb.block g hB)
theorem Bx.new (w : World) (a b : Value) (t : TypeId) : Bx (w.alloc (.cells #[a, b] t)) w.heap.size a b := Bx.of (heap_new w _)
theorem Bx.other {w : World} {g k : Nat} {a b : Value} (h : Bx w g a b) (hne : g ≠ k) (o : Nat) (v : Value) : Bx (w.setCell ⟨k, o, none⟩ v) g a b := h.block (Below.heap_setCell _ _ _ _ hne)
theorem frozen_set (w : World) (p q : Addr) (v : Value) : (w.setCell p v).frozen? q = w.frozen? q := World.frozen?_setCell _ _ _ _
theorem Bx.set {w : World} {g : Nat} {a b : Value} (h : Bx w g a b) (u v : Value) : Bx ((w.setCell ⟨g, 0, none⟩ u).setCell ⟨g, 1, none⟩ v) g u v := by
  refine ⟨?_, ?_, ?_, ?_, ?_⟩
  · rw [cell_set_ne (by simp) rfl rfl]
    exact World.cell?_setCell_same' _ _ _ (by rw [h.c0]; rfl)
  · exact World.cell?_setCell_same' _ _ _ (by rw [cell_set_ne (by simp) rfl rfl, h.c1]; rfl)
  · rw [frozen_set, frozen_set]; exact h.f0
  · rw [frozen_set, frozen_set]; exact h.f1
  · simpa [World.setCell] using h.lt

/-- Block g holds the integer z. -/
def BoxN (w : World) (g : Nat) (z : Int) : Prop := ∃ ao len cap, Bx w g (.bool (decide (z < 0))) (.slice ao len cap) ∧ Sl w ao len cap (parts z.natAbs)
/-- Two blocks hold two integers, and what was there is as it was. -/
def Pair (w0 : World) (g h : Nat) (z u : Int) (wx : World) : Prop := BoxN wx g z ∧ BoxN wx h u ∧ g ≠ h ∧ w0.heap.size ≤ g ∧ w0.heap.size ≤ h ∧ Below w0.heap.size w0 wx
theorem Pair.swap {w0 wx : World} {g h : Nat} {z u : Int} (p : Pair w0 g h z u wx) : Pair w0 h g u z wx := ⟨p.2.1, p.1, fun e => p.2.2.1 e.symm, p.2.2.2.2.1, p.2.2.2.1, p.2.2.2.2.2⟩
theorem BoxN.block {w' : World} {g : Nat} {z : Int} {b : Bool} {a : Option Addr} {l c : Nat} (hz : decide (z < 0) = b) (hb : Bx w' g (.bool b) (.slice a l c)) (hs : Sl w' a l c (parts z.natAbs)) : BoxN w' g z := ⟨a, l, c, by rw [hz]; exact hb, hs⟩
theorem pairA {w0 w1 : World} {z u : Int} {b b' : Bool} {a a' : Option Addr} {l c l' c' : Nat} (hb1 : Below w0.heap.size w0 w1) (hz : decide (z < 0) = b) (hu : decide (u < 0) = b') (hs : Sl w1 a l c (parts z.natAbs)) (ht : Sl w1 a' l' c' (parts u.natAbs)) :
    Pair w0 w1.heap.size (w1.heap.size + 1) z u ((w1.alloc (.cells #[.bool b, .slice a l c] 24)).alloc (.cells #[.bool b', .slice a' l' c'] 24)) := by
  have hz1 := hb1.size
  have hn := Bx.new (w1.alloc (.cells #[.bool b, .slice a l c] 24)) (.bool b') (.slice a' l' c') 24
  rw [World.size_alloc] at hn
  exact ⟨BoxN.block hz ((Bx.new w1 _ _ _).alloc _) ((hs.alloc _).alloc _), BoxN.block hu hn ((ht.alloc _).alloc _), by omega, by omega, by omega, (hb1.alloc hz1 _).alloc (by simp; omega) _⟩
theorem pairB {w0 w1 : World} {k : Nat} {z u : Int} {b b' p : Bool} {a a' q : Option Addr} {l c l' c' m n : Nat} (hb1 : Below w0.heap.size w0 w1) (hk : w0.heap.size ≤ k) (hz : decide (z < 0) = b) (hu : decide (u < 0) = b') (hs : Sl w1 a l c (parts z.natAbs)) (ht : Sl w1 a' l' c' (parts u.natAbs)) (hB : Bx w1 k (.bool p) (.slice q m n)) :
    Pair w0 k w1.heap.size z u (((w1.setCell ⟨k, 0, none⟩ (.bool b)).setCell ⟨k, 1, none⟩ (.slice a l c)).alloc (.cells #[.bool b', .slice a' l' c'] 24)) := by
  have hz1 := hb1.size
  have hlt := hB.lt
  have hn := Bx.new ((w1.setCell ⟨k, 0, none⟩ (.bool b)).setCell ⟨k, 1, none⟩ (.slice a l c)) (.bool b') (.slice a' l' c') 24
  have hsz : ((w1.setCell ⟨k, 0, none⟩ (.bool b)).setCell ⟨k, 1, none⟩ (.slice a l c)).heap.size = w1.heap.size := by simp [World.setCell]
  rw [hsz] at hn
  exact ⟨BoxN.block hz ((hB.set _ _).alloc _) ((hs.store2 hB.c0 hB.c1 _ _).alloc _), BoxN.block hu hn ((ht.store2 hB.c0 hB.c1 _ _).alloc _), by omega, hk, by omega, ((hb1.setCell (by exact hk) _).setCell (by exact hk) _).alloc (by rw [hsz]; omega) _⟩
theorem pairC {w0 w1 : World} {k j : Nat} {z u : Int} {b b' p p' : Bool} {a a' q q' : Option Addr} {l c l' c' m n m' n' : Nat} (hb1 : Below w0.heap.size w0 w1) (hk : w0.heap.size ≤ k) (hj : w0.heap.size ≤ j) (hne : k ≠ j) (hz : decide (z < 0) = b) (hu : decide (u < 0) = b') (hs : Sl w1 a l c (parts z.natAbs)) (ht : Sl w1 a' l' c' (parts u.natAbs)) (hB : Bx w1 k (.bool p) (.slice q m n)) (hC : Bx w1 j (.bool p') (.slice q' m' n')) :
    Pair w0 k j z u ((((w1.setCell ⟨k, 0, none⟩ (.bool b)).setCell ⟨k, 1, none⟩ (.slice a l c)).setCell ⟨j, 0, none⟩ (.bool b')).setCell ⟨j, 1, none⟩ (.slice a' l' c')) := by
  have hC' := (hC.other (fun e => hne e.symm) 0 (.bool b)).other (fun e => hne e.symm) 1 (.slice a l c)
  exact ⟨BoxN.block hz (((hB.set _ _).other hne _ _).other hne _ _) ((hs.store2 hB.c0 hB.c1 _ _).store2 hC'.c0 hC'.c1 _ _), BoxN.block hu (hC'.set _ _) ((ht.store2 hB.c0 hB.c1 _ _).store2 hC'.c0 hC'.c1 _ _), hne, hk, hj,
    (((hb1.setCell (by exact hk) _).setCell (by exact hk) _).setCell (by exact hj) _).setCell (by exact hj) _⟩
theorem ne1 (n : Nat) : n ≠ n + 1 := by omega
theorem bel0 {w w1 : World} {B : Nat} (h : Below B w.drew w1) (hB : w.heap.size ≤ B) : Below w.heap.size w w1 := ⟨h.os, h.tape, h.output, h.size, fun b hb => h.block b (by omega)⟩
theorem bel1 {w w1 : World} {B : Nat} (o : Obj) (h : Below B (w.alloc o).drew w1) (hB : w.heap.size + 1 ≤ B) : Below w.heap.size w w1 :=
  ((Below.refl _ w).alloc (Nat.le_refl _) o).trans ((bel0 h (by simpa using hB)).mono (by simp))
theorem bel2 {w w1 : World} {B : Nat} (o p : Obj) (h : Below B ((w.alloc o).alloc p).drew w1) (hB : w.heap.size + 1 + 1 ≤ B) : Below w.heap.size w w1 :=
  (((Below.refl _ w).alloc (Nat.le_refl _) o).alloc (by simp) p).trans ((bel0 h (by simpa using hB)).mono (by simp; omega))
theorem bAlloc {w0 w : World} (h : Below w0.heap.size w0 w) (o : Obj) : Below w0.heap.size w0 (w.alloc o) := h.alloc h.size o
theorem bDrew {w0 w : World} (h : Below w0.heap.size w0 w) : Below w0.heap.size w0 w.drew := h.drew
theorem bSet {w0 w : World} (h : Below w0.heap.size w0 w) {p : Addr} (hp : w0.heap.size ≤ p.block) (v : Value) : Below w0.heap.size w0 (w.setCell p v) := h.setCell hp v
theorem bxA {w w1 : World} {B : Nat} {a b : Value} {t : TypeId} (h : Below B (w.alloc (.cells #[a, b] t)).drew w1) (hB : w.heap.size + 1 ≤ B) : Bx w1 w.heap.size a b :=
  (Bx.new w a b t).drew.below h (by omega)
theorem bxB {w w1 : World} {B : Nat} {a b c d : Value} {t : TypeId} (h : Below B ((w.alloc (.cells #[a, b] t)).alloc (.cells #[c, d] t)).drew w1) (hB : w.heap.size + 1 + 1 ≤ B) : Bx w1 w.heap.size a b ∧ Bx w1 (w.heap.size + 1) c d := by
  refine ⟨((Bx.new w a b t).alloc _).drew.below h (by omega), ?_⟩
  have := Bx.new (w.alloc (.cells #[a, b] t)) c d t
  rw [World.size_alloc] at this
  exact this.drew.below h (by omega)

set_option maxRecDepth 100000 in
set_option maxHeartbeats 4000000 in
/-- power, where the base is none of 0, 1 and -1. -/
theorem power_big (x : Int) (n : Nat) (hx2 : 2 ≤ x.natAbs) (ax : Option Addr) (la ca : Nat) (ay : Option Addr) (lb cb : Nat) (sy : Bool) (w : World) (hx : Sl w ax la ca (parts x.natAbs)) (hy : Sl w ay lb cb (parts n)) (hm : la ≤ 40) (hm2 : lb ≤ 1000000) :
    Calls Tryz.prog 151 #[.agg #[.bool (decide (x < 0)), .slice ax la ca], .agg #[.bool sy, .slice ay lb cb]] w (Calc (x ^ n) w) := by
  have hla : 0 < la := by
    have h1 := hx.length
    have h2 := parts_nil_iff x.natAbs
    rcases Nat.eq_zero_or_pos la with h | h
    · have := h2.1 (List.eq_nil_of_length_eq_zero (by omega)); omega
    · exact h
  have hne : decide (parts x.natAbs = [1]) = false := by
    simp only [decide_eq_false_iff_not]
    intro e
    have := congrArg val e
    rw [val_parts] at this
    simp [val] at this
    omega
  have Hne := Lib.hid hne
  clear hne
  generalize hsx : decide (x < 0) = sx at *
  have Hsx := Lib.hid hsx
  clear hsx
  go_enter Tryz.func151, Tryz.ntmps151
  go_wp2_with fail
  refine (equal_any _ _ _ _ _ _ _ _ _ ((((hx.alloc _).alloc _).alloc _).alloc _) (RowOf.sl (xs := [1]) (heap4_3 w _ _ _ _) 1 rfl (by omega))).mono ?_
  rintro e w0 ⟨rfl, hb⟩
  rw [Hne.out]
  obtain ⟨hA, hB, hR, hS, hsz, hbb⟩ := kept4 _ _ _ _ _ hb
  have hx0 := ((((hx.alloc (.cells #[.bool sx, .slice ax la ca] 24)).alloc (.cells #[.bool sy, .slice ay lb cb] 24)).alloc (.cells #[.bool false, .slice none 0 0] 24)).alloc (.cells #[.int .i64 1] 3)).below hb
  have hy0 := ((((hy.alloc (.cells #[.bool sx, .slice ax la ca] 24)).alloc (.cells #[.bool sy, .slice ay lb cb] 24)).alloc (.cells #[.bool false, .slice none 0 0] 24)).alloc (.cells #[.int .i64 1] 3)).below hb
  have HA := Lib.hid hA; have HB := Lib.hid hB; have HR := Lib.hid hR
  obtain ⟨k1, k2, k3, k4, k5⟩ := box2 hA
  obtain ⟨l1, l2, l3, l4, l5⟩ := box2 hB
  clear hA hB hR hS hb
  by_cases hlb : 1 < lb
  · have hbig : 1200 ≤ n := by
      have h1 := (parts_ge n 1).1 (by rw [hy.length]; exact hlb)
      simp at h1; omega
    have hno := Lib.hid (pow_big x n hx2 hbig)
    clear hbig
    go_wp2
    exact ⟨rfl, .inr ⟨⟨_, _, rfl⟩, hbb, hno.out⟩⟩
  · have hfr := fun w => from_any 1 w (by omega) (by omega)
    have Hfr := Lib.hid hfr
    clear hfr
    go_upto_region 5 with fail
    go_cut [5, 6, 7] (fun s5 s6 s7 wx => ∃ g5 g6 : Nat, s5 = .pointer (some ⟨g5, 0, none⟩) ∧ s6 = .pointer (some ⟨g6, 0, none⟩) ∧ s7 = .int .i64 0 ∧ Pair w0 g5 g6 1 x wx)
    case first =>
      clear hx hy hy0 hbb hm hm2 hx2 hla Hne HB HR l1 l2 l3 l4 l5 k3 k4 hsz hlb
      have H10 : Hid _ := Lib.hid (show decide ((1 : Int) < 0) = false by decide)
      have Hs := Lib.hid (fun (w' : World) (h : Below w0.heap.size w0 w') => (⟨(h.cell (p := ⟨w.heap.size, 0, none⟩) k5).trans k1, (h.cell (p := ⟨w.heap.size, 1, none⟩) k5).trans k2⟩ : w'.cell? ⟨w.heap.size, 0, none⟩ = some (.bool sx) ∧ w'.cell? ⟨w.heap.size, 1, none⟩ = some (.slice ax la ca)))
      go_region_held3 (fun w' => w'.cell? ⟨w.heap.size, 0, none⟩ = some (.bool sx) ∧ w'.cell? ⟨w.heap.size, 1, none⟩ = some (.slice ax la ca)) (first | exact ⟨k1, k2⟩ | (refine Hs.out _ ?_; (repeat' (first | with_reducible exact hb1 | with_reducible exact Below.refl _ _ | with_reducible refine bDrew ?_ | with_reducible refine bAlloc ?_ _ | with_reducible refine bSet ?_ ?_ _)); all_goals (first | omega | (simp; done) | (simp; omega) | (have hz1 := hb1.size; simp; omega)))) (first | (go_at_call 23; (refine (Hfr.out _).mono ?_); rintro e w1 ⟨ar, lr, cr, rfl, hsr, hbr⟩; (first | have hb1 : Below w0.heap.size w0 w1 := by (with_reducible refine bel0 hbr ?_); exact Nat.le_refl _ | have hb1 : Below w0.heap.size w0 w1 := by (with_reducible refine bel1 _ hbr ?_); show _ ≤ (World.alloc _ _).heap.size; simp | have hb1 : Below w0.heap.size w0 w1 := by (with_reducible refine bel2 _ _ hbr ?_); show _ ≤ (World.alloc _ _).heap.size; simp); have hz1 := hb1.size; (first | (have hq := (by (with_reducible refine bxB hbr ?_); show _ ≤ (World.alloc _ _).heap.size; simp); obtain ⟨⟨q1, q2, q3, q4, q5⟩, ⟨r1, r2, r3, r4, r5⟩⟩ := hq) | (have hq := (by (with_reducible refine bxA hbr ?_); show _ ≤ (World.alloc _ _).heap.size; simp); obtain ⟨q1, q2, q3, q4, q5⟩ := hq) | skip)))
      all_goals
        go_wp2_with fail
        go_meet
        case rel =>
          have hx1 := hx0.below hb1
          first
            | with_reducible exact ⟨_, _, rfl, rfl, rfl, (pairA hb1 H10.out Hsx.out hsr hx1)⟩
            | with_reducible exact ⟨_, _, rfl, rfl, rfl, (pairA hb1 Hsx.out H10.out hx1 hsr).swap⟩
            | with_reducible exact ⟨_, _, rfl, rfl, rfl, (pairB hb1 (Nat.le_refl _) H10.out Hsx.out hsr hx1 ⟨q1, q2, q3, q4, q5⟩)⟩
            | with_reducible exact ⟨_, _, rfl, rfl, rfl, (pairB hb1 (Nat.le_refl _) Hsx.out H10.out hx1 hsr ⟨q1, q2, q3, q4, q5⟩).swap⟩
            | with_reducible exact ⟨_, _, rfl, rfl, rfl, (pairC hb1 (Nat.le_refl _) (Nat.le_succ _) (ne1 _) H10.out Hsx.out hsr hx1 ⟨q1, q2, q3, q4, q5⟩ ⟨r1, r2, r3, r4, r5⟩)⟩
            | with_reducible exact ⟨_, _, rfl, rfl, rfl, (pairC hb1 (Nat.le_succ _) (Nat.le_refl _) (ne1 _).symm H10.out Hsx.out hsr hx1 ⟨r1, r2, r3, r4, r5⟩ ⟨q1, q2, q3, q4, q5⟩)⟩
    case rest =>
      obtain ⟨g5, g6, rfl, rfl, rfl, hP5, hP6, hne56, hg5, hg6, hbx⟩ := hcut
      have hBx := box2 ((hbx.block _ (Array.getElem?_eq_some_iff.1 HB.out).1).trans HB.out)
      obtain ⟨y1, y2, y3, y4, y5⟩ := hBx
      have hl3 : w.heap.size + 1 + 1 < w0.heap.size := (Array.getElem?_eq_some_iff.1 HR.out).1
      have hyx := hy0.below hbx
      have hBW := hbb
      have hnb : n < 1000000000 := by
        have := (parts_len n 1).1 (by rw [hy.length]; omega)
        simpa using this
      have hPI : PowInv x n 1 x n := PowInv.start x n (by omega)
      have HPI := Lib.hid hPI
      have hLx : Lim x := by unfold Lim; rw [hx.length]; exact hm
      clear hPI
      clear hx hy hm hm2 hx2 hla Hne hbb hx0 hy0 HA k1 k2 k3 k4 k5 l1 l2 l3 l4 l5 Hfr
      go_upto_if 31 with fail
      go_cut [7] (fun s7 wx => s7 = .int .i64 (n : Int) ∧ wx = wc)
      case first =>
        rcases (show lb = 0 ∨ lb = 1 by omega) with rfl | rfl
        · obtain rfl : n = 0 := by
            have h1 := hyx.length
            have h2 := parts_nil_iff n
            exact h2.1 (List.eq_nil_of_length_eq_zero h1)
          go_wp2_with fail
          go_meet
          case rel => exact ⟨rfl, rfl⟩
        · obtain ⟨by', oy, rfl, hcy⟩ := hyx.at (by omega)
          have hc0 := hcy 0 (by omega)
          have hn0 : n ≠ 0 := by
            rintro rfl
            have h1 := hyx.length
            rw [parts_zero] at h1; cases h1
          rw [Nat.add_zero, parts_pos n (by omega), List.getD_cons_zero, Nat.mod_eq_of_lt hnb] at hc0
          clear hcy
          go_wp2_with fail
          go_meet
          case rel => exact ⟨rfl, rfl⟩
      case rest =>
        obtain ⟨rfl, rfl⟩ := hcut
        go_wp2
        go_loopw [7] (fun i wr => ∃ (r s : Int) (l : Nat), i = .int .i64 l ∧ l ≤ n ∧ BoxN wr g5 r ∧ BoxN wr g6 s ∧ PowInv x n r s l ∧ Lim r ∧ Lim s ∧ Below w0.heap.size w0 wr) (fun i _ => (intOf i).toNat)
        case atStart => exact ⟨1, x, n, rfl, Nat.le_refl _, hP5, hP6, HPI.out, lim_small 1 (by decide), hLx, hbx⟩
        case round =>
          obtain ⟨r, s, l, rfl, hln, ⟨ar, lr, cr, hbr, hsr⟩, ⟨as', ls, cs, hbs, hss⟩, hinv, hLr, hLs, hbel⟩ := hrel
          clear hP5 hP6 y1 y2 y3 y4 y5 hyx hbx
          have hlr : lr ≤ 40 := by have := hsr.length; unfold Lim at hLr; omega
          have hls : ls ≤ 40 := by have := hss.length; unfold Lim at hLs; omega
          by_cases hl0 : l = 0
          · subst hl0
            have hres : r = x ^ n := by have := hinv.1; simpa using this
            clear hinv HPI
            subst hres
            generalize hdr : decide (x ^ n < 0) = dr at *
            have Hdr := Lib.hid hdr
            clear hdr
            obtain ⟨c0, c1, f0, f1, lt1⟩ := hbr
            obtain ⟨r1, r2, r3, r4, r5⟩ := box2 (w := wr) (g := w.heap.size + 1 + 1) ((hbel.block _ hl3).trans HR.out)
            go_wp2
            refine bodyPost_ret (v := .agg #[.bool dr, .slice ar lr cr]) (by simp [results, Tryz.results151, go_sem, r1, r2]) rfl ?_
            exact .inl ⟨ar, lr, cr, by rw [Hdr.out], hsr.store2 r1 r2 _ _, ((hBW.trans (hbel.mono (by omega))).setCell (by simp; omega) _).setCell (by simp; omega) _⟩
          · have hct := fun w h1 h2 => times_any r s ar lr cr as' ls cs w h1 h2 (by omega) (by omega)
            have hsq := fun w h1 h2 => times_any s s as' ls cs as' ls cs w h1 h2 (by omega) (by omega)
            generalize hdr : decide (r < 0) = dr at *
            generalize hds : decide (s < 0) = ds at *
            have Hdr := Lib.hid hdr
            have Hds := Lib.hid hds
            have Hct := Lib.hid hct
            have Hsq := Lib.hid hsq
            have Hinv := Lib.hid hinv
            clear hdr hds hct hsq hinv hLx HPI
            have kr0 := hbr.c0
            have kr1 := hbr.c1
            have ks0 := hbs.c0
            have ks1 := hbs.c1
            have kl5 := hbr.lt
            have kl6 := hbs.lt
            by_cases hodd : l % 2 = 1
            · have ho : (l : Int) % 2 = 1 := by omega
              have hfo := Lib.hid (Hinv.out.odd hodd)
              by_cases hfit0 : Lim (r * s)
              · have hfit := Lib.hid hfit0
                clear hfit0
                by_cases hbig : 1 < l
                · by_cases hfit20 : Lim (s * s)
                  · have hfit2 := Lib.hid hfit20
                    clear hfit20
                    go_wp2_with fail
                    refine (Hct.out _ hsr hss).mono ?_
                    rintro e w1 ⟨a1, l1, c1, rfl, hn1, hb1⟩
                    have hG1 := hbr.below hb1 hbr.lt
                    have hH1 := hbs.below hb1 hbs.lt
                    have hg1 := hsr.below hb1
                    have hh1 := hss.below hb1
                    have hW1 := hbel.trans (hb1.mono hbel.size)
                    generalize hd1 : decide (r * s < 0) = d1 at *
                    have Hd1 := Lib.hid hd1
                    have hn2 := hn1.store2 hG1.c0 hG1.c1 (.bool d1) (.slice a1 l1 c1)
                    have hh2 := hh1.store2 hG1.c0 hG1.c1 (.bool d1) (.slice a1 l1 c1)
                    have hG2 := hG1.set (.bool d1) (.slice a1 l1 c1)
                    have hH2 := (hH1.other (fun e => hne56 e.symm) 0 (.bool d1)).other (fun e => hne56 e.symm) 1 (.slice a1 l1 c1)
                    have hW2 := (hW1.setCell (p := ⟨g5, 0, none⟩) hg5 (.bool d1)).setCell (p := ⟨g5, 1, none⟩) hg5 (.slice a1 l1 c1)
                    have x0 := hG1.c0
                    have x1 := hG1.c1
                    have x2 := hG1.f0
                    have x3 := hG1.f1
                    have x4 := hG1.lt
                    have y0 := hG2.c0
                    have y1 := hG2.c1
                    clear hn1 hb1 hg1 hh1 hH1 hW1 hd1 hG1
                    have hlp : l1 ≤ 40 := by have := hn2.length; have h := hfit.out; unfold Lim at h; omega
                    go_wp2_with (go_at_call 137; refine (fit_ok _ _ _ _ _ hlp).mono ?_; rintro e w2 ⟨rfl, hb2⟩; have hG3 := hG2.below hb2 hG2.lt; have hH3 := hH2.below hb2 hH2.lt; have hn3 := hn2.below hb2; have hh3 := hh2.below hb2; have hW3 := hW2.trans (hb2.mono hW2.size); have z0 := hH3.c0; have z1 := hH3.c1; clear hG2 hH2 hn2 hh2 hW2 hb2 x0 x1 x2 x3 x4 y0 y1)
                    go_wp2_with fail
                    refine (Hsq.out _ hh3 hh3).mono ?_
                    rintro e w1q ⟨a1q, l1q, c1q, rfl, hn1q, hb1q⟩
                    have hG1q := hH3.below hb1q hH3.lt
                    have hH1q := hG3.below hb1q hG3.lt
                    have hg1q := hh3.below hb1q
                    have hh1q := hn3.below hb1q
                    have hW1q := hW3.trans (hb1q.mono hW3.size)
                    generalize hd1q : decide (s * s < 0) = d1q at *
                    have Hd1q := Lib.hid hd1q
                    have hn2q := hn1q.store2 hG1q.c0 hG1q.c1 (.bool d1q) (.slice a1q l1q c1q)
                    have hh2q := hh1q.store2 hG1q.c0 hG1q.c1 (.bool d1q) (.slice a1q l1q c1q)
                    have hG2q := hG1q.set (.bool d1q) (.slice a1q l1q c1q)
                    have hH2q := (hH1q.other hne56 0 (.bool d1q)).other hne56 1 (.slice a1q l1q c1q)
                    have hW2q := (hW1q.setCell (p := ⟨g6, 0, none⟩) hg6 (.bool d1q)).setCell (p := ⟨g6, 1, none⟩) hg6 (.slice a1q l1q c1q)
                    have x0q := hG1q.c0
                    have x1q := hG1q.c1
                    have x2q := hG1q.f0
                    have x3q := hG1q.f1
                    have x4q := hG1q.lt
                    have y0q := hG2q.c0
                    have y1q := hG2q.c1
                    clear hn1q hb1q hg1q hh1q hH1q hW1q hd1q hG1q
                    have hlpq : l1q ≤ 40 := by have := hn2q.length; have h := hfit2.out; unfold Lim at h; omega
                    go_wp2_with (go_at_call 137; refine (fit_ok _ _ _ _ _ hlpq).mono ?_; rintro e w2q ⟨rfl, hb2q⟩; have hG4 := hG2q.below hb2q hG2q.lt; have hH4 := hH2q.below hb2q hH2q.lt; have hn4 := hn2q.below hb2q; have hh4 := hh2q.below hb2q; have hW4 := hW2q.trans (hb2q.mono hW2q.size); have z0q := hH3.c0; have z1q := hH3.c1; clear hG2q hH2q hn2q hh2q hW2q hb2q x0q x1q x2q x3q x4q y0q y1q)
                    go_wp2
                    go_roundw
                    case rel => exact ⟨r * s, s * s, l / 2, congrArg (Value.int .i64) (by omega : (l : Int) / 2 = ((l / 2 : Nat) : Int)), by omega, ⟨a1, l1, c1, by rw [Hd1.out]; exact hH4, hh4⟩, ⟨a1q, l1q, c1q, by rw [Hd1q.out]; exact hG4, hn4⟩, ⟨by have := PowInv.half hfo.out.2.1 (by omega); rwa [show (l - 1) / 2 = l / 2 by omega] at this, hfo.out.2.2, natAbs_pos_mul Hinv.out.2.2 Hinv.out.2.2⟩, hfit.out, hfit2.out, hW4⟩
                    case measure => first | (simp [intOf]; done) | (simp [intOf]; omega)
                  · have hfit2 := Lib.hid hfit20
                    clear hfit20
                    go_wp2_with fail
                    refine (Hct.out _ hsr hss).mono ?_
                    rintro e w1 ⟨a1, l1, c1, rfl, hn1, hb1⟩
                    have hG1 := hbr.below hb1 hbr.lt
                    have hH1 := hbs.below hb1 hbs.lt
                    have hg1 := hsr.below hb1
                    have hh1 := hss.below hb1
                    have hW1 := hbel.trans (hb1.mono hbel.size)
                    generalize hd1 : decide (r * s < 0) = d1 at *
                    have Hd1 := Lib.hid hd1
                    have hn2 := hn1.store2 hG1.c0 hG1.c1 (.bool d1) (.slice a1 l1 c1)
                    have hh2 := hh1.store2 hG1.c0 hG1.c1 (.bool d1) (.slice a1 l1 c1)
                    have hG2 := hG1.set (.bool d1) (.slice a1 l1 c1)
                    have hH2 := (hH1.other (fun e => hne56 e.symm) 0 (.bool d1)).other (fun e => hne56 e.symm) 1 (.slice a1 l1 c1)
                    have hW2 := (hW1.setCell (p := ⟨g5, 0, none⟩) hg5 (.bool d1)).setCell (p := ⟨g5, 1, none⟩) hg5 (.slice a1 l1 c1)
                    have x0 := hG1.c0
                    have x1 := hG1.c1
                    have x2 := hG1.f0
                    have x3 := hG1.f1
                    have x4 := hG1.lt
                    have y0 := hG2.c0
                    have y1 := hG2.c1
                    clear hn1 hb1 hg1 hh1 hH1 hW1 hd1 hG1
                    have hlp : l1 ≤ 40 := by have := hn2.length; have h := hfit.out; unfold Lim at h; omega
                    go_wp2_with (go_at_call 137; refine (fit_ok _ _ _ _ _ hlp).mono ?_; rintro e w2 ⟨rfl, hb2⟩; have hG3 := hG2.below hb2 hG2.lt; have hH3 := hH2.below hb2 hH2.lt; have hn3 := hn2.below hb2; have hh3 := hh2.below hb2; have hW3 := hW2.trans (hb2.mono hW2.size); have z0 := hH3.c0; have z1 := hH3.c1; clear hG2 hH2 hn2 hh2 hW2 hb2 x0 x1 x2 x3 x4 y0 y1)
                    go_wp2_with fail
                    refine (Hsq.out _ hh3 hh3).mono ?_
                    rintro e w1q ⟨a1q, l1q, c1q, rfl, hn1q, hb1q⟩
                    have hG1q := hH3.below hb1q hH3.lt
                    have hH1q := hG3.below hb1q hG3.lt
                    have hg1q := hh3.below hb1q
                    have hh1q := hn3.below hb1q
                    have hW1q := hW3.trans (hb1q.mono hW3.size)
                    generalize hd1q : decide (s * s < 0) = d1q at *
                    have Hd1q := Lib.hid hd1q
                    have hn2q := hn1q.store2 hG1q.c0 hG1q.c1 (.bool d1q) (.slice a1q l1q c1q)
                    have hh2q := hh1q.store2 hG1q.c0 hG1q.c1 (.bool d1q) (.slice a1q l1q c1q)
                    have hG2q := hG1q.set (.bool d1q) (.slice a1q l1q c1q)
                    have hH2q := (hH1q.other hne56 0 (.bool d1q)).other hne56 1 (.slice a1q l1q c1q)
                    have hW2q := (hW1q.setCell (p := ⟨g6, 0, none⟩) hg6 (.bool d1q)).setCell (p := ⟨g6, 1, none⟩) hg6 (.slice a1q l1q c1q)
                    have x0q := hG1q.c0
                    have x1q := hG1q.c1
                    have x2q := hG1q.f0
                    have x3q := hG1q.f1
                    have x4q := hG1q.lt
                    have y0q := hG2q.c0
                    have y1q := hG2q.c1
                    clear hn1q hb1q hg1q hh1q hH1q hW1q hd1q hG1q
                    have hlpq : 40 < l1q := by have := hn2q.length; have h := hfit2.out; unfold Lim at h; omega
                    have hlp2q := hn2q.len_le
                    go_wp2_with (go_at_call 137; refine (fit_panics _ _ _ _ _ hlpq (by omega)).mono ?_; rintro e w2q ⟨rfl, hb2q⟩)
                    exact ⟨rfl, .inr ⟨⟨_, _, rfl⟩, hBW.trans ((hW2q.trans (hb2q.mono hW2q.size)).mono (by omega)), fun h => hfit2.out (lim_mono (PowInv.square Hinv.out.1 Hinv.out.2.1 Hinv.out.2.2 hbig) h)⟩⟩
                · obtain rfl : l = 1 := by omega
                  go_wp2_with fail
                  refine (Hct.out _ hsr hss).mono ?_
                  rintro e w1 ⟨a1, l1, c1, rfl, hn1, hb1⟩
                  have hG1 := hbr.below hb1 hbr.lt
                  have hH1 := hbs.below hb1 hbs.lt
                  have hg1 := hsr.below hb1
                  have hh1 := hss.below hb1
                  have hW1 := hbel.trans (hb1.mono hbel.size)
                  generalize hd1 : decide (r * s < 0) = d1 at *
                  have Hd1 := Lib.hid hd1
                  have hn2 := hn1.store2 hG1.c0 hG1.c1 (.bool d1) (.slice a1 l1 c1)
                  have hh2 := hh1.store2 hG1.c0 hG1.c1 (.bool d1) (.slice a1 l1 c1)
                  have hG2 := hG1.set (.bool d1) (.slice a1 l1 c1)
                  have hH2 := (hH1.other (fun e => hne56 e.symm) 0 (.bool d1)).other (fun e => hne56 e.symm) 1 (.slice a1 l1 c1)
                  have hW2 := (hW1.setCell (p := ⟨g5, 0, none⟩) hg5 (.bool d1)).setCell (p := ⟨g5, 1, none⟩) hg5 (.slice a1 l1 c1)
                  have x0 := hG1.c0
                  have x1 := hG1.c1
                  have x2 := hG1.f0
                  have x3 := hG1.f1
                  have x4 := hG1.lt
                  have y0 := hG2.c0
                  have y1 := hG2.c1
                  clear hn1 hb1 hg1 hh1 hH1 hW1 hd1 hG1
                  have hlp : l1 ≤ 40 := by have := hn2.length; have h := hfit.out; unfold Lim at h; omega
                  go_wp2_with (go_at_call 137; refine (fit_ok _ _ _ _ _ hlp).mono ?_; rintro e w2 ⟨rfl, hb2⟩; have hG3 := hG2.below hb2 hG2.lt; have hH3 := hH2.below hb2 hH2.lt; have hn3 := hn2.below hb2; have hh3 := hh2.below hb2; have hW3 := hW2.trans (hb2.mono hW2.size); have z0 := hH3.c0; have z1 := hH3.c1; clear hG2 hH2 hn2 hh2 hW2 hb2 x0 x1 x2 x3 x4 y0 y1)
                  go_wp2
                  go_roundw
                  case rel => exact ⟨r * s, s, 1 / 2, congrArg (Value.int .i64) (by omega : ((1 : Nat) : Int) / 2 = ((1 / 2 : Nat) : Int)), by omega, ⟨a1, l1, c1, by rw [Hd1.out]; exact hG3, hn3⟩, ⟨as', ls, cs, by rw [Hds.out]; exact hH3, hh3⟩, ⟨by have := hfo.out.2.1; rw [show 1 / 2 = 0 by omega]; rw [show 1 - 1 = 0 by omega] at this; exact this, hfo.out.2.2, Hinv.out.2.2⟩, hfit.out, hLs, hW3⟩
                  case measure => first | (simp [intOf]; done) | (simp [intOf]; omega)
              · have hfit := Lib.hid hfit0
                clear hfit0
                go_wp2_with fail
                refine (Hct.out _ hsr hss).mono ?_
                rintro e w1 ⟨a1, l1, c1, rfl, hn1, hb1⟩
                have hG1 := hbr.below hb1 hbr.lt
                have hH1 := hbs.below hb1 hbs.lt
                have hg1 := hsr.below hb1
                have hh1 := hss.below hb1
                have hW1 := hbel.trans (hb1.mono hbel.size)
                generalize hd1 : decide (r * s < 0) = d1 at *
                have Hd1 := Lib.hid hd1
                have hn2 := hn1.store2 hG1.c0 hG1.c1 (.bool d1) (.slice a1 l1 c1)
                have hh2 := hh1.store2 hG1.c0 hG1.c1 (.bool d1) (.slice a1 l1 c1)
                have hG2 := hG1.set (.bool d1) (.slice a1 l1 c1)
                have hH2 := (hH1.other (fun e => hne56 e.symm) 0 (.bool d1)).other (fun e => hne56 e.symm) 1 (.slice a1 l1 c1)
                have hW2 := (hW1.setCell (p := ⟨g5, 0, none⟩) hg5 (.bool d1)).setCell (p := ⟨g5, 1, none⟩) hg5 (.slice a1 l1 c1)
                have x0 := hG1.c0
                have x1 := hG1.c1
                have x2 := hG1.f0
                have x3 := hG1.f1
                have x4 := hG1.lt
                have y0 := hG2.c0
                have y1 := hG2.c1
                clear hn1 hb1 hg1 hh1 hH1 hW1 hd1 hG1
                have hlp : 40 < l1 := by have := hn2.length; have h := hfit.out; unfold Lim at h; omega
                have hlp2 := hn2.len_le
                go_wp2_with (go_at_call 137; refine (fit_panics _ _ _ _ _ hlp (by omega)).mono ?_; rintro e w2 ⟨rfl, hb2⟩)
                exact ⟨rfl, .inr ⟨⟨_, _, rfl⟩, hBW.trans ((hW2.trans (hb2.mono hW2.size)).mono (by omega)), fun h => hfit.out (lim_mono hfo.out.1 h)⟩⟩
            · have ho : ¬ (l : Int) % 2 = 1 := by omega
              have ho0 : (l : Int) % 2 = 0 := by omega
              have hbig : 1 < l := by omega
              by_cases hfit20 : Lim (s * s)
              · have hfit2 := Lib.hid hfit20
                clear hfit20
                go_wp2_with fail
                refine (Hsq.out _ hss hss).mono ?_
                rintro e w1 ⟨a1, l1, c1, rfl, hn1, hb1⟩
                have hG1 := hbs.below hb1 hbs.lt
                have hH1 := hbr.below hb1 hbr.lt
                have hg1 := hss.below hb1
                have hh1 := hsr.below hb1
                have hW1 := hbel.trans (hb1.mono hbel.size)
                generalize hd1 : decide (s * s < 0) = d1 at *
                have Hd1 := Lib.hid hd1
                have hn2 := hn1.store2 hG1.c0 hG1.c1 (.bool d1) (.slice a1 l1 c1)
                have hh2 := hh1.store2 hG1.c0 hG1.c1 (.bool d1) (.slice a1 l1 c1)
                have hG2 := hG1.set (.bool d1) (.slice a1 l1 c1)
                have hH2 := (hH1.other hne56 0 (.bool d1)).other hne56 1 (.slice a1 l1 c1)
                have hW2 := (hW1.setCell (p := ⟨g6, 0, none⟩) hg6 (.bool d1)).setCell (p := ⟨g6, 1, none⟩) hg6 (.slice a1 l1 c1)
                have x0 := hG1.c0
                have x1 := hG1.c1
                have x2 := hG1.f0
                have x3 := hG1.f1
                have x4 := hG1.lt
                have y0 := hG2.c0
                have y1 := hG2.c1
                clear hn1 hb1 hg1 hh1 hH1 hW1 hd1 hG1
                have hlp : l1 ≤ 40 := by have := hn2.length; have h := hfit2.out; unfold Lim at h; omega
                go_wp2_with (go_at_call 137; refine (fit_ok _ _ _ _ _ hlp).mono ?_; rintro e w2 ⟨rfl, hb2⟩; have hG3 := hG2.below hb2 hG2.lt; have hH3 := hH2.below hb2 hH2.lt; have hn3 := hn2.below hb2; have hh3 := hh2.below hb2; have hW3 := hW2.trans (hb2.mono hW2.size); have z0 := hH3.c0; have z1 := hH3.c1; clear hG2 hH2 hn2 hh2 hW2 hb2 x0 x1 x2 x3 x4 y0 y1)
                go_wp2
                go_roundw
                case rel => exact ⟨r, s * s, l / 2, congrArg (Value.int .i64) (by omega : (l : Int) / 2 = ((l / 2 : Nat) : Int)), by omega, ⟨ar, lr, cr, by rw [Hdr.out]; exact hH3, hh3⟩, ⟨a1, l1, c1, by rw [Hd1.out]; exact hG3, hn3⟩, ⟨PowInv.half Hinv.out.1 (by omega), Hinv.out.2.1, natAbs_pos_mul Hinv.out.2.2 Hinv.out.2.2⟩, hLr, hfit2.out, hW3⟩
                case measure => first | (simp [intOf]; done) | (simp [intOf]; omega)
              · have hfit2 := Lib.hid hfit20
                clear hfit20
                go_wp2_with fail
                refine (Hsq.out _ hss hss).mono ?_
                rintro e w1 ⟨a1, l1, c1, rfl, hn1, hb1⟩
                have hG1 := hbs.below hb1 hbs.lt
                have hH1 := hbr.below hb1 hbr.lt
                have hg1 := hss.below hb1
                have hh1 := hsr.below hb1
                have hW1 := hbel.trans (hb1.mono hbel.size)
                generalize hd1 : decide (s * s < 0) = d1 at *
                have Hd1 := Lib.hid hd1
                have hn2 := hn1.store2 hG1.c0 hG1.c1 (.bool d1) (.slice a1 l1 c1)
                have hh2 := hh1.store2 hG1.c0 hG1.c1 (.bool d1) (.slice a1 l1 c1)
                have hG2 := hG1.set (.bool d1) (.slice a1 l1 c1)
                have hH2 := (hH1.other hne56 0 (.bool d1)).other hne56 1 (.slice a1 l1 c1)
                have hW2 := (hW1.setCell (p := ⟨g6, 0, none⟩) hg6 (.bool d1)).setCell (p := ⟨g6, 1, none⟩) hg6 (.slice a1 l1 c1)
                have x0 := hG1.c0
                have x1 := hG1.c1
                have x2 := hG1.f0
                have x3 := hG1.f1
                have x4 := hG1.lt
                have y0 := hG2.c0
                have y1 := hG2.c1
                clear hn1 hb1 hg1 hh1 hH1 hW1 hd1 hG1
                have hlp : 40 < l1 := by have := hn2.length; have h := hfit2.out; unfold Lim at h; omega
                have hlp2 := hn2.len_le
                go_wp2_with (go_at_call 137; refine (fit_panics _ _ _ _ _ hlp (by omega)).mono ?_; rintro e w2 ⟨rfl, hb2⟩)
                exact ⟨rfl, .inr ⟨⟨_, _, rfl⟩, hBW.trans ((hW2.trans (hb2.mono hW2.size)).mono (by omega)), fun h => hfit2.out (lim_mono (PowInv.square Hinv.out.1 Hinv.out.2.1 Hinv.out.2.2 hbig) h)⟩⟩
end Go.Proofs.YtfjnplhhgdfepaaGreatDoor

/- Pow. -/
namespace Go.Proofs.YtfjnplhhgdfepaaGreatDoor
open Go.RowKit

set_option maxHeartbeats 1000000 in
theorem power_unit (x : Int) (n : Nat) (hx1 : x.natAbs ≤ 1) (ax : Option Addr) (la ca : Nat) (ay : Option Addr) (lb cb : Nat) (sy : Bool) (w : World) (hx : Sl w ax la ca (parts x.natAbs)) (hy : Sl w ay lb cb (parts n)) (hm2 : lb ≤ 1000000) :
    Calls Tryz.prog 151 #[.agg #[.bool (decide (x < 0)), .slice ax la ca], .agg #[.bool sy, .slice ay lb cb]] w (Calc (x ^ n) w) := by
  have hun := fun w h1 h2 => unit_any x n hx1 ax la ca ay lb cb sy w h1 h2 hm2
  by_cases hx0 : x.natAbs = 0
  · obtain rfl : la = 0 := by have := hx.length; rw [hx0, parts_zero] at this; exact this.symm
    generalize hsx : decide (x < 0) = sx at *
    have Hun := Lib.hid hun
    clear hun hsx
    go_enter Tryz.func151, Tryz.ntmps151
    go_wp2_with fail
    refine (Hun.out _ (((hx.alloc _).alloc _).alloc _) (((hy.alloc _).alloc _).alloc _)).mono ?_
    rintro e w0 ⟨ao, len, cap, rfl, hs, hb⟩
    obtain ⟨hA, hB, hR, hsz, hbb⟩ := kept3 _ _ _ _ hb
    obtain ⟨f1, f2, f3, f4, f5⟩ := box2 hR
    clear hA hB hR hb
    generalize hdz : decide (x ^ n < 0) = dz at *
    have Hdz := Lib.hid hdz
    clear hdz
    go_wp2
    refine bodyPost_ret (v := .agg #[.bool dz, .slice ao len cap]) (by simp [results, Tryz.results151, go_sem, f1, f2]) rfl ?_
    exact .inl ⟨ao, len, cap, by rw [Hdz.out], hs.store2 f1 f2 _ _, (hbb.setCell (by simp; omega) _).setCell (by simp; omega) _⟩
  · have hx1' : x.natAbs = 1 := by omega
    obtain rfl : la = 1 := by have := hx.length; rw [hx1', parts_1] at this; exact this.symm
    have hone : decide (parts x.natAbs = [1]) = true := by rw [hx1', parts_1]; rfl
    have Hone := Lib.hid hone
    clear hone
    generalize hsx : decide (x < 0) = sx at *
    have Hun := Lib.hid hun
    clear hun hsx
    go_enter Tryz.func151, Tryz.ntmps151
    go_wp2_with fail
    refine (equal_any _ _ _ _ _ _ _ _ _ ((((hx.alloc _).alloc _).alloc _).alloc _) (RowOf.sl (xs := [1]) (heap4_3 w _ _ _ _) 1 rfl (by omega))).mono ?_
    rintro e w0 ⟨rfl, hb⟩
    rw [Hone.out]
    obtain ⟨hA, hB, hR, hS, hsz, hbb⟩ := kept4 _ _ _ _ _ hb
    have hx2 := ((((hx.alloc (.cells #[.bool sx, .slice ax 1 ca] 24)).alloc (.cells #[.bool sy, .slice ay lb cb] 24)).alloc (.cells #[.bool false, .slice none 0 0] 24)).alloc (.cells #[.int .i64 1] 3)).below hb
    have hy2 := ((((hy.alloc (.cells #[.bool sx, .slice ax 1 ca] 24)).alloc (.cells #[.bool sy, .slice ay lb cb] 24)).alloc (.cells #[.bool false, .slice none 0 0] 24)).alloc (.cells #[.int .i64 1] 3)).below hb
    obtain ⟨k1, k2, k3, k4, k5⟩ := box2 hA
    obtain ⟨l1, l2, l3, l4, l5⟩ := box2 hB
    have HR := Lib.hid hR
    clear hA hB hR hS hb
    go_wp2_with fail
    refine (Hun.out _ hx2 hy2).mono ?_
    rintro e w1 ⟨ao, len, cap, rfl, hs, hb1⟩
    have hR1 := (hb1.block _ (Array.getElem?_eq_some_iff.1 HR.out).1).trans HR.out
    obtain ⟨f1, f2, f3, f4, f5⟩ := box2 (w := w1) (g := w.heap.size + 1 + 1) hR1
    have hbb1 := hbb.trans (hb1.mono (by omega))
    clear hb1 hR1
    generalize hdz : decide (x ^ n < 0) = dz at *
    have Hdz := Lib.hid hdz
    clear hdz
    go_wp2
    refine bodyPost_ret (v := .agg #[.bool dz, .slice ao len cap]) (by simp [results, Tryz.results151, go_sem, f1, f2]) rfl ?_
    exact .inl ⟨ao, len, cap, by rw [Hdz.out], hs.store2 f1 f2 _ _, (hbb1.setCell (by simp; omega) _).setCell (by simp; omega) _⟩

theorem power_any (x : Int) (n : Nat) (ax : Option Addr) (la ca : Nat) (ay : Option Addr) (lb cb : Nat) (sy : Bool) (w : World) (hx : Sl w ax la ca (parts x.natAbs)) (hy : Sl w ay lb cb (parts n)) (hm : la ≤ 40) (hm2 : lb ≤ 1000000) :
    Calls Tryz.prog 151 #[.agg #[.bool (decide (x < 0)), .slice ax la ca], .agg #[.bool sy, .slice ay lb cb]] w (Calc (x ^ n) w) := by
  by_cases h : 2 ≤ x.natAbs
  · exact power_big x n h ax la ca ay lb cb sy w hx hy hm hm2
  · exact power_unit x n (by omega) ax la ca ay lb cb sy w hx hy hm2

theorem Pow_bad (n1 : Bool) (ax : Option Addr) (la ca : Nat) (xs : List Int) (n2 : Bool) (ay : Option Addr) (lb cb : Nat) (ys : List Int) (w : World) (hx : Sl w ax la ca xs) (hy : Sl w ay lb cb ys) (hno : (okInt n1 xs && okInt n2 ys) = false) :
    Calls Tryz.prog 54 #[.agg #[.bool n1, .slice ax la ca], .agg #[.bool n2, .slice ay lb cb]] w (RetE 0 10 w) :=
  wrap_Pow 0 10 n1 ax la ca xs n2 ay lb cb ys w hx hy fun w h1 h2 => combine_bad 94 n1 ax la ca xs n2 ay lb cb ys w h1 h2 hno
theorem Pow_neg (x y : Int) (hlx : Lim x) (hly : Lim y) (hy0 : y < 0) (ax : Option Addr) (la ca : Nat) (ay : Option Addr) (lb cb : Nat) (w : World) (hx : Sl w ax la ca (parts x.natAbs)) (hy : Sl w ay lb cb (parts y.natAbs)) :
    Calls Tryz.prog 54 #[.agg #[.bool (decide (x < 0)), .slice ax la ca], .agg #[.bool (decide (y < 0)), .slice ay lb cb]] w (RetE 0 1 w) := by
  have hok := two_ok ⟨hlx, hly, rfl, rfl, rfl, rfl⟩
  have hsg : signOf (decide (y < 0)) lb < 0 := by
    have h1 := hy.length
    have h2 := parts_nil_iff y.natAbs
    have : lb ≠ 0 := fun e => by have := h2.1 (List.eq_nil_of_length_eq_zero (by omega)); omega
    unfold signOf; rw [if_neg this]; simp [hy0]
  have hlb : lb ≤ 9223372036854775807 := by have := hy.len_le; omega
  exact wrap_Pow 0 1 _ ax la ca _ _ ay lb cb _ w hx hy fun w hx hy => combine_refused 94 _ _ 1 (by omega) way_pow _ ax la ca _ _ ay lb cb _ w hx hy hok (fun w1 => by have := refuseNegative_any (decide (y < 0)) ay lb cb w1 hlb; rwa [if_pos hsg] at this)
theorem Pow_ok (x y : Int) (hlx : Lim x) (hly : Lim y) (hy0 : 0 ≤ y) (ax : Option Addr) (la ca : Nat) (ay : Option Addr) (lb cb : Nat) (w : World) (hx : Sl w ax la ca (parts x.natAbs)) (hy : Sl w ay lb cb (parts y.natAbs)) :
    Calls Tryz.prog 54 #[.agg #[.bool (decide (x < 0)), .slice ax la ca], .agg #[.bool (decide (y < 0)), .slice ay lb cb]] w (Out (x ^ y.natAbs) w) := by
  have hok := two_ok ⟨hlx, hly, rfl, rfl, rfl, rfl⟩
  have h1 : la ≤ 40 := by have := hlx; unfold Lim at this; rwa [hx.length] at this
  have h2 : lb ≤ 40 := by have := hly; unfold Lim at this; rwa [hy.length] at this
  have hsg : ¬ signOf (decide (y < 0)) lb < 0 := by
    unfold signOf
    split
    · omega
    · simp; omega
  have hc := fun w hx hy => combine_calc 94 _ _ (x ^ y.natAbs) way_pow _ ax la ca _ _ ay lb cb _ w hx hy hok (fun w1 => by have := refuseNegative_any (decide (y < 0)) ay lb cb w1 (by omega); rwa [if_neg hsg] at this) (fun w1 hx hy => power_any x y.natAbs _ _ _ _ _ _ _ w1 hx hy h1 (by omega))
  by_cases hl : Lim (x ^ y.natAbs)
  · exact (wrap_Pow _ _ _ ax la ca _ _ ay lb cb _ w hx hy fun w hx hy => (hc w hx hy).mono fun _ _ h => h.1 hl).mono fun _ _ h => ⟨fun _ => h, fun n => absurd hl n⟩
  · exact (wrap_Pow _ _ _ ax la ca _ _ ay lb cb _ w hx hy fun w hx hy => (hc w hx hy).mono fun _ _ h => h.2 hl).mono fun _ _ h => ⟨fun n => absurd n hl, fun _ => h⟩
end Go.Proofs.YtfjnplhhgdfepaaGreatDoor

/- Lines of Bezout: less, opposite. -/
namespace Go.Proofs.YtfjnplhhgdfepaaGreatDoor
open Go.RowKit

/-- A call that hands back a line: three integers. -/
def RetL (n x y : Int) (w : World) (e : Ending) (w' : World) : Prop :=
  ∃ a1 l1 c1 a2 l2 c2 a3 l3 c3, e = .returned (.agg #[.bool (decide (n < 0)), .slice a1 l1 c1, .bool (decide (x < 0)), .slice a2 l2 c2, .bool (decide (y < 0)), .slice a3 l3 c3]) ∧
    Sl w' a1 l1 c1 (parts n.natAbs) ∧ Sl w' a2 l2 c2 (parts x.natAbs) ∧ Sl w' a3 l3 c3 (parts y.natAbs) ∧ Below w.heap.size w w'

/-- What a walk wants to know of a block that holds the six cells of a line. -/
theorem box6 {w : World} {g : Nat} {a b c d e f : Value} {t : TypeId} (h : w.heap[g]? = some (.cells #[a, b, c, d, e, f] t (0, 0))) :
    (w.cell? ⟨g, 0, none⟩ = some a ∧ w.cell? ⟨g, 1, none⟩ = some b ∧ w.cell? ⟨g, 2, none⟩ = some c ∧ w.cell? ⟨g, 3, none⟩ = some d ∧ w.cell? ⟨g, 4, none⟩ = some e ∧ w.cell? ⟨g, 5, none⟩ = some f) ∧
    (w.frozen? ⟨g, 0, none⟩ = false ∧ w.frozen? ⟨g, 1, none⟩ = false ∧ w.frozen? ⟨g, 2, none⟩ = false ∧ w.frozen? ⟨g, 3, none⟩ = false ∧ w.frozen? ⟨g, 4, none⟩ = false ∧ w.frozen? ⟨g, 5, none⟩ = false) ∧ g < w.heap.size := by
  refine ⟨⟨?_, ?_, ?_, ?_, ?_, ?_⟩, ⟨?_, ?_, ?_, ?_, ?_, ?_⟩, (Array.getElem?_eq_some_iff.1 h).1⟩ <;> simp [World.cell?, World.frozen?, h]

/-- The world with a line stored into block g. -/
def put6 (w : World) (g : Nat) (a b c d e f : Value) : World :=
  (((((w.setCell ⟨g, 0, none⟩ a).setCell ⟨g, 1, none⟩ b).setCell ⟨g, 2, none⟩ c).setCell ⟨g, 3, none⟩ d).setCell ⟨g, 4, none⟩ e).setCell ⟨g, 5, none⟩ f
theorem Sl.store6 {w : World} {ao : Option Addr} {len cap : Nat} {xs : List Int} (h : Sl w ao len cap xs) {g : Nat} {p1 p2 p3 : Bool} {q1 q2 q3 : Option Addr} {r1 r2 r3 s1 s2 s3 : Nat} {t : TypeId}
    (hg : w.heap[g]? = some (.cells #[.bool p1, .slice q1 r1 s1, .bool p2, .slice q2 r2 s2, .bool p3, .slice q3 r3 s3] t (0, 0))) (a b c d e f : Value) : Sl (put6 w g a b c d e f) ao len cap xs := by
  obtain ⟨⟨h0, h1, h2, h3, h4, h5⟩, _, _⟩ := box6 hg
  unfold put6
  refine Sl.store (v := .slice q3 r3 s3) (Sl.store (v := .bool p3) (Sl.store (v := .slice q2 r2 s2) (Sl.store (v := .bool p2) (Sl.store (v := .slice q1 r1 s1) (Sl.store (v := .bool p1) h h0 (fun _ e => by cases e) a) ?_ (fun _ e => by cases e) b) ?_ (fun _ e => by cases e) c) ?_ (fun _ e => by cases e) d) ?_ (fun _ e => by cases e) e) ?_ (fun _ e => by cases e) f
  all_goals
    repeat rw [cell_set_ne (by simp) rfl rfl]
    assumption
theorem below_put6 {B : Nat} {w0 w : World} (h : Below B w0 w) {g : Nat} (hg : B ≤ g) (a b c d e f : Value) : Below B w0 (put6 w g a b c d e f) := by
  unfold put6
  exact (((((h.setCell (p := ⟨g, 0, none⟩) hg _).setCell (p := ⟨g, 1, none⟩) hg _).setCell (p := ⟨g, 2, none⟩) hg _).setCell (p := ⟨g, 3, none⟩) hg _).setCell (p := ⟨g, 4, none⟩) hg _).setCell (p := ⟨g, 5, none⟩) hg _
theorem put6_cell {w : World} {g k o : Nat} (h : k ≠ g) (a b c d e f : Value) : (put6 w g a b c d e f).cell? ⟨k, o, none⟩ = w.cell? ⟨k, o, none⟩ := by
  unfold put6
  have hn : ∀ j, (⟨g, j, none⟩ : Addr) ≠ ⟨k, o, none⟩ := fun j e => h (congrArg Addr.block e).symm
  rw [cell_set_ne (hn _) rfl rfl, cell_set_ne (hn _) rfl rfl, cell_set_ne (hn _) rfl rfl, cell_set_ne (hn _) rfl rfl, cell_set_ne (hn _) rfl rfl, cell_set_ne (hn _) rfl rfl]
/-- A call that hands back the integer z, its sign by name. -/
def RetNb (b : Bool) (z : Int) (w : World) (e : Ending) (w' : World) : Prop :=
  ∃ ao len cap, e = .returned (.agg #[.bool b, .slice ao len cap]) ∧ Sl w' ao len cap (parts z.natAbs) ∧ Below w.heap.size w w'
theorem RetN.b {z : Int} {w : World} {e : Ending} {w' : World} (h : RetN z w e w') : RetNb (decide (z < 0)) z w e w' := h

set_option maxRecDepth 100000 in
set_option maxHeartbeats 4000000 in
theorem less_any (n x y m u v q : Int) (a1 a2 a3 b1 b2 b3 aq : Option Addr) (l1 c1 l2 c2 l3 c3 k1 d1 k2 d2 k3 d3 lq cq : Nat) (w : World)
    (h1 : Sl w a1 l1 c1 (parts n.natAbs)) (h2 : Sl w a2 l2 c2 (parts x.natAbs)) (h3 : Sl w a3 l3 c3 (parts y.natAbs))
    (g1 : Sl w b1 k1 d1 (parts m.natAbs)) (g2 : Sl w b2 k2 d2 (parts u.natAbs)) (g3 : Sl w b3 k3 d3 (parts v.natAbs)) (hq : Sl w aq lq cq (parts q.natAbs))
    (e1 : l1 ≤ 50) (e2 : l2 ≤ 50) (e3 : l3 ≤ 50) (f1 : k1 ≤ 50) (f2 : k2 ≤ 50) (f3 : k3 ≤ 50) (eq : lq ≤ 50) :
    Calls Tryz.prog 105 #[.agg #[.bool (decide (n < 0)), .slice a1 l1 c1, .bool (decide (x < 0)), .slice a2 l2 c2, .bool (decide (y < 0)), .slice a3 l3 c3], .agg #[.bool (decide (m < 0)), .slice b1 k1 d1, .bool (decide (u < 0)), .slice b2 k2 d2, .bool (decide (v < 0)), .slice b3 k3 d3], .agg #[.bool (decide (q < 0)), .slice aq lq cq]] w (RetL (n - q * m) (x - q * u) (y - q * v) w) := by
  obtain ⟨W, hW⟩ : ∃ W : World, (((w.alloc (.cells #[.bool (decide (n < 0)), .slice a1 l1 c1, .bool (decide (x < 0)), .slice a2 l2 c2, .bool (decide (y < 0)), .slice a3 l3 c3] 102)).alloc (.cells #[.bool (decide (m < 0)), .slice b1 k1 d1, .bool (decide (u < 0)), .slice b2 k2 d2, .bool (decide (v < 0)), .slice b3 k3 d3] 102)).alloc (.cells #[.bool (decide (q < 0)), .slice aq lq cq] 24)).alloc (.cells #[.bool false, .slice none 0 0, .bool false, .slice none 0 0, .bool false, .slice none 0 0] 102) = W := ⟨_, rfl⟩
  have hk := kept4 w _ _ _ _ (Below.refl _ ((((w.alloc (.cells #[.bool (decide (n < 0)), .slice a1 l1 c1, .bool (decide (x < 0)), .slice a2 l2 c2, .bool (decide (y < 0)), .slice a3 l3 c3] 102)).alloc (.cells #[.bool (decide (m < 0)), .slice b1 k1 d1, .bool (decide (u < 0)), .slice b2 k2 d2, .bool (decide (v < 0)), .slice b3 k3 d3] 102)).alloc (.cells #[.bool (decide (q < 0)), .slice aq lq cq] 24)).alloc (.cells #[.bool false, .slice none 0 0, .bool false, .slice none 0 0, .bool false, .slice none 0 0] 102)))
  rw [hW] at hk
  obtain ⟨hL, hM, hQ, hR, hsz, hbw⟩ := hk
  have s1 := h1.below hbw
  have s2 := h2.below hbw
  have s3 := h3.below hbw
  have s1m := g1.below hbw
  have s2m := g2.below hbw
  have s3m := g3.below hbw
  have sq := hq.below hbw
  have hT1 := fun (w' : World) (hb : Below W.heap.size W w') => (times_any q m aq lq cq b1 k1 d1 w' (sq.below hb) (s1m.below hb) (by omega) (by omega)).mono fun _ _ h => RetN.b h
  have hM1 := fun (w' : World) (ao : Option Addr) (len cap : Nat) (hb : Below W.heap.size W w') (hs : Sl w' ao len cap (parts (q * m).natAbs)) => (minus_any n (q * m) a1 l1 c1 ao len cap w' (s1.below hb) hs (by omega) (by have := parts_len_mul q m 50 50 (by rw [hq.length]; omega) (by rw [g1.length]; omega); rw [hs.length] at this; omega)).mono fun _ _ h => RetN.b h
  have hT2 := fun (w' : World) (hb : Below W.heap.size W w') => (times_any q u aq lq cq b2 k2 d2 w' (sq.below hb) (s2m.below hb) (by omega) (by omega)).mono fun _ _ h => RetN.b h
  have hM2 := fun (w' : World) (ao : Option Addr) (len cap : Nat) (hb : Below W.heap.size W w') (hs : Sl w' ao len cap (parts (q * u).natAbs)) => (minus_any x (q * u) a2 l2 c2 ao len cap w' (s2.below hb) hs (by omega) (by have := parts_len_mul q u 50 50 (by rw [hq.length]; omega) (by rw [g2.length]; omega); rw [hs.length] at this; omega)).mono fun _ _ h => RetN.b h
  have hT3 := fun (w' : World) (hb : Below W.heap.size W w') => (times_any q v aq lq cq b3 k3 d3 w' (sq.below hb) (s3m.below hb) (by omega) (by omega)).mono fun _ _ h => RetN.b h
  have hM3 := fun (w' : World) (ao : Option Addr) (len cap : Nat) (hb : Below W.heap.size W w') (hs : Sl w' ao len cap (parts (q * v).natAbs)) => (minus_any y (q * v) a3 l3 c3 ao len cap w' (s3.below hb) hs (by omega) (by have := parts_len_mul q v 50 50 (by rw [hq.length]; omega) (by rw [g3.length]; omega); rw [hs.length] at this; omega)).mono fun _ _ h => RetN.b h
  have hfin : RetL (n - q * m) (x - q * u) (y - q * v) w = fun e w' => ∃ a1 l1 c1 a2 l2 c2 a3 l3 c3, e = .returned (.agg #[.bool (decide (n - q * m < 0)), .slice a1 l1 c1, .bool (decide (x - q * u < 0)), .slice a2 l2 c2, .bool (decide (y - q * v < 0)), .slice a3 l3 c3]) ∧ Sl w' a1 l1 c1 (parts (n - q * m).natAbs) ∧ Sl w' a2 l2 c2 (parts (x - q * u).natAbs) ∧ Sl w' a3 l3 c3 (parts (y - q * v).natAbs) ∧ Below w.heap.size w w' := rfl
  rw [hfin]
  clear hfin
  generalize decide (n - q * m < 0) = t1 at *
  generalize decide (x - q * u < 0) = t2 at *
  generalize decide (y - q * v < 0) = t3 at *
  generalize decide (q * m < 0) = p1 at *
  generalize decide (q * u < 0) = p2 at *
  generalize decide (q * v < 0) = p3 at *
  generalize decide (n < 0) = dn at *
  generalize decide (x < 0) = dx at *
  generalize decide (y < 0) = dy at *
  generalize decide (m < 0) = dm at *
  generalize decide (u < 0) = du at *
  generalize decide (v < 0) = dv at *
  generalize decide (q < 0) = dq at *
  have T1 := Lib.hid hT1; have T2 := Lib.hid hT2; have T3 := Lib.hid hT3
  have M1 := Lib.hid hM1; have M2 := Lib.hid hM2; have M3 := Lib.hid hM3
  have HL := Lib.hid hL; have HM := Lib.hid hM; have HQ := Lib.hid hQ; have HR := Lib.hid hR
  obtain ⟨⟨u0, u1, u2, u3, u4, u5⟩, _, kl⟩ := box6 hL
  obtain ⟨⟨v0, v1, v2, v3, v4, v5⟩, _, km⟩ := box6 hM
  obtain ⟨z0, z1, _, _, kq⟩ := box2 hQ
  have HW := Lib.hid hW
  have hS : ∀ w' : World, Below W.heap.size W w' → ((w'.cell? ⟨w.heap.size, 0, none⟩ = some (.bool dn) ∧ w'.cell? ⟨w.heap.size, 1, none⟩ = some (.slice a1 l1 c1) ∧ w'.cell? ⟨w.heap.size, 2, none⟩ = some (.bool dx) ∧ w'.cell? ⟨w.heap.size, 3, none⟩ = some (.slice a2 l2 c2) ∧ w'.cell? ⟨w.heap.size, 4, none⟩ = some (.bool dy) ∧ w'.cell? ⟨w.heap.size, 5, none⟩ = some (.slice a3 l3 c3)) ∧
      (w'.cell? ⟨w.heap.size + 1, 0, none⟩ = some (.bool dm) ∧ w'.cell? ⟨w.heap.size + 1, 1, none⟩ = some (.slice b1 k1 d1) ∧ w'.cell? ⟨w.heap.size + 1, 2, none⟩ = some (.bool du) ∧ w'.cell? ⟨w.heap.size + 1, 3, none⟩ = some (.slice b2 k2 d2) ∧ w'.cell? ⟨w.heap.size + 1, 4, none⟩ = some (.bool dv) ∧ w'.cell? ⟨w.heap.size + 1, 5, none⟩ = some (.slice b3 k3 d3)) ∧
      (w'.cell? ⟨w.heap.size + 1 + 1, 0, none⟩ = some (.bool dq) ∧ w'.cell? ⟨w.heap.size + 1 + 1, 1, none⟩ = some (.slice aq lq cq))) := by
    intro w' hb
    have e1 := (box6 ((hb.block _ kl).trans HL.out)).1
    have e2 := (box6 ((hb.block _ km).trans HM.out)).1
    have e3 := box2 ((hb.block _ kq).trans HQ.out)
    exact ⟨e1, e2, e3.1, e3.2.1⟩
  have hS6 : ∀ w' : World, Below W.heap.size W w' → ∀ va vb vc vd ve vf : Value, ((((((((w'.setCell ⟨w.heap.size + 1 + 1 + 1, 0, none⟩ va).setCell ⟨w.heap.size + 1 + 1 + 1, 1, none⟩ vb).setCell ⟨w.heap.size + 1 + 1 + 1, 2, none⟩ vc).setCell ⟨w.heap.size + 1 + 1 + 1, 3, none⟩ vd).setCell ⟨w.heap.size + 1 + 1 + 1, 4, none⟩ ve).setCell ⟨w.heap.size + 1 + 1 + 1, 5, none⟩ vf).cell? ⟨w.heap.size, 0, none⟩ = some (.bool dn) ∧ ((((((w'.setCell ⟨w.heap.size + 1 + 1 + 1, 0, none⟩ va).setCell ⟨w.heap.size + 1 + 1 + 1, 1, none⟩ vb).setCell ⟨w.heap.size + 1 + 1 + 1, 2, none⟩ vc).setCell ⟨w.heap.size + 1 + 1 + 1, 3, none⟩ vd).setCell ⟨w.heap.size + 1 + 1 + 1, 4, none⟩ ve).setCell ⟨w.heap.size + 1 + 1 + 1, 5, none⟩ vf).cell? ⟨w.heap.size, 1, none⟩ = some (.slice a1 l1 c1) ∧ ((((((w'.setCell ⟨w.heap.size + 1 + 1 + 1, 0, none⟩ va).setCell ⟨w.heap.size + 1 + 1 + 1, 1, none⟩ vb).setCell ⟨w.heap.size + 1 + 1 + 1, 2, none⟩ vc).setCell ⟨w.heap.size + 1 + 1 + 1, 3, none⟩ vd).setCell ⟨w.heap.size + 1 + 1 + 1, 4, none⟩ ve).setCell ⟨w.heap.size + 1 + 1 + 1, 5, none⟩ vf).cell? ⟨w.heap.size, 2, none⟩ = some (.bool dx) ∧ ((((((w'.setCell ⟨w.heap.size + 1 + 1 + 1, 0, none⟩ va).setCell ⟨w.heap.size + 1 + 1 + 1, 1, none⟩ vb).setCell ⟨w.heap.size + 1 + 1 + 1, 2, none⟩ vc).setCell ⟨w.heap.size + 1 + 1 + 1, 3, none⟩ vd).setCell ⟨w.heap.size + 1 + 1 + 1, 4, none⟩ ve).setCell ⟨w.heap.size + 1 + 1 + 1, 5, none⟩ vf).cell? ⟨w.heap.size, 3, none⟩ = some (.slice a2 l2 c2) ∧ ((((((w'.setCell ⟨w.heap.size + 1 + 1 + 1, 0, none⟩ va).setCell ⟨w.heap.size + 1 + 1 + 1, 1, none⟩ vb).setCell ⟨w.heap.size + 1 + 1 + 1, 2, none⟩ vc).setCell ⟨w.heap.size + 1 + 1 + 1, 3, none⟩ vd).setCell ⟨w.heap.size + 1 + 1 + 1, 4, none⟩ ve).setCell ⟨w.heap.size + 1 + 1 + 1, 5, none⟩ vf).cell? ⟨w.heap.size, 4, none⟩ = some (.bool dy) ∧ ((((((w'.setCell ⟨w.heap.size + 1 + 1 + 1, 0, none⟩ va).setCell ⟨w.heap.size + 1 + 1 + 1, 1, none⟩ vb).setCell ⟨w.heap.size + 1 + 1 + 1, 2, none⟩ vc).setCell ⟨w.heap.size + 1 + 1 + 1, 3, none⟩ vd).setCell ⟨w.heap.size + 1 + 1 + 1, 4, none⟩ ve).setCell ⟨w.heap.size + 1 + 1 + 1, 5, none⟩ vf).cell? ⟨w.heap.size, 5, none⟩ = some (.slice a3 l3 c3)) ∧
      (((((((w'.setCell ⟨w.heap.size + 1 + 1 + 1, 0, none⟩ va).setCell ⟨w.heap.size + 1 + 1 + 1, 1, none⟩ vb).setCell ⟨w.heap.size + 1 + 1 + 1, 2, none⟩ vc).setCell ⟨w.heap.size + 1 + 1 + 1, 3, none⟩ vd).setCell ⟨w.heap.size + 1 + 1 + 1, 4, none⟩ ve).setCell ⟨w.heap.size + 1 + 1 + 1, 5, none⟩ vf).cell? ⟨w.heap.size + 1, 0, none⟩ = some (.bool dm) ∧ ((((((w'.setCell ⟨w.heap.size + 1 + 1 + 1, 0, none⟩ va).setCell ⟨w.heap.size + 1 + 1 + 1, 1, none⟩ vb).setCell ⟨w.heap.size + 1 + 1 + 1, 2, none⟩ vc).setCell ⟨w.heap.size + 1 + 1 + 1, 3, none⟩ vd).setCell ⟨w.heap.size + 1 + 1 + 1, 4, none⟩ ve).setCell ⟨w.heap.size + 1 + 1 + 1, 5, none⟩ vf).cell? ⟨w.heap.size + 1, 1, none⟩ = some (.slice b1 k1 d1) ∧ ((((((w'.setCell ⟨w.heap.size + 1 + 1 + 1, 0, none⟩ va).setCell ⟨w.heap.size + 1 + 1 + 1, 1, none⟩ vb).setCell ⟨w.heap.size + 1 + 1 + 1, 2, none⟩ vc).setCell ⟨w.heap.size + 1 + 1 + 1, 3, none⟩ vd).setCell ⟨w.heap.size + 1 + 1 + 1, 4, none⟩ ve).setCell ⟨w.heap.size + 1 + 1 + 1, 5, none⟩ vf).cell? ⟨w.heap.size + 1, 2, none⟩ = some (.bool du) ∧ ((((((w'.setCell ⟨w.heap.size + 1 + 1 + 1, 0, none⟩ va).setCell ⟨w.heap.size + 1 + 1 + 1, 1, none⟩ vb).setCell ⟨w.heap.size + 1 + 1 + 1, 2, none⟩ vc).setCell ⟨w.heap.size + 1 + 1 + 1, 3, none⟩ vd).setCell ⟨w.heap.size + 1 + 1 + 1, 4, none⟩ ve).setCell ⟨w.heap.size + 1 + 1 + 1, 5, none⟩ vf).cell? ⟨w.heap.size + 1, 3, none⟩ = some (.slice b2 k2 d2) ∧ ((((((w'.setCell ⟨w.heap.size + 1 + 1 + 1, 0, none⟩ va).setCell ⟨w.heap.size + 1 + 1 + 1, 1, none⟩ vb).setCell ⟨w.heap.size + 1 + 1 + 1, 2, none⟩ vc).setCell ⟨w.heap.size + 1 + 1 + 1, 3, none⟩ vd).setCell ⟨w.heap.size + 1 + 1 + 1, 4, none⟩ ve).setCell ⟨w.heap.size + 1 + 1 + 1, 5, none⟩ vf).cell? ⟨w.heap.size + 1, 4, none⟩ = some (.bool dv) ∧ ((((((w'.setCell ⟨w.heap.size + 1 + 1 + 1, 0, none⟩ va).setCell ⟨w.heap.size + 1 + 1 + 1, 1, none⟩ vb).setCell ⟨w.heap.size + 1 + 1 + 1, 2, none⟩ vc).setCell ⟨w.heap.size + 1 + 1 + 1, 3, none⟩ vd).setCell ⟨w.heap.size + 1 + 1 + 1, 4, none⟩ ve).setCell ⟨w.heap.size + 1 + 1 + 1, 5, none⟩ vf).cell? ⟨w.heap.size + 1, 5, none⟩ = some (.slice b3 k3 d3)) ∧
      (((((((w'.setCell ⟨w.heap.size + 1 + 1 + 1, 0, none⟩ va).setCell ⟨w.heap.size + 1 + 1 + 1, 1, none⟩ vb).setCell ⟨w.heap.size + 1 + 1 + 1, 2, none⟩ vc).setCell ⟨w.heap.size + 1 + 1 + 1, 3, none⟩ vd).setCell ⟨w.heap.size + 1 + 1 + 1, 4, none⟩ ve).setCell ⟨w.heap.size + 1 + 1 + 1, 5, none⟩ vf).cell? ⟨w.heap.size + 1 + 1, 0, none⟩ = some (.bool dq) ∧ ((((((w'.setCell ⟨w.heap.size + 1 + 1 + 1, 0, none⟩ va).setCell ⟨w.heap.size + 1 + 1 + 1, 1, none⟩ vb).setCell ⟨w.heap.size + 1 + 1 + 1, 2, none⟩ vc).setCell ⟨w.heap.size + 1 + 1 + 1, 3, none⟩ vd).setCell ⟨w.heap.size + 1 + 1 + 1, 4, none⟩ ve).setCell ⟨w.heap.size + 1 + 1 + 1, 5, none⟩ vf).cell? ⟨w.heap.size + 1 + 1, 1, none⟩ = some (.slice aq lq cq))) := by
    intro w' hb va vb vc vd ve vf
    obtain ⟨⟨e0, e1, e2, e3, e4, e5⟩, ⟨f0, f1, f2, f3, f4, f5⟩, g0, g1⟩ := hS w' hb
    have hp := fun (k o : Nat) (h : k ≠ w.heap.size + 1 + 1 + 1) => put6_cell (w := w') (o := o) h va vb vc vd ve vf
    unfold put6 at hp
    refine ⟨⟨?_, ?_, ?_, ?_, ?_, ?_⟩, ⟨?_, ?_, ?_, ?_, ?_, ?_⟩, ?_, ?_⟩
    all_goals (rw [hp _ _ (by omega)]; assumption)
  have Hs6 := Lib.hid hS6
  have Hs := Lib.hid hS
  clear hT1 hT2 hT3 hM1 hM2 hM3 hL hM hQ hR hW hS hS6 h1 h2 h3 g1 g2 g3 hq s1 s2 s3 s1m s2m s3m sq
  go_enter Tryz.func105, Tryz.ntmps105
  go_wp2_with fail
  rw [HW.out]
  have hcum := (Below.refl W.heap.size W).drew
  go_region_held3 (fun w' => (w'.cell? ⟨w.heap.size, 0, none⟩ = some (.bool dn) ∧ w'.cell? ⟨w.heap.size, 1, none⟩ = some (.slice a1 l1 c1) ∧ w'.cell? ⟨w.heap.size, 2, none⟩ = some (.bool dx) ∧ w'.cell? ⟨w.heap.size, 3, none⟩ = some (.slice a2 l2 c2) ∧ w'.cell? ⟨w.heap.size, 4, none⟩ = some (.bool dy) ∧ w'.cell? ⟨w.heap.size, 5, none⟩ = some (.slice a3 l3 c3)) ∧ (w'.cell? ⟨w.heap.size + 1, 0, none⟩ = some (.bool dm) ∧ w'.cell? ⟨w.heap.size + 1, 1, none⟩ = some (.slice b1 k1 d1) ∧ w'.cell? ⟨w.heap.size + 1, 2, none⟩ = some (.bool du) ∧ w'.cell? ⟨w.heap.size + 1, 3, none⟩ = some (.slice b2 k2 d2) ∧ w'.cell? ⟨w.heap.size + 1, 4, none⟩ = some (.bool dv) ∧ w'.cell? ⟨w.heap.size + 1, 5, none⟩ = some (.slice b3 k3 d3)) ∧ (w'.cell? ⟨w.heap.size + 1 + 1, 0, none⟩ = some (.bool dq) ∧ w'.cell? ⟨w.heap.size + 1 + 1, 1, none⟩ = some (.slice aq lq cq))) (first | with_reducible exact Hs.out _ hcum | with_reducible exact Hs6.out _ hcum _ _ _ _ _ _) (first | (go_at_call 109; (with_reducible refine (T1.out _ hcum).mono ?_); rintro e wn ⟨i1, j1, o1, rfl, n1, bn⟩; have hc2 := hcum.trans (bn.mono hcum.size); clear hcum bn; have hcum := hc2; clear hc2) | (go_at_call 130; (with_reducible refine (M1.out _ _ _ _ hcum n1).mono ?_); rintro e wn ⟨a1', b1', c1', rfl, m1, bn⟩; clear n1; have hc2 := hcum.trans (bn.mono hcum.size); clear hcum bn; have hcum := hc2; clear hc2) | (go_at_call 109; (with_reducible refine (T2.out _ hcum).mono ?_); rintro e wn ⟨i2, j2, o2, rfl, n2, bn⟩; have m1n := m1.below bn; clear m1; have m1 := m1n; clear m1n; have hc2 := hcum.trans (bn.mono hcum.size); clear hcum bn; have hcum := hc2; clear hc2) | (go_at_call 130; (with_reducible refine (M2.out _ _ _ _ hcum n2).mono ?_); rintro e wn ⟨a2', b2', c2', rfl, m2, bn⟩; have m1n := m1.below bn; clear m1; have m1 := m1n; clear m1n; clear n2; have hc2 := hcum.trans (bn.mono hcum.size); clear hcum bn; have hcum := hc2; clear hc2) | (go_at_call 109; (with_reducible refine (T3.out _ hcum).mono ?_); rintro e wn ⟨i3, j3, o3, rfl, n3, bn⟩; have m1n := m1.below bn; clear m1; have m1 := m1n; clear m1n; have m2n := m2.below bn; clear m2; have m2 := m2n; clear m2n; have hc2 := hcum.trans (bn.mono hcum.size); clear hcum bn; have hcum := hc2; clear hc2) | (go_at_call 130; (with_reducible refine (M3.out _ _ _ _ hcum n3).mono ?_); rintro e wn ⟨a3', b3', c3', rfl, m3, bn⟩; have m1n := m1.below bn; clear m1; have m1 := m1n; clear m1n; have m2n := m2.below bn; clear m2; have m2 := m2n; clear m2n; clear n3; have hc2 := hcum.trans (bn.mono hcum.size); clear hcum bn; have hcum := hc2; clear hc2; have hR6 := box6 ((hcum.block _ (Array.getElem?_eq_some_iff.1 HR.out).1).trans HR.out); obtain ⟨⟨r0, r1, r2, r3, r4, r5⟩, ⟨q0, q1, q2, q3, q4, q5⟩, rlt⟩ := hR6))
  have hh := (hcum.block _ (Array.getElem?_eq_some_iff.1 HR.out).1).trans HR.out
  have hbb := hbw.trans (hcum.mono hbw.size)
  go_wp2
  refine bodyPost_ret (v := .agg #[.bool t1, .slice a1' b1' c1', .bool t2, .slice a2' b2' c2', .bool t3, .slice a3' b3' c3']) (by simp [results, Tryz.results105, go_sem, r0, r1, r2, r3, r4, r5]) rfl ?_
  exact ⟨a1', b1', c1', a2', b2', c2', a3', b3', c3', rfl, m1.store6 hh _ _ _ _ _ _, m2.store6 hh _ _ _ _ _ _, m3.store6 hh _ _ _ _ _ _, below_put6 hbb (by omega) _ _ _ _ _ _⟩
end Go.Proofs.YtfjnplhhgdfepaaGreatDoor

/- The opposite of a line. -/
namespace Go.Proofs.YtfjnplhhgdfepaaGreatDoor
open Go.RowKit

set_option maxRecDepth 100000 in
set_option maxHeartbeats 4000000 in
theorem lopp_any (n x y : Int) (a1 a2 a3 : Option Addr) (l1 c1 l2 c2 l3 c3 : Nat) (w : World)
    (h1 : Sl w a1 l1 c1 (parts n.natAbs)) (h2 : Sl w a2 l2 c2 (parts x.natAbs)) (h3 : Sl w a3 l3 c3 (parts y.natAbs)) (e1 : l1 ≤ 50) (e2 : l2 ≤ 50) (e3 : l3 ≤ 50) :
    Calls Tryz.prog 107 #[.agg #[.bool (decide (n < 0)), .slice a1 l1 c1, .bool (decide (x < 0)), .slice a2 l2 c2, .bool (decide (y < 0)), .slice a3 l3 c3]] w (RetL (-n) (-x) (-y) w) := by
  obtain ⟨W, hW⟩ : ∃ W : World, (w.alloc (.cells #[.bool (decide (n < 0)), .slice a1 l1 c1, .bool (decide (x < 0)), .slice a2 l2 c2, .bool (decide (y < 0)), .slice a3 l3 c3] 102)).alloc (.cells #[.bool false, .slice none 0 0, .bool false, .slice none 0 0, .bool false, .slice none 0 0] 102) = W := ⟨_, rfl⟩
  have hk := kept2 w _ _ (Below.refl _ ((w.alloc (.cells #[.bool (decide (n < 0)), .slice a1 l1 c1, .bool (decide (x < 0)), .slice a2 l2 c2, .bool (decide (y < 0)), .slice a3 l3 c3] 102)).alloc (.cells #[.bool false, .slice none 0 0, .bool false, .slice none 0 0, .bool false, .slice none 0 0] 102)))
  rw [hW] at hk
  obtain ⟨hL, hR, hsz, hbw⟩ := hk
  have s1 := h1.below hbw
  have s2 := h2.below hbw
  have s3 := h3.below hbw
  have hT1 := fun (w' : World) (hb : Below W.heap.size W w') => (opp_any n a1 l1 c1 w' (s1.below hb) (by omega)).mono fun _ _ h => RetN.b h
  have hT2 := fun (w' : World) (hb : Below W.heap.size W w') => (opp_any x a2 l2 c2 w' (s2.below hb) (by omega)).mono fun _ _ h => RetN.b h
  have hT3 := fun (w' : World) (hb : Below W.heap.size W w') => (opp_any y a3 l3 c3 w' (s3.below hb) (by omega)).mono fun _ _ h => RetN.b h
  have hfin : RetL (-n) (-x) (-y) w = fun e w' => ∃ a1 l1 c1 a2 l2 c2 a3 l3 c3, e = .returned (.agg #[.bool (decide (-n < 0)), .slice a1 l1 c1, .bool (decide (-x < 0)), .slice a2 l2 c2, .bool (decide (-y < 0)), .slice a3 l3 c3]) ∧ Sl w' a1 l1 c1 (parts (-n).natAbs) ∧ Sl w' a2 l2 c2 (parts (-x).natAbs) ∧ Sl w' a3 l3 c3 (parts (-y).natAbs) ∧ Below w.heap.size w w' := rfl
  rw [hfin]
  clear hfin
  generalize decide (-n < 0) = t1 at *
  generalize decide (-x < 0) = t2 at *
  generalize decide (-y < 0) = t3 at *
  generalize decide (n < 0) = dn at *
  generalize decide (x < 0) = dx at *
  generalize decide (y < 0) = dy at *
  have T1 := Lib.hid hT1; have T2 := Lib.hid hT2; have T3 := Lib.hid hT3
  have HL := Lib.hid hL; have HR := Lib.hid hR
  obtain ⟨⟨u0, u1, u2, u3, u4, u5⟩, _, kl⟩ := box6 hL
  have HW := Lib.hid hW
  have hS : ∀ w' : World, Below W.heap.size W w' → w'.cell? ⟨w.heap.size, 0, none⟩ = some (.bool dn) ∧ w'.cell? ⟨w.heap.size, 1, none⟩ = some (.slice a1 l1 c1) ∧ w'.cell? ⟨w.heap.size, 2, none⟩ = some (.bool dx) ∧ w'.cell? ⟨w.heap.size, 3, none⟩ = some (.slice a2 l2 c2) ∧ w'.cell? ⟨w.heap.size, 4, none⟩ = some (.bool dy) ∧ w'.cell? ⟨w.heap.size, 5, none⟩ = some (.slice a3 l3 c3) := fun w' hb => (box6 ((hb.block _ kl).trans HL.out)).1
  have hS6 : ∀ w' : World, Below W.heap.size W w' → ∀ va vb vc vd ve vf : Value, ((((((w'.setCell ⟨w.heap.size + 1, 0, none⟩ va).setCell ⟨w.heap.size + 1, 1, none⟩ vb).setCell ⟨w.heap.size + 1, 2, none⟩ vc).setCell ⟨w.heap.size + 1, 3, none⟩ vd).setCell ⟨w.heap.size + 1, 4, none⟩ ve).setCell ⟨w.heap.size + 1, 5, none⟩ vf).cell? ⟨w.heap.size, 0, none⟩ = some (.bool dn) ∧ ((((((w'.setCell ⟨w.heap.size + 1, 0, none⟩ va).setCell ⟨w.heap.size + 1, 1, none⟩ vb).setCell ⟨w.heap.size + 1, 2, none⟩ vc).setCell ⟨w.heap.size + 1, 3, none⟩ vd).setCell ⟨w.heap.size + 1, 4, none⟩ ve).setCell ⟨w.heap.size + 1, 5, none⟩ vf).cell? ⟨w.heap.size, 1, none⟩ = some (.slice a1 l1 c1) ∧ ((((((w'.setCell ⟨w.heap.size + 1, 0, none⟩ va).setCell ⟨w.heap.size + 1, 1, none⟩ vb).setCell ⟨w.heap.size + 1, 2, none⟩ vc).setCell ⟨w.heap.size + 1, 3, none⟩ vd).setCell ⟨w.heap.size + 1, 4, none⟩ ve).setCell ⟨w.heap.size + 1, 5, none⟩ vf).cell? ⟨w.heap.size, 2, none⟩ = some (.bool dx) ∧ ((((((w'.setCell ⟨w.heap.size + 1, 0, none⟩ va).setCell ⟨w.heap.size + 1, 1, none⟩ vb).setCell ⟨w.heap.size + 1, 2, none⟩ vc).setCell ⟨w.heap.size + 1, 3, none⟩ vd).setCell ⟨w.heap.size + 1, 4, none⟩ ve).setCell ⟨w.heap.size + 1, 5, none⟩ vf).cell? ⟨w.heap.size, 3, none⟩ = some (.slice a2 l2 c2) ∧ ((((((w'.setCell ⟨w.heap.size + 1, 0, none⟩ va).setCell ⟨w.heap.size + 1, 1, none⟩ vb).setCell ⟨w.heap.size + 1, 2, none⟩ vc).setCell ⟨w.heap.size + 1, 3, none⟩ vd).setCell ⟨w.heap.size + 1, 4, none⟩ ve).setCell ⟨w.heap.size + 1, 5, none⟩ vf).cell? ⟨w.heap.size, 4, none⟩ = some (.bool dy) ∧ ((((((w'.setCell ⟨w.heap.size + 1, 0, none⟩ va).setCell ⟨w.heap.size + 1, 1, none⟩ vb).setCell ⟨w.heap.size + 1, 2, none⟩ vc).setCell ⟨w.heap.size + 1, 3, none⟩ vd).setCell ⟨w.heap.size + 1, 4, none⟩ ve).setCell ⟨w.heap.size + 1, 5, none⟩ vf).cell? ⟨w.heap.size, 5, none⟩ = some (.slice a3 l3 c3) := by
    intro w' hb va vb vc vd ve vf
    obtain ⟨e0, e1, e2, e3, e4, e5⟩ := hS w' hb
    have hp := fun (k o : Nat) (h : k ≠ w.heap.size + 1) => put6_cell (w := w') (o := o) h va vb vc vd ve vf
    unfold put6 at hp
    refine ⟨?_, ?_, ?_, ?_, ?_, ?_⟩
    all_goals (rw [hp _ _ (by omega)]; assumption)
  have Hs := Lib.hid hS
  have Hs6 := Lib.hid hS6
  clear hT1 hT2 hT3 hL hR hW hS hS6 h1 h2 h3 s1 s2 s3
  go_enter Tryz.func107, Tryz.ntmps107
  go_wp2_with fail
  rw [HW.out]
  have hcum := (Below.refl W.heap.size W).drew
  go_region_held3 (fun w' => w'.cell? ⟨w.heap.size, 0, none⟩ = some (.bool dn) ∧ w'.cell? ⟨w.heap.size, 1, none⟩ = some (.slice a1 l1 c1) ∧ w'.cell? ⟨w.heap.size, 2, none⟩ = some (.bool dx) ∧ w'.cell? ⟨w.heap.size, 3, none⟩ = some (.slice a2 l2 c2) ∧ w'.cell? ⟨w.heap.size, 4, none⟩ = some (.bool dy) ∧ w'.cell? ⟨w.heap.size, 5, none⟩ = some (.slice a3 l3 c3)) (first | with_reducible exact Hs.out _ hcum | with_reducible exact Hs6.out _ hcum _ _ _ _ _ _) (first | (go_at_call 95; (with_reducible refine (T1.out _ hcum).mono ?_); rintro e wn ⟨a1', b1', c1', rfl, m1, bn⟩; have hc2 := hcum.trans (bn.mono hcum.size); clear hcum bn; have hcum := hc2; clear hc2) | (go_at_call 95; (with_reducible refine (T2.out _ hcum).mono ?_); rintro e wn ⟨a2', b2', c2', rfl, m2, bn⟩; have m1n := m1.below bn; clear m1; have m1 := m1n; clear m1n; have hc2 := hcum.trans (bn.mono hcum.size); clear hcum bn; have hcum := hc2; clear hc2) | (go_at_call 95; (with_reducible refine (T3.out _ hcum).mono ?_); rintro e wn ⟨a3', b3', c3', rfl, m3, bn⟩; have m1n := m1.below bn; clear m1; have m1 := m1n; clear m1n; have m2n := m2.below bn; clear m2; have m2 := m2n; clear m2n; have hc2 := hcum.trans (bn.mono hcum.size); clear hcum bn; have hcum := hc2; clear hc2; have hR6 := box6 ((hcum.block _ (Array.getElem?_eq_some_iff.1 HR.out).1).trans HR.out); obtain ⟨⟨r0, r1, r2, r3, r4, r5⟩, ⟨q0, q1, q2, q3, q4, q5⟩, rlt⟩ := hR6))
  have hh := (hcum.block _ (Array.getElem?_eq_some_iff.1 HR.out).1).trans HR.out
  have hbb := hbw.trans (hcum.mono hbw.size)
  go_wp2
  refine bodyPost_ret (v := .agg #[.bool t1, .slice a1' b1' c1', .bool t2, .slice a2' b2' c2', .bool t3, .slice a3' b3' c3']) (by simp [results, Tryz.results107, go_sem, r0, r1, r2, r3, r4, r5]) rfl ?_
  exact ⟨a1', b1', c1', a2', b2', c2', a3', b3', c3', rfl, m1.store6 hh _ _ _ _ _ _, m2.store6 hh _ _ _ _ _ _, m3.store6 hh _ _ _ _ _ _, below_put6 hbb (by omega) _ _ _ _ _ _⟩
end Go.Proofs.YtfjnplhhgdfepaaGreatDoor

/- A region that draws its order, whose last operations (from number n on) wait for all the others: what the loads read is asked to stand behind the first n operations alone, so that the last ones may write it. -/
namespace Go.Proofs.YtfjnplhhgdfepaaGreatDoor
open Go Go.RowKit

section
variable {P : Program} {ops : Array Oper} {Q : Exit → Act → World → Prop} {md : Region.Mode} {S : World → Prop} {n : Nat}

/-- Whatever order is picked from here on; behind each of the first n operations S holds. -/
def AnyT (P : Program) (md : Region.Mode) (ops : Array Oper) (Q : Exit → Act → World → Prop) (S : World → Prop) (n : Nat) : Nat → Array Bool → Act → World → Prop
  | 0, l, a, w => Region.ready md ops l = [] ∧ Q .normal a w
  | k + 1, l, a, w => (Region.ready md ops l = [] → Q .normal a w) ∧
      ∀ i ∈ Region.ready md ops l, wpOp P ops Q i (fun a' w' => (i < n → S w') ∧ AnyT P md ops Q S n k (l.setIfInBounds i true) a' w') a w

theorem AnyT.any : ∀ (k : Nat) (l : Array Bool) (a : Act) (w : World), AnyT P md ops Q S n k l a w → wpAny P md ops Q k l a w
  | 0, _, _, _, h => h
  | k + 1, _, _, _, ⟨h1, h2⟩ => ⟨h1, fun i hi => wpOp_mono (fun a w h => AnyT.any k _ a w h.2) (h2 i hi)⟩

/-- Is there a way of waits from operation j to operation i? -/
def Path (md : Region.Mode) (ops : Array Oper) (i : Nat) : Nat → Nat → Bool
  | 0, _ => false
  | k + 1, j => (ops[j]?.map fun o => o.after.any fun e => Region.binds md e && (e.on == i || Path md ops i k e.on)).getD false
/-- Whatever has come up, all that it waits for has come up. -/
def Closed (md : Region.Mode) (ops : Array Oper) (l : Array Bool) : Prop := ∀ k o, ops[k]? = some o → l.getD k false = true → ∀ e ∈ o.after, Region.binds md e = true → l.getD e.on false = true
def ClosedB (md : Region.Mode) (ops : Array Oper) (l : Array Bool) : Bool :=
  (List.range ops.size).all fun k => !(l.getD k false) || (ops[k]?.map fun o => o.after.all fun e => !(Region.binds md e) || l.getD e.on false).getD true
theorem ClosedB.spec {l : Array Bool} (h : ClosedB md ops l = true) : Closed md ops l := by
  intro k o ho hk e he hb
  unfold ClosedB at h
  have h1 := List.all_eq_true.1 h k (List.mem_range.2 (Array.getElem?_eq_some_iff.1 ho).1)
  rw [hk, ho] at h1
  simp only [Bool.not_true, Bool.false_or, Option.map_some, Option.getD_some] at h1
  have h2 := Array.all_eq_true'.1 h1 e he
  rw [hb] at h2
  simpa using h2
theorem Path.listed {i : Nat} {l : Array Bool} (hc : Closed md ops l) (k : Nat) : ∀ (j : Nat) (o : Oper), ops[j]? = some o → (∀ e ∈ o.after, Region.binds md e = true → l.getD e.on false = true) → Path md ops i k j = true → l.getD i false = true := by
  induction k with
  | zero => intro j o _ _ h; cases h
  | succ k ih =>
    intro j o ho hd h
    unfold Path at h
    rw [ho] at h
    simp only [Option.map_some, Option.getD_some] at h
    obtain ⟨e, he, h3⟩ := Array.any_eq_true'.1 h
    simp only [Bool.and_eq_true, Bool.or_eq_true, beq_iff_eq] at h3
    have h4 := hd e he h3.1
    rcases h3.2 with h5 | h5
    · rw [← h5]; exact h4
    · cases ho2 : ops[e.on]? with
      | none =>
        cases k with
        | zero => cases h5
        | succ k => unfold Path at h5; rw [ho2] at h5; cases h5
      | some o2 => exact ih e.on o2 ho2 (hc e.on o2 ho2 h4) h5
/-- Each operation from n on waits, by some way, for each of the first n. -/
def Sinks (md : Region.Mode) (ops : Array Oper) (n : Nat) : Bool :=
  (List.range ops.size).all fun j => decide (j < n) || (List.range n).all fun i => Path md ops i ops.size j
theorem Sinks.spec (h : Sinks md ops n = true) {i j : Nat} {o : Oper} (hj : ops[j]? = some o) (hn : n ≤ j) (hi : i < n) : Path md ops i ops.size j = true := by
  unfold Sinks at h
  have h1 := List.all_eq_true.1 h j (List.mem_range.2 (Array.getElem?_eq_some_iff.1 hj).1)
  rw [show decide (j < n) = false by simp; omega, Bool.false_or] at h1
  exact List.all_eq_true.1 h1 i (List.mem_range.2 hi)

theorem AnyT.first {i : Nat} {oi : Oper} {v : Value} (hi : ops[i]? = some oi) (hin : i < n) (hsk : Sinks md ops n = true) (hsel : ∀ (j : Nat) (o : Oper) cs b, ops[j]? = some o → o.op ≠ .select cs b)
    (hQ : ∀ c a w, Q (.panic c) (a.put oi.dst v) w → Q (.panic c) a w) (k : Nat) : ∀ (l : Array Bool) (a : Act) (w : World), Closed md ops l →
      (∀ j oj, ops[j]? = some oj → j ≠ i → l.getD j true = false → (∀ e ∈ oj.after, Region.binds md e = true → e.on ≠ i) → oi.apart ops oj = true) →
      i ∈ Region.ready md ops l → YieldsIf P ops S oi v a → S w →
      AnyT P md ops Q S n k (l.setIfInBounds i true) (a.put oi.dst v) w → AnyT P md ops Q S n (k + 1) l a w := by
  induction k with
  | zero =>
    intro l a w _ _ hr hy hS H
    refine ⟨fun h => by rw [h] at hr; (cases hr), fun j hj => ?_⟩
    rcases Decidable.em (j = i) with rfl | hne
    · exact hy.wpOp hi hS ⟨fun _ => hS, H⟩
    · have hm := ready_mono hj hne
      rw [H.1] at hm
      cases hm
  | succ k ih =>
    intro l a w hcl hfree hr hy hS H
    refine ⟨fun h => by rw [h] at hr; (cases hr), fun j hj => ?_⟩
    rcases Decidable.em (j = i) with rfl | hne
    · exact hy.wpOp hi hS ⟨fun _ => hS, H⟩
    · obtain ⟨hun, oj, hoj, hwait⟩ := mem_ready.1 hj
      have hri := (mem_ready.1 hr).1
      have hi0 : l.getD i false = false := by
        have hri := (mem_ready.1 hr).1
        rcases Nat.lt_or_ge i l.size with h' | h'
        · simp [h'] at hri ⊢; exact hri
        · simp [Array.getElem?_eq_none h'] at hri
      have hwait' : ∀ e ∈ oj.after, Region.binds md e = true → l.getD e.on false = true := by
        intro e he hb
        exact hwait e he hb
      have hno : ∀ e ∈ oj.after, Region.binds md e = true → e.on ≠ i := by
        intro e he hb h
        have h1 := hwait' e he hb
        rw [h, hi0] at h1; cases h1
      have hjn : j < n := by
        rcases Nat.lt_or_ge j n with h | h
        · exact h
        · have := Path.listed hcl ops.size j oj hoj hwait' (Sinks.spec hsk hoj h hin)
          rw [hi0] at this; cases this
      have hcl' : Closed md ops (l.setIfInBounds j true) := by
        intro k o ho hk e he hb
        have hk' : l.getD k false = true ∨ k = j := by
          rcases Decidable.em (k = j) with h | h
          · exact .inr h
          · left; rwa [_root_.Go.getD_set_ne false (Ne.symm h)] at hk
        have h1 : l.getD e.on false = true := by
          rcases hk' with h | rfl
          · exact hcl k o ho h e he hb
          · rw [hoj] at ho; cases ho; exact hwait' e he hb
        rcases Decidable.em (j = e.on) with h | h
        · rw [← h]; rw [← h] at h1
          have hjs : j < l.size := by
            rcases Nat.lt_or_ge j l.size with h' | h'
            · exact h'
            · simp [Array.getElem?_eq_none h'] at h1
          simp [hjs]
        · rw [_root_.Go.getD_set_ne false h]; exact h1
      have hstep := wpOp_putIf hoj (hfree j oj hoj hne hun hno) (fun cs b => hsel i oi cs b hi) (fun cs b => hsel j oj cs b hoj) hQ hy (H.2 j (ready_mono hj hne))
      refine wpOp_mono (fun a' w' hh => ⟨fun _ => hh.2.1 hjn, ih (l.setIfInBounds j true) a' w' hcl' ?_ (ready_mono hr (Ne.symm hne)) hh.1 (hh.2.1 hjn) ?_⟩) hstep
      · intro m om hm hmi hmu hmn
        refine hfree m om hm hmi ?_ hmn
        rcases Decidable.em (j = m) with rfl | hjm
        · exact hun
        · rwa [_root_.Go.getD_set_ne true hjm] at hmu
      · rw [Array.setIfInBounds_comm _ _ hne]
        exact hh.2.2

/-- One of the first n operations taken first: in every world that meets S it yields v. -/
theorem AnyT.take {i : Nat} {oi : Oper} {v : Value} {k : Nat} {l : Array Bool} {a : Act} {w : World} (hi : ops[i]? = some oi) (hin : i < n) (hsk : Sinks md ops n = true)
    (hcl : ClosedB md ops l = true) (hs : Region.noSelect ops = true) (hf : Region.free md ops l i = true) (hr : (Region.ready md ops l).contains i = true)
    (hQ : ∀ c a w, Q (.panic c) (a.put oi.dst v) w → Q (.panic c) a w) (hy : YieldsIf P ops S oi v a) (hS : S w)
    (h : AnyT P md ops Q S n k (l.setIfInBounds i true) (a.put oi.dst v) w) : AnyT P md ops Q S n (k + 1) l a w :=
  AnyT.first hi hin hsk (Region.noSelect_spec hs) hQ k l a w (ClosedB.spec hcl) (Region.free_spec hi hf) (by simpa using hr) hy hS h

/-- The one operation that may come up, carried out; behind it S, if it is one of the first n. -/
theorem AnyT.one {i : Nat} {o : Oper} {k : Nat} {l : Array Bool} {a : Act} {w : World} (hr : Region.ready md ops l = [i]) (ho : ops[i]? = some o)
    (h : ∀ K' : Act → World → Prop, Shut (∀ a w, (i < n → S w) → AnyT P md ops Q S n k (l.setIfInBounds i true) a w → K' a w) → if Region.wanted o (yielded ops a.tmps) = true then Oper.wp P o a w K' Q else K' (a.put o.dst undef) w) :
    AnyT P md ops Q S n (k + 1) l a w := by
  refine ⟨fun h0 => (by rw [hr] at h0; cases h0), fun j hj => ?_⟩
  rw [hr] at hj
  obtain rfl : j = i := by simpa using hj
  exact wpOp_step ho (fun K' hK => h K' (fun a w h1 h2 => hK a w ⟨h1, h2⟩))
theorem AnyT.done {l : Array Bool} {a : Act} {w : World} (hr : Region.ready md ops l = []) (h : Q .normal a w) : ∀ k, AnyT P md ops Q S n k l a w
  | 0 => ⟨hr, h⟩
  | _ + 1 => ⟨fun _ => h, by rw [hr]; intro i hi; cases hi⟩
theorem AnyT.begin {id : Nat} {a : Act} {w : World} (hm : P.follows .mixedOrders = true) (h : AnyT P .any ops Q S n ops.size (Array.replicate ops.size false) a w.drew) : (Code.region id ops true).wp P Q a w :=
  wp_region_any hm (AnyT.any _ _ _ _ h)
end
end Go.Proofs.YtfjnplhhgdfepaaGreatDoor

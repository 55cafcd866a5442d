/- Contracts of the functions of package num and of the law's helpers, part 7: each call ends and hands back what its contract says, for all arguments within the contract's premises. -/
import Derived.Deep.LoopGhost
import Derived.Outline
import Derived.Deep.RegionHeld3
import Derived.Test.YtfjnplhhgdfepaaGreatDoorRows
import Derived.Test.YtfjnplhhgdfepaaGreatDoorTie
import Derived.Test.YtfjnplhhgdfepaaGreatDoorCards
import Derived.ProofKit
import Derived.OpenShut
import Derived.LaidMore
import Derived.LaidHandle
import Derived.ChangeAnyMap
import Derived.Stop.Joined
import Derived.Stop.LaidErr
import Derived.Lib.LaidTab
import Derived.SevenTiedAt
import Derived.Test.YtfjnplhhgdfepaaGreatDoorK6
set_option linter.all false

/- Bezout. -/
namespace Go.Proofs.YtfjnplhhgdfepaaGreatDoor
open Go.RowKit

theorem kept6 (w : World) (o1 o2 o3 o4 o5 o6 : Obj) {w0 : World} (hb : Below ((((((w.alloc o1).alloc o2).alloc o3).alloc o4).alloc o5).alloc o6).heap.size ((((((w.alloc o1).alloc o2).alloc o3).alloc o4).alloc o5).alloc o6) w0) :
    w0.heap[w.heap.size]? = some o1 ∧ w0.heap[w.heap.size + 1]? = some o2 ∧ w0.heap[w.heap.size + 1 + 1]? = some o3 ∧ w0.heap[w.heap.size + 1 + 1 + 1]? = some o4 ∧ w0.heap[w.heap.size + 1 + 1 + 1 + 1]? = some o5 ∧ w0.heap[w.heap.size + 1 + 1 + 1 + 1 + 1]? = some o6 ∧ w.heap.size + 5 < w0.heap.size ∧ Below w.heap.size w w0 := by
  obtain ⟨h4, h5, h6, hs, hb3⟩ := kept3 (((w.alloc o1).alloc o2).alloc o3) o4 o5 o6 hb
  have hz : (((w.alloc o1).alloc o2).alloc o3).heap.size = w.heap.size + 1 + 1 + 1 := by simp
  obtain ⟨h1, h2, h3, _, hbb⟩ := kept3 w o1 o2 o3 hb3
  rw [hz] at h4 h5 h6 hs
  exact ⟨h1, h2, h3, h4, h5, h6, by omega, hbb⟩

theorem put6_block {w : World} {g k : Nat} (h : k ≠ g) (a b c d e f : Value) : (put6 w g a b c d e f).heap[k]? = w.heap[k]? := by
  unfold put6
  rw [Below.heap_setCell _ _ _ _ h, Below.heap_setCell _ _ _ _ h, Below.heap_setCell _ _ _ _ h, Below.heap_setCell _ _ _ _ h, Below.heap_setCell _ _ _ _ h, Below.heap_setCell _ _ _ _ h]
theorem put6_self {w : World} {g : Nat} {p0 p1 p2 p3 p4 p5 : Value} {t : TypeId} (h : w.heap[g]? = some (.cells #[p0, p1, p2, p3, p4, p5] t (0, 0))) (a b c d e f : Value) : (put6 w g a b c d e f).heap[g]? = some (.cells #[a, b, c, d, e, f] t (0, 0)) := by
  unfold put6
  simp [World.setCell, Array.getElem?_modify, h]
/-- A call that hands back three integers and a number. -/
def RetBez (g x y n : Int) (w : World) (e : Ending) (w' : World) : Prop :=
  ∃ a1 l1 c1 a2 l2 c2 a3 l3 c3, e = .returned (.tuple #[.agg #[.bool (decide (g < 0)), .slice a1 l1 c1], .agg #[.bool (decide (x < 0)), .slice a2 l2 c2], .agg #[.bool (decide (y < 0)), .slice a3 l3 c3], .int .i64 n]) ∧
    Sl w' a1 l1 c1 (parts g.natAbs) ∧ Sl w' a2 l2 c2 (parts x.natAbs) ∧ Sl w' a3 l3 c3 (parts y.natAbs) ∧ Below w.heap.size w w'
/-- Block g holds a line. -/
def Ln (w : World) (g : Nat) (n x y : Int) : Prop :=
  ∃ a1 l1 c1 a2 l2 c2 a3 l3 c3, w.heap[g]? = some (.cells #[.bool (decide (n < 0)), .slice a1 l1 c1, .bool (decide (x < 0)), .slice a2 l2 c2, .bool (decide (y < 0)), .slice a3 l3 c3] 102 (0, 0)) ∧
    Sl w a1 l1 c1 (parts n.natAbs) ∧ Sl w a2 l2 c2 (parts x.natAbs) ∧ Sl w a3 l3 c3 (parts y.natAbs)

theorem six_keep {w : World} {g k : Nat} {a b c d e f u v : Value} (h : k ≠ g) (hS : w.cell? ⟨g, 0, none⟩ = some a ∧ w.cell? ⟨g, 1, none⟩ = some b ∧ w.cell? ⟨g, 2, none⟩ = some c ∧ w.cell? ⟨g, 3, none⟩ = some d ∧ w.cell? ⟨g, 4, none⟩ = some e ∧ w.cell? ⟨g, 5, none⟩ = some f) :
    ((w.setCell ⟨k, 0, none⟩ u).setCell ⟨k, 1, none⟩ v).cell? ⟨g, 0, none⟩ = some a ∧ ((w.setCell ⟨k, 0, none⟩ u).setCell ⟨k, 1, none⟩ v).cell? ⟨g, 1, none⟩ = some b ∧ ((w.setCell ⟨k, 0, none⟩ u).setCell ⟨k, 1, none⟩ v).cell? ⟨g, 2, none⟩ = some c ∧ ((w.setCell ⟨k, 0, none⟩ u).setCell ⟨k, 1, none⟩ v).cell? ⟨g, 3, none⟩ = some d ∧ ((w.setCell ⟨k, 0, none⟩ u).setCell ⟨k, 1, none⟩ v).cell? ⟨g, 4, none⟩ = some e ∧ ((w.setCell ⟨k, 0, none⟩ u).setCell ⟨k, 1, none⟩ v).cell? ⟨g, 5, none⟩ = some f := by
  have hn : ∀ i j, (⟨k, i, none⟩ : Addr) ≠ ⟨g, j, none⟩ := fun i j e => h (congrArg Addr.block e)
  obtain ⟨h0, h1, h2, h3, h4, h5⟩ := hS
  refine ⟨?_, ?_, ?_, ?_, ?_, ?_⟩ <;> (rw [cell_set_ne (hn _ _) rfl rfl, cell_set_ne (hn _ _) rfl rfl]; assumption)
theorem six_drew {w : World} {g : Nat} {a b c d e f : Value} (hS : w.cell? ⟨g, 0, none⟩ = some a ∧ w.cell? ⟨g, 1, none⟩ = some b ∧ w.cell? ⟨g, 2, none⟩ = some c ∧ w.cell? ⟨g, 3, none⟩ = some d ∧ w.cell? ⟨g, 4, none⟩ = some e ∧ w.cell? ⟨g, 5, none⟩ = some f) :
    w.drew.cell? ⟨g, 0, none⟩ = some a ∧ w.drew.cell? ⟨g, 1, none⟩ = some b ∧ w.drew.cell? ⟨g, 2, none⟩ = some c ∧ w.drew.cell? ⟨g, 3, none⟩ = some d ∧ w.drew.cell? ⟨g, 4, none⟩ = some e ∧ w.drew.cell? ⟨g, 5, none⟩ = some f := hS
theorem three_store {w : World} {g h k : Nat} {b1 b2 b3 b4 b5 b6 : Value} {p1 p2 p3 : Bool} {q1 q2 q3 ao : Option Addr} {r1 r2 r3 s1 s2 s3 len cap : Nat} {xs : List Int} (hgh : g ≠ h) (hgk : g ≠ k) (hhk : h ≠ k)
    (u0 : w.cell? ⟨g, 0, none⟩ = some (.bool p1)) (u1 : w.cell? ⟨g, 1, none⟩ = some (.slice q1 r1 s1)) (v0 : w.cell? ⟨h, 0, none⟩ = some (.bool p2)) (v1 : w.cell? ⟨h, 1, none⟩ = some (.slice q2 r2 s2)) (y0 : w.cell? ⟨k, 0, none⟩ = some (.bool p3)) (y1 : w.cell? ⟨k, 1, none⟩ = some (.slice q3 r3 s3)) (hs : Sl w ao len cap xs) :
    Sl ((((((w.setCell ⟨g, 0, none⟩ b1).setCell ⟨g, 1, none⟩ b2).setCell ⟨h, 0, none⟩ b3).setCell ⟨h, 1, none⟩ b4).setCell ⟨k, 0, none⟩ b5).setCell ⟨k, 1, none⟩ b6) ao len cap xs := by
  have hn : ∀ {a b : Nat}, a ≠ b → ∀ i j, (⟨a, i, none⟩ : Addr) ≠ ⟨b, j, none⟩ := fun h i j e => h (congrArg Addr.block e)
  refine ((hs.store2 u0 u1 b1 b2).store2 (p := p2) (q := q2) (r := r2) (s := s2) ?_ ?_ b3 b4).store2 (p := p3) (q := q3) (r := r3) (s := s3) ?_ ?_ b5 b6
  · rw [cell_set_ne (hn hgh _ _) rfl rfl, cell_set_ne (hn hgh _ _) rfl rfl]; exact v0
  · rw [cell_set_ne (hn hgh _ _) rfl rfl, cell_set_ne (hn hgh _ _) rfl rfl]; exact v1
  · rw [cell_set_ne (hn hhk _ _) rfl rfl, cell_set_ne (hn hhk _ _) rfl rfl, cell_set_ne (hn hgk _ _) rfl rfl, cell_set_ne (hn hgk _ _) rfl rfl]; exact y0
  · rw [cell_set_ne (hn hhk _ _) rfl rfl, cell_set_ne (hn hhk _ _) rfl rfl, cell_set_ne (hn hgk _ _) rfl rfl, cell_set_ne (hn hgk _ _) rfl rfl]; exact y1
theorem lines_new {w0 w7 : World} {g9 g10 : Nat} {m u v n x y : Int} {dm du dv b1 b2 b3 : Bool} {z1 z2 z3 i1 i2 i3 t1 t4 t7 : Option Addr} {r1 s1 r2 s2 r3 s3 j1 o1 j2 o2 j3 o3 t2 t3 t5 t6 t8 t9 : Nat}
    (hne : g9 ≠ g10) (hg9 : w0.heap.size ≤ g9) (hg10 : w0.heap.size ≤ g10) (hb : Below w0.heap.size w0 w7)
    (h9 : w7.heap[g9]? = some (.cells #[.bool b1, .slice z1 r1 s1, .bool b2, .slice z2 r2 s2, .bool b3, .slice z3 r3 s3] 102 (0, 0)))
    (h10 : w7.heap[g10]? = some (.cells #[.bool dm, .slice i1 j1 o1, .bool du, .slice i2 j2 o2, .bool dv, .slice i3 j3 o3] 102 (0, 0)))
    (hm : decide (m < 0) = dm) (hu : decide (u < 0) = du) (hv : decide (v < 0) = dv) (sm : Sl w7 i1 j1 o1 (parts m.natAbs)) (su : Sl w7 i2 j2 o2 (parts u.natAbs)) (sv : Sl w7 i3 j3 o3 (parts v.natAbs))
    (sn : Sl w7 t1 t2 t3 (parts n.natAbs)) (sx : Sl w7 t4 t5 t6 (parts x.natAbs)) (sy : Sl w7 t7 t8 t9 (parts y.natAbs)) :
    Ln (put6 (put6 w7 g9 (.bool dm) (.slice i1 j1 o1) (.bool du) (.slice i2 j2 o2) (.bool dv) (.slice i3 j3 o3)) g10 (.bool (decide (n < 0))) (.slice t1 t2 t3) (.bool (decide (x < 0))) (.slice t4 t5 t6) (.bool (decide (y < 0))) (.slice t7 t8 t9)) g9 m u v ∧
    Ln (put6 (put6 w7 g9 (.bool dm) (.slice i1 j1 o1) (.bool du) (.slice i2 j2 o2) (.bool dv) (.slice i3 j3 o3)) g10 (.bool (decide (n < 0))) (.slice t1 t2 t3) (.bool (decide (x < 0))) (.slice t4 t5 t6) (.bool (decide (y < 0))) (.slice t7 t8 t9)) g10 n x y ∧
    Below w0.heap.size w0 (put6 (put6 w7 g9 (.bool dm) (.slice i1 j1 o1) (.bool du) (.slice i2 j2 o2) (.bool dv) (.slice i3 j3 o3)) g10 (.bool (decide (n < 0))) (.slice t1 t2 t3) (.bool (decide (x < 0))) (.slice t4 t5 t6) (.bool (decide (y < 0))) (.slice t7 t8 t9)) := by
  have h10' := (put6_block (w := w7) (fun e => hne e.symm) (.bool dm) (.slice i1 j1 o1) (.bool du) (.slice i2 j2 o2) (.bool dv) (.slice i3 j3 o3)).trans h10
  subst hm; subst hu; subst hv
  refine ⟨⟨i1, j1, o1, i2, j2, o2, i3, j3, o3, (put6_block hne _ _ _ _ _ _).trans (put6_self h9 _ _ _ _ _ _), ?_, ?_, ?_⟩, ⟨t1, t2, t3, t4, t5, t6, t7, t8, t9, put6_self h10' _ _ _ _ _ _, ?_, ?_, ?_⟩, below_put6 (below_put6 hb hg9 _ _ _ _ _ _) hg10 _ _ _ _ _ _⟩
  · exact (sm.store6 h9 _ _ _ _ _ _).store6 h10' _ _ _ _ _ _
  · exact (su.store6 h9 _ _ _ _ _ _).store6 h10' _ _ _ _ _ _
  · exact (sv.store6 h9 _ _ _ _ _ _).store6 h10' _ _ _ _ _ _
  · exact (sn.store6 h9 _ _ _ _ _ _).store6 h10' _ _ _ _ _ _
  · exact (sx.store6 h9 _ _ _ _ _ _).store6 h10' _ _ _ _ _ _
  · exact (sy.store6 h9 _ _ _ _ _ _).store6 h10' _ _ _ _ _ _

set_option maxRecDepth 100000 in
set_option maxHeartbeats 16000000 in
theorem Bezout_ok (a b : Int) (hla : Lim a) (hlb : Lim b) (ax : Option Addr) (la ca : Nat) (ay : Option Addr) (lb cb : Nat) (w : World) (hx : Sl w ax la ca (parts a.natAbs)) (hy : Sl w ay lb cb (parts b.natAbs)) :
    Calls Tryz.prog 56 #[.agg #[.bool (decide (a < 0)), .slice ax la ca], .agg #[.bool (decide (b < 0)), .slice ay lb cb]] w (RetBez (bez a b).1 (bez a b).2.1 (bez a b).2.2 0 w) := by
  have hall := all_any (w.heap.size + 1 + 1 + 1 + 1 + 1) [⟨decide (a < 0), ax, la, ca, parts a.natAbs⟩, ⟨decide (b < 0), ay, lb, cb, parts b.natAbs⟩]
  have hok : ([⟨decide (a < 0), ax, la, ca, parts a.natAbs⟩, ⟨decide (b < 0), ay, lb, cb, parts b.natAbs⟩] : List Dat).all Dat.ok = true := by
    simp only [List.all_cons, List.all_nil, Bool.and_true, Bool.and_eq_true]
    exact ⟨(okInt_iff _ _).2 ⟨a, hla, rfl, rfl⟩, (okInt_iff _ _).2 ⟨b, hlb, rfl, rfl⟩⟩
  rw [hok] at hall
  have h40a : la ≤ 40 := by have := hla; unfold Lim at this; rwa [hx.length] at this
  have h40b : lb ≤ 40 := by have := hlb; unfold Lim at this; rwa [hy.length] at this
  have hca := fun w h => copied_any a ax la ca w h (by omega)
  have hcb := fun w h => copied_any b ay lb cb w h (by omega)
  have hf1 := fun w => from_any 1 w (by omega) (by omega)
  generalize hda : decide (a < 0) = da at *
  generalize hdb : decide (b < 0) = db at *
  have Hall := Lib.hid hall
  have Hca := Lib.hid hca
  have Hcb := Lib.hid hcb
  have Hf1 := Lib.hid hf1
  have Hda := Lib.hid hda
  have Hdb := Lib.hid hdb
  clear hall hca hcb hf1 hda hdb hok
  go_enter Tryz.func56, Tryz.ntmps56
  go_wp2_with fail
  have hk0 := kept6 w _ _ _ _ _ _ (Below.refl _ ((((((w.alloc (.cells #[.bool da, .slice ax la ca] 24)).alloc (.cells #[.bool db, .slice ay lb cb] 24)).alloc (.cells #[.bool false, .slice none 0 0] 24)).alloc (.cells #[.bool false, .slice none 0 0] 24)).alloc (.cells #[.bool false, .slice none 0 0] 24)).alloc (.cells #[.bool da, .slice ax la ca, .bool db, .slice ay lb cb] 24)))
  have hbw := hk0.2.2.2.2.2.2.2
  have hg0 := hk0.2.2.2.2.2.1
  clear hk0
  refine (Hall.out _ hg0 (by
    intro d hd
    simp only [List.mem_cons, List.not_mem_nil, or_false] at hd
    rcases hd with rfl | rfl
    · exact hx.below hbw
    · exact hy.below hbw) (by simp)).mono ?_
  rintro e w0 ⟨rfl, hb0⟩
  obtain ⟨hA, hB, hG, hX, hY, _, hsz, hbb⟩ := kept6 w _ _ _ _ _ _ hb0
  have he0 : errOf true = 0 := rfl
  rw [he0]
  have hx0 := hx.below hbb
  have hy0 := hy.below hbb
  have HG := Lib.hid hG; have HX := Lib.hid hX; have HY := Lib.hid hY; have HB := Lib.hid hB
  obtain ⟨k1, k2, k3, k4, k5⟩ := box2 hA
  clear he0 hg0 hbw hb0 hG hX hY hA hB hx hy
  go_wp2_with (first | (go_at_call 104; refine (Hca.out _ hx0).mono ?_; rintro e w1 ⟨a1, l1, c1, rfl, hs1, hb1⟩) | (go_at_call 23; (refine (Hf1.out _).mono ?_); rintro e w2 ⟨a2, l2, c2, rfl, hs2, hb2⟩; (have hB2 := box2 (((hb1.trans (hb2.mono hb1.size)).block _ (Array.getElem?_eq_some_iff.1 HB.out).1).trans HB.out); obtain ⟨m1, m2, m3, m4, m5⟩ := hB2)))
  have hW2 := hb1.trans (hb2.mono hb1.size)
  have hy2 := (hy0.below hW2).alloc (.cells #[.bool (decide (a < 0)), .slice a1 l1 c1, .bool false, .slice a2 l2 c2, .bool false, .slice none 0 0] 102)
  have hL1 := heap_new w2 (.cells #[.bool (decide (a < 0)), .slice a1 l1 c1, .bool false, .slice a2 l2 c2, .bool false, .slice none 0 0] 102)
  refine (Hcb.out _ hy2).mono ?_
  rintro e w3 ⟨a3, l3, c3, rfl, hs3, hb3⟩
  go_wp2_with fail
  refine (Hf1.out _).mono ?_
  rintro e w4 ⟨a4, l4, c4, rfl, hs4, hb4⟩
  have hb34 := hb3.trans (hb4.mono hb3.size)
  have hL1' := ((Below.refl _ w4).alloc (Nat.le_refl _) (.cells #[.bool (decide (b < 0)), .slice a3 l3 c3, .bool false, .slice none 0 0, .bool false, .slice a4 l4 c4] 102)).block w2.heap.size (by have := hb34.size; simp at this; omega)
  have hlt9 : w2.heap.size < w4.heap.size := by have := hb34.size; simp at this; omega
  have hW4 : Below w0.heap.size w0 w4 := (hW2.alloc hW2.size _).trans (hb34.mono (by have := hW2.size; simp; omega))
  have hLn9 : Ln (w4.alloc (.cells #[.bool (decide (b < 0)), .slice a3 l3 c3, .bool false, .slice none 0 0, .bool false, .slice a4 l4 c4] 102)) w2.heap.size a 1 0 :=
    ⟨a1, l1, c1, a2, l2, c2, none, 0, 0, (hL1'.trans ((hb34.block _ (by simp)).trans hL1)), ((((hs1.below hb2).alloc _).below hb34).alloc _), ((hs2.alloc _).below hb34).alloc _, by rw [show (0 : Int).natAbs = 0 from rfl, parts_zero]; exact Sl.nil _⟩
  have hLn10 : Ln (w4.alloc (.cells #[.bool (decide (b < 0)), .slice a3 l3 c3, .bool false, .slice none 0 0, .bool false, .slice a4 l4 c4] 102)) w4.heap.size b 0 1 :=
    ⟨a3, l3, c3, none, 0, 0, a4, l4, c4, heap_new w4 _, (hs3.below hb4).alloc _, by rw [show (0 : Int).natAbs = 0 from rfl, parts_zero]; exact Sl.nil _, hs4.alloc _⟩
  have hW5 := hW4.alloc hW4.size (.cells #[.bool (decide (b < 0)), .slice a3 l3 c3, .bool false, .slice none 0 0, .bool false, .slice a4 l4 c4] 102)
  have hg9 : w0.heap.size ≤ w2.heap.size := hW2.size
  have hg10 : w0.heap.size ≤ w4.heap.size := hW4.size
  clear hb1 hb2 hb3 hb4 hs1 hs2 hs3 hs4 hL1 hL1' hb34 hy2 hW2 hW4 hx0 hy0 k1 k2 k3 k4 k5 m1 m2 m3 m4 m5
  go_wp2
  go_loopg [] b.natAbs (fun gk wr => ∃ n x y m u v : Int, Ln wr w2.heap.size n x y ∧ Ln wr w4.heap.size m u v ∧ BezInv a b n x y m u v ∧ gk = m.natAbs ∧ Below w0.heap.size w0 wr)
  case atStart => exact ⟨a, 1, 0, b, 0, 1, hLn9, hLn10, BezInv.start a b, rfl, hW5⟩
  case round =>
    obtain ⟨n, x, y, m, u, v, ⟨p1, q1, r1, p2, q2, r2, p3, q3, r3, hh9, sn, sx, sy⟩, ⟨i1, j1, o1, i2, j2, o2, i3, j3, o3, hh10, sm, su, sv⟩, hinv, rfl, hbel⟩ := hrel
    clear hLn9 hLn10 hW5
    have hlims := hinv.lim hla hlb
    have hsn := fun w => sign_any (decide (m < 0)) i1 j1 o1 w (by have := sm.len_le; omega)
    rw [sign_num m j1 sm.length] at hsn
    by_cases hm0 : m = 0
    · rw [show cmp3 m 0 = 0 by rw [hm0]; rfl] at hsn
      have hend : bezL a 1 0 b 0 1 = (n, x, y) := by rw [← hinv.1, hm0, bezL_zero]
      have hsn2 := fun w => sign_any (decide (n < 0)) p1 q1 r1 w (by have := sn.len_le; omega)
      rw [sign_num n q1 sn.length] at hsn2
      have hop := fun w h1 h2 h3 => lopp_any n x y p1 p2 p3 q1 r1 q2 r2 q3 r3 w h1 h2 h3 (by have := sn.length; have := hlims.1; unfold Lim at this; omega) (by have := sx.length; have := hlims.2.1; unfold Lim at this; omega) (by have := sy.length; have := hlims.2.2.1; unfold Lim at this; omega)
      obtain ⟨⟨e0, e1, e2, e3, e4, e5⟩, ⟨f0, f1, f2, f3, f4, f5⟩, lt9⟩ := box6 hh9
      obtain ⟨⟨d0, d1, d2, d3, d4, d5⟩, _, lt10⟩ := box6 hh10
      have hbez : bez a b = if n < 0 then (-n, -x, -y) else (n, x, y) := by unfold bez; rw [hend]
      have HH9 := Lib.hid hh9
      have HG1 := (hbel.block _ (Array.getElem?_eq_some_iff.1 HG.out).1).trans HG.out
      have HX1 := (hbel.block _ (Array.getElem?_eq_some_iff.1 HX.out).1).trans HX.out
      have HY1 := (hbel.block _ (Array.getElem?_eq_some_iff.1 HY.out).1).trans HY.out
      have hbW := hbb.trans (hbel.mono (by omega))
      have hfr : w.heap.size + 5 < wr.heap.size := by have := hbel.size; omega
      generalize hdm : decide (m < 0) = dm at *
      have Hsn := Lib.hid hsn
      have Hop := Lib.hid hop
      clear hh9 hh10 hend hinv hlims sm su sv hsn hop hdm HG HX HY
      by_cases hn0 : n < 0
      · rw [if_pos hn0] at hbez
        have hc : cmp3 n 0 = -1 := by unfold cmp3; rw [if_pos hn0]
        rw [hc] at hsn2
        have Hsn2 := Lib.hid hsn2
        have Hbez := Lib.hid hbez
        have Hdn0 : Hid (decide (n < 0) = true) := Lib.hid (by simpa using hn0)
        generalize hdn : decide (n < 0) = dn at *
        generalize hdx : decide (x < 0) = dx at *
        generalize hdy : decide (y < 0) = dy at *
        clear hsn2 hbez hdn hdx hdy hn0 hc
        go_wp2_with (first | (go_at_call 40; (with_reducible refine (Hsn.out _).mono ?_); rintro e w5 ⟨rfl, hb5⟩; (have h95 := box6 ((hb5.block _ lt9).trans HH9.out); obtain ⟨⟨z0, z1, z2, z3, z4, z5⟩, _, lt95⟩ := h95)) | (go_at_call 40; (with_reducible refine (Hsn2.out _).mono ?_); rintro e w6 ⟨rfl, hb6⟩; (have h96 := box6 (((hb5.trans (hb6.mono hb5.size)).block _ lt9).trans HH9.out); obtain ⟨⟨c0, c1, c2, c3, c4, c5⟩, _, lt96⟩ := h96)))
        have hbel6 := hb5.trans (hb6.mono hb5.size)
        refine (Hop.out _ (sn.below hbel6) (sx.below hbel6) (sy.below hbel6)).mono ?_
        rintro e w8 ⟨t1, t2, t3, t4, t5, t6, t7, t8, t9, rfl, hn8, hx8, hy8, hb8⟩
        have hbel8 := hbel6.trans (hb8.mono hbel6.size)
        have h98 := (hbel8.block _ lt9).trans HH9.out
        have hW8 := hbW.trans (hbel8.mono (by omega))
        generalize htn : decide (-n < 0) = tn at *
        generalize htx : decide (-x < 0) = tx at *
        generalize hty : decide (-y < 0) = ty at *
        have Htn := Lib.hid htn; have Htx := Lib.hid htx; have Hty := Lib.hid hty
        have sn9 := hn8.store6 h98 (.bool tn) (.slice t1 t2 t3) (.bool tx) (.slice t4 t5 t6) (.bool ty) (.slice t7 t8 t9)
        have sx9 := hx8.store6 h98 (.bool tn) (.slice t1 t2 t3) (.bool tx) (.slice t4 t5 t6) (.bool ty) (.slice t7 t8 t9)
        have sy9 := hy8.store6 h98 (.bool tn) (.slice t1 t2 t3) (.bool tx) (.slice t4 t5 t6) (.bool ty) (.slice t7 t8 t9)
        have hG9 := (put6_block (w := w8) (g := w2.heap.size) (k := w.heap.size + 1 + 1) (by omega) (.bool tn) (.slice t1 t2 t3) (.bool tx) (.slice t4 t5 t6) (.bool ty) (.slice t7 t8 t9)).trans ((hbel8.block _ (by omega)).trans HG1)
        have hX9 := (put6_block (w := w8) (g := w2.heap.size) (k := w.heap.size + 1 + 1 + 1) (by omega) (.bool tn) (.slice t1 t2 t3) (.bool tx) (.slice t4 t5 t6) (.bool ty) (.slice t7 t8 t9)).trans ((hbel8.block _ (by omega)).trans HX1)
        have hY9 := (put6_block (w := w8) (g := w2.heap.size) (k := w.heap.size + 1 + 1 + 1 + 1) (by omega) (.bool tn) (.slice t1 t2 t3) (.bool tx) (.slice t4 t5 t6) (.bool ty) (.slice t7 t8 t9)).trans ((hbel8.block _ (by omega)).trans HY1)
        have hS0 := (box6 (put6_self h98 (.bool tn) (.slice t1 t2 t3) (.bool tx) (.slice t4 t5 t6) (.bool ty) (.slice t7 t8 t9))).1
        have hbW9 := below_put6 hW8 (g := w2.heap.size) (by omega) (.bool tn) (.slice t1 t2 t3) (.bool tx) (.slice t4 t5 t6) (.bool ty) (.slice t7 t8 t9)
        obtain ⟨w9, hw9⟩ : ∃ w9, put6 w8 w2.heap.size (.bool tn) (.slice t1 t2 t3) (.bool tx) (.slice t4 t5 t6) (.bool ty) (.slice t7 t8 t9) = w9 := ⟨_, rfl⟩
        rw [hw9] at sn9 sx9 sy9 hG9 hX9 hY9 hS0 hbW9
        unfold put6 at hw9
        have Hw9 := Lib.hid hw9
        have HG9 := Lib.hid hG9; have HX9 := Lib.hid hX9; have HY9 := Lib.hid hY9; have HS0 := Lib.hid hS0
        obtain ⟨⟨c0', c1', c2', c3', c4', c5'⟩, ⟨f0', f1', f2', f3', f4', f5'⟩, lt98⟩ := box6 h98
        clear hn8 hx8 hy8 hb8 hw9 hG9 hX9 hY9 hS0 htn htx hty sn sx sy hbW hb5 hb6 hbel HG1 HX1 HY1 hbel6 hbel8 hW8 h98
        go_wp2
        rw [Hw9.out]
        obtain ⟨u0, u1, u2, u3, u4⟩ := box2 HG9.out
        obtain ⟨v0, v1, v2, v3, v4⟩ := box2 HX9.out
        obtain ⟨y0, y1, y2, y3, y4⟩ := box2 HY9.out
        have hS9 := HS0.out
        have n1 : w.heap.size + 1 + 1 ≠ w2.heap.size := by omega
        have n2 : w.heap.size + 1 + 1 + 1 ≠ w2.heap.size := by omega
        have n3 : w.heap.size + 1 + 1 + 1 + 1 ≠ w2.heap.size := by omega
        clear hbb e0 e1 e2 e3 e4 e5 d0 d1 d2 d3 d4 d5 z0 z1 z2 z3 z4 z5 c0 c1 c2 c3 c4 c5
        go_region_held3 (fun w' => w'.cell? ⟨w2.heap.size, 0, none⟩ = some (.bool tn) ∧ w'.cell? ⟨w2.heap.size, 1, none⟩ = some (.slice t1 t2 t3) ∧ w'.cell? ⟨w2.heap.size, 2, none⟩ = some (.bool tx) ∧ w'.cell? ⟨w2.heap.size, 3, none⟩ = some (.slice t4 t5 t6) ∧ w'.cell? ⟨w2.heap.size, 4, none⟩ = some (.bool ty) ∧ w'.cell? ⟨w2.heap.size, 5, none⟩ = some (.slice t7 t8 t9)) (first | with_reducible exact six_drew hS9 | with_reducible exact six_drew (six_keep n1 hS9) | with_reducible exact six_drew (six_keep n2 (six_keep n1 hS9)) | with_reducible exact six_drew (six_keep n3 (six_keep n2 (six_keep n1 hS9)))) (fail)
        go_wp2
        refine bodyPost_ret (v := .tuple #[.agg #[.bool tn, .slice t1 t2 t3], .agg #[.bool tx, .slice t4 t5 t6], .agg #[.bool ty, .slice t7 t8 t9], .int .i64 0]) (by simp [results, Tryz.results56, go_sem, u0, u1, v0, v1, y0, y1]) rfl ?_
        have n4 : w.heap.size + 1 + 1 ≠ w.heap.size + 1 + 1 + 1 := by omega
        have n5 : w.heap.size + 1 + 1 ≠ w.heap.size + 1 + 1 + 1 + 1 := by omega
        have n6 : w.heap.size + 1 + 1 + 1 ≠ w.heap.size + 1 + 1 + 1 + 1 := by omega
        have st := fun (ao : Option Addr) (l c : Nat) (zs : List Int) (h : Sl w9 ao l c zs) => three_store (b1 := .bool tn) (b2 := .slice t1 t2 t3) (b3 := .bool tx) (b4 := .slice t4 t5 t6) (b5 := .bool ty) (b6 := .slice t7 t8 t9) n4 n5 n6 u0 u1 v0 v1 y0 y1 h
        show RetBez (bez a b).1 (bez a b).2.1 (bez a b).2.2 0 w _ _
        rw [Hbez.out]
        exact ⟨t1, t2, t3, t4, t5, t6, t7, t8, t9, by rw [Htn.out, Htx.out, Hty.out], (st _ _ _ _ sn9).drew, (st _ _ _ _ sx9).drew, (st _ _ _ _ sy9).drew, ((((((hbW9.setCell (by simp; omega) _).setCell (by simp; omega) _).setCell (by simp; omega) _).setCell (by simp; omega) _).setCell (by simp; omega) _).setCell (by simp; omega) _).drew⟩
      · rw [if_neg hn0] at hbez
        have hc : 0 ≤ cmp3 n 0 := by unfold cmp3; rw [if_neg hn0]; split <;> omega
        generalize cmp3 n 0 = sg at hsn2 hc
        have Hsn2 := Lib.hid hsn2
        have Hbez := Lib.hid hbez
        generalize hdn : decide (n < 0) = dn at *
        generalize hdx : decide (x < 0) = dx at *
        generalize hdy : decide (y < 0) = dy at *
        have Hdn := Lib.hid hdn; have Hdx := Lib.hid hdx; have Hdy := Lib.hid hdy
        clear hsn2 hbez hdn hdx hdy hn0
        go_wp2_with (first | (go_at_call 40; (with_reducible refine (Hsn.out _).mono ?_); rintro e w5 ⟨rfl, hb5⟩; (have h95 := box6 ((hb5.block _ lt9).trans HH9.out); obtain ⟨⟨z0, z1, z2, z3, z4, z5⟩, _, lt95⟩ := h95)) | (go_at_call 40; (with_reducible refine (Hsn2.out _).mono ?_); rintro e w6 ⟨rfl, hb6⟩))
        have hbel6 := hb5.trans (hb6.mono hb5.size)
        obtain ⟨u0, u1, u2, u3, u4⟩ := box2 ((hbel6.block _ (by omega)).trans HG1)
        obtain ⟨v0, v1, v2, v3, v4⟩ := box2 ((hbel6.block _ (by omega)).trans HX1)
        obtain ⟨y0, y1, y2, y3, y4⟩ := box2 ((hbel6.block _ (by omega)).trans HY1)
        have hS6 := (box6 (w := w6) ((hbel6.block _ lt9).trans HH9.out)).1
        have sn6 := sn.below hbel6
        have sx6 := sx.below hbel6
        have sy6 := sy.below hbel6
        have hbW6 := hbW.trans (hbel6.mono (by omega))
        have n1 : w.heap.size + 1 + 1 ≠ w2.heap.size := by omega
        have n2 : w.heap.size + 1 + 1 + 1 ≠ w2.heap.size := by omega
        have n3 : w.heap.size + 1 + 1 + 1 + 1 ≠ w2.heap.size := by omega
        clear sn sx sy hbW hb5 hb6 hbel HG1 HX1 HY1 hbb hbel6 e0 e1 e2 e3 e4 e5 d0 d1 d2 d3 d4 d5 z0 z1 z2 z3 z4 z5
        go_region_held3 (fun w' => w'.cell? ⟨w2.heap.size, 0, none⟩ = some (.bool dn) ∧ w'.cell? ⟨w2.heap.size, 1, none⟩ = some (.slice p1 q1 r1) ∧ w'.cell? ⟨w2.heap.size, 2, none⟩ = some (.bool dx) ∧ w'.cell? ⟨w2.heap.size, 3, none⟩ = some (.slice p2 q2 r2) ∧ w'.cell? ⟨w2.heap.size, 4, none⟩ = some (.bool dy) ∧ w'.cell? ⟨w2.heap.size, 5, none⟩ = some (.slice p3 q3 r3)) (first | with_reducible exact six_drew hS6 | with_reducible exact six_drew (six_keep n1 hS6) | with_reducible exact six_drew (six_keep n2 (six_keep n1 hS6)) | with_reducible exact six_drew (six_keep n3 (six_keep n2 (six_keep n1 hS6)))) (fail)
        go_wp2
        refine bodyPost_ret (v := .tuple #[.agg #[.bool dn, .slice p1 q1 r1], .agg #[.bool dx, .slice p2 q2 r2], .agg #[.bool dy, .slice p3 q3 r3], .int .i64 0]) (by simp [results, Tryz.results56, go_sem, u0, u1, v0, v1, y0, y1]) rfl ?_
        have n4 : w.heap.size + 1 + 1 ≠ w.heap.size + 1 + 1 + 1 := by omega
        have n5 : w.heap.size + 1 + 1 ≠ w.heap.size + 1 + 1 + 1 + 1 := by omega
        have n6 : w.heap.size + 1 + 1 + 1 ≠ w.heap.size + 1 + 1 + 1 + 1 := by omega
        have st := fun (ao : Option Addr) (l c : Nat) (zs : List Int) (h : Sl w6 ao l c zs) => three_store (b1 := .bool dn) (b2 := .slice p1 q1 r1) (b3 := .bool dx) (b4 := .slice p2 q2 r2) (b5 := .bool dy) (b6 := .slice p3 q3 r3) n4 n5 n6 u0 u1 v0 v1 y0 y1 h
        show RetBez (bez a b).1 (bez a b).2.1 (bez a b).2.2 0 w _ _
        rw [Hbez.out]
        exact ⟨p1, q1, r1, p2, q2, r2, p3, q3, r3, by rw [Hdn.out, Hdx.out, Hdy.out], (st _ _ _ _ sn6).drew, (st _ _ _ _ sx6).drew, (st _ _ _ _ sy6).drew, ((((((hbW6.setCell (by simp; omega) _).setCell (by simp; omega) _).setCell (by simp; omega) _).setCell (by simp; omega) _).setCell (by simp; omega) _).setCell (by simp; omega) _).drew⟩
    · have hs1 : (cmp3 m 0 != 0) = true := by unfold cmp3; rw [bne_iff_ne]; split <;> (try split) <;> omega
      have hq0 := fun w h1 h2 => quotient_any n m p1 q1 r1 i1 j1 o1 w h1 h2 (by have := sn.length; have := hlims.1; unfold Lim at this; omega) (by have := sm.length; have := hlims.2.2.2.1; unfold Lim at this; omega) hm0
      have hle0 := fun aq lq cq w h1 h2 h3 h4 h5 h6 h7 => less_any n x y m u v (flq n m) p1 p2 p3 i1 i2 i3 aq q1 r1 q2 r2 q3 r3 j1 o1 j2 o2 j3 o3 lq cq w h1 h2 h3 h4 h5 h6 h7
        (by have := sn.length; have := hlims.1; unfold Lim at this; omega) (by have := sx.length; have := hlims.2.1; unfold Lim at this; omega) (by have := sy.length; have := hlims.2.2.1; unfold Lim at this; omega)
        (by have := sm.length; have := hlims.2.2.2.1; unfold Lim at this; omega) (by have := su.length; have := hlims.2.2.2.2.1; unfold Lim at this; omega) (by have := sv.length; have := hlims.2.2.2.2.2; unfold Lim at this; omega)
        (by have := h7.length; have := flq_len n m hm0 hlims.1; omega)
      have hstep := Lib.hid (hinv.step hm0)
      generalize cmp3 m 0 = sg at hsn hs1
      obtain ⟨⟨e0, e1, e2, e3, e4, e5⟩, ⟨f0, f1, f2, f3, f4, f5⟩, lt9⟩ := box6 hh9
      obtain ⟨⟨d0, d1, d2, d3, d4, d5⟩, ⟨g0, g1, g2, g3, g4, g5⟩, lt10⟩ := box6 hh10
      generalize hdn : decide (n < 0) = dn at *
      generalize hdx : decide (x < 0) = dx at *
      generalize hdy : decide (y < 0) = dy at *
      generalize hdm : decide (m < 0) = dm at *
      generalize hdu : decide (u < 0) = du at *
      generalize hdv : decide (v < 0) = dv at *
      have Hdm := Lib.hid hdm; have Hdu := Lib.hid hdu; have Hdv := Lib.hid hdv
      have Hsn := Lib.hid hsn
      have Hq := Lib.hid hq0
      have Hle := Lib.hid hle0
      have HH9 := Lib.hid hh9
      have HH10 := Lib.hid hh10
      clear hsn hq0 hle0 hinv hlims hdn hdx hdy hdm hdu hdv hh9 hh10
      go_wp2_with (go_at_call 40; (refine (Hsn.out _).mono ?_); rintro e w5 ⟨rfl, hb5⟩)
      have h9 := (hb5.block _ lt9).trans HH9.out
      have h10 := (hb5.block _ lt10).trans HH10.out
      have hS5 : (fun w' : World => (w'.cell? ⟨w2.heap.size, 0, none⟩ = some (.bool dn) ∧ w'.cell? ⟨w2.heap.size, 1, none⟩ = some (.slice p1 q1 r1) ∧ w'.cell? ⟨w2.heap.size, 2, none⟩ = some (.bool dx) ∧ w'.cell? ⟨w2.heap.size, 3, none⟩ = some (.slice p2 q2 r2) ∧ w'.cell? ⟨w2.heap.size, 4, none⟩ = some (.bool dy) ∧ w'.cell? ⟨w2.heap.size, 5, none⟩ = some (.slice p3 q3 r3)) ∧ (w'.cell? ⟨w4.heap.size, 0, none⟩ = some (.bool dm) ∧ w'.cell? ⟨w4.heap.size, 1, none⟩ = some (.slice i1 j1 o1) ∧ w'.cell? ⟨w4.heap.size, 2, none⟩ = some (.bool du) ∧ w'.cell? ⟨w4.heap.size, 3, none⟩ = some (.slice i2 j2 o2) ∧ w'.cell? ⟨w4.heap.size, 4, none⟩ = some (.bool dv) ∧ w'.cell? ⟨w4.heap.size, 5, none⟩ = some (.slice i3 j3 o3))) w5.drew := ⟨(box6 h9).1, (box6 h10).1⟩
      have hb5' : Below wr.heap.size wr w5.drew := hb5.drew
      clear e0 e1 e2 e3 e4 e5 d0 d1 d2 d3 d4 d5 f0 f1 f2 f3 f4 f5 g0 g1 g2 g3 g4 g5
      refine AnyT.begin (S := fun w' : World => (w'.cell? ⟨w2.heap.size, 0, none⟩ = some (.bool dn) ∧ w'.cell? ⟨w2.heap.size, 1, none⟩ = some (.slice p1 q1 r1) ∧ w'.cell? ⟨w2.heap.size, 2, none⟩ = some (.bool dx) ∧ w'.cell? ⟨w2.heap.size, 3, none⟩ = some (.slice p2 q2 r2) ∧ w'.cell? ⟨w2.heap.size, 4, none⟩ = some (.bool dy) ∧ w'.cell? ⟨w2.heap.size, 5, none⟩ = some (.slice p3 q3 r3)) ∧ (w'.cell? ⟨w4.heap.size, 0, none⟩ = some (.bool dm) ∧ w'.cell? ⟨w4.heap.size, 1, none⟩ = some (.slice i1 j1 o1) ∧ w'.cell? ⟨w4.heap.size, 2, none⟩ = some (.bool du) ∧ w'.cell? ⟨w4.heap.size, 3, none⟩ = some (.slice i2 j2 o2) ∧ w'.cell? ⟨w4.heap.size, 4, none⟩ = some (.bool dv) ∧ w'.cell? ⟨w4.heap.size, 5, none⟩ = some (.slice i3 j3 o3))) (n := 9) (by kernel_rfl) ?_
      refine AnyT.take (i := 0) (v := .agg #[.bool dm, .slice i1 j1 o1, .bool du, .slice i2 j2 o2, .bool dv, .slice i3 j3 o3]) rfl (by decide) (by kernel_rfl) (by kernel_rfl) (by kernel_rfl) (by kernel_rfl) (by kernel_rfl) (fun _ _ _ h => h) (Or.inl ⟨by rfl, ?_⟩) hS5 ?_
      · rintro w' ⟨⟨b0, b1, b2, b3, b4, b5⟩, ⟨b6, b7, b8, b9, b10, b11⟩⟩
        go_simp
      try simp only [Act.put, List.setIfInBounds_toArray, List.set_cons_zero, List.set_cons_succ]
      refine AnyT.take (i := 1) (v := .agg #[.bool dn, .slice p1 q1 r1, .bool dx, .slice p2 q2 r2, .bool dy, .slice p3 q3 r3]) rfl (by decide) (by kernel_rfl) (by kernel_rfl) (by kernel_rfl) (by kernel_rfl) (by kernel_rfl) (fun _ _ _ h => h) (Or.inl ⟨by rfl, ?_⟩) hS5 ?_
      · rintro w' ⟨⟨b0, b1, b2, b3, b4, b5⟩, ⟨b6, b7, b8, b9, b10, b11⟩⟩
        go_simp
      try simp only [Act.put, List.setIfInBounds_toArray, List.set_cons_zero, List.set_cons_succ]
      refine AnyT.take (i := 2) (v := .agg #[.bool dm, .slice i1 j1 o1, .bool du, .slice i2 j2 o2, .bool dv, .slice i3 j3 o3]) rfl (by decide) (by kernel_rfl) (by kernel_rfl) (by kernel_rfl) (by kernel_rfl) (by kernel_rfl) (fun _ _ _ h => h) (Or.inl ⟨by rfl, ?_⟩) hS5 ?_
      · rintro w' ⟨⟨b0, b1, b2, b3, b4, b5⟩, ⟨b6, b7, b8, b9, b10, b11⟩⟩
        go_simp
      try simp only [Act.put, List.setIfInBounds_toArray, List.set_cons_zero, List.set_cons_succ]
      refine AnyT.take (i := 3) (v := .pointer (some ⟨w2.heap.size, 0, none⟩)) rfl (by decide) (by kernel_rfl) (by kernel_rfl) (by kernel_rfl) (by kernel_rfl) (by kernel_rfl) (fun _ _ _ h => h) (Or.inl ⟨by rfl, ?_⟩) hS5 ?_
      · rintro w' ⟨⟨b0, b1, b2, b3, b4, b5⟩, ⟨b6, b7, b8, b9, b10, b11⟩⟩
        go_simp
      try simp only [Act.put, List.setIfInBounds_toArray, List.set_cons_zero, List.set_cons_succ]
      refine AnyT.take (i := 4) (v := .agg #[.bool dn, .slice p1 q1 r1]) rfl (by decide) (by kernel_rfl) (by kernel_rfl) (by kernel_rfl) (by kernel_rfl) (by kernel_rfl) (fun _ _ _ h => h) (Or.inl ⟨by rfl, ?_⟩) hS5 ?_
      · rintro w' ⟨⟨b0, b1, b2, b3, b4, b5⟩, ⟨b6, b7, b8, b9, b10, b11⟩⟩
        go_simp
      try simp only [Act.put, List.setIfInBounds_toArray, List.set_cons_zero, List.set_cons_succ]
      refine AnyT.take (i := 5) (v := .pointer (some ⟨w4.heap.size, 0, none⟩)) rfl (by decide) (by kernel_rfl) (by kernel_rfl) (by kernel_rfl) (by kernel_rfl) (by kernel_rfl) (fun _ _ _ h => h) (Or.inl ⟨by rfl, ?_⟩) hS5 ?_
      · rintro w' ⟨⟨b0, b1, b2, b3, b4, b5⟩, ⟨b6, b7, b8, b9, b10, b11⟩⟩
        go_simp
      try simp only [Act.put, List.setIfInBounds_toArray, List.set_cons_zero, List.set_cons_succ]
      refine AnyT.take (i := 6) (v := .agg #[.bool dm, .slice i1 j1 o1]) rfl (by decide) (by kernel_rfl) (by kernel_rfl) (by kernel_rfl) (by kernel_rfl) (by kernel_rfl) (fun _ _ _ h => h) (Or.inl ⟨by rfl, ?_⟩) hS5 ?_
      · rintro w' ⟨⟨b0, b1, b2, b3, b4, b5⟩, ⟨b6, b7, b8, b9, b10, b11⟩⟩
        go_simp
      try simp only [Act.put, List.setIfInBounds_toArray, List.set_cons_zero, List.set_cons_succ]
      have sn5 := sn.below hb5'
      have sm5 := sm.below hb5'
      have sx5 := sx.below hb5'
      have sy5 := sy.below hb5'
      have su5 := su.below hb5'
      have sv5 := sv.below hb5'
      clear hS5
      refine AnyT.one (i := 7) (by kernel_rfl) rfl (fun K hK => ?_)
      go_simp
      refine (Hq.out _ sn5 sm5).mono ?_
      rintro e w6 ⟨aq, lq, cq, rfl, hsq, hb6⟩
      have hb6' := hb5'.trans (hb6.mono hb5'.size)
      refine hK.out _ _ (fun _ => ⟨(box6 ((hb6'.block _ lt9).trans HH9.out)).1, (box6 ((hb6'.block _ lt10).trans HH10.out)).1⟩) ?_
      clear hK K
      try simp only [Act.put, List.setIfInBounds_toArray, List.set_cons_zero, List.set_cons_succ]
      have sn6 := sn5.below hb6
      have sm6 := sm5.below hb6
      have sx6 := sx5.below hb6
      have sy6 := sy5.below hb6
      have su6 := su5.below hb6
      have sv6 := sv5.below hb6
      have hq1 : Hid _ := Lib.hid (Hle.out aq lq cq w6 sn6 sx6 sy6 sm6 su6 sv6 hsq)
      generalize decide (flq n m < 0) = dq at *
      refine AnyT.one (i := 8) (by kernel_rfl) rfl (fun K hK => ?_)
      go_simp
      refine hq1.out.mono ?_
      rintro e w7 ⟨t1, t2, t3, t4, t5, t6, t7, t8, t9, rfl, hn7, hx7, hy7, hb7⟩
      have hb7' := hb6'.trans (hb7.mono hb6'.size)
      have h97 := (hb7'.block _ lt9).trans HH9.out
      have h107 := (hb7'.block _ lt10).trans HH10.out
      refine hK.out _ _ (fun _ => ⟨(box6 h97).1, (box6 h107).1⟩) ?_
      clear hK K
      try simp only [Act.put, List.setIfInBounds_toArray, List.set_cons_zero, List.set_cons_succ]
      obtain ⟨⟨e0, e1, e2, e3, e4, e5⟩, ⟨f0, f1, f2, f3, f4, f5⟩, lt97⟩ := box6 h97
      refine AnyT.one (i := 9) (by kernel_rfl) rfl (fun K hK => ?_)
      go_simp
      refine hK.out _ _ (fun h => absurd h (by decide)) ?_
      clear hK K e0 e1 e2 e3 e4 e5 f0 f1 f2 f3 f4 f5
      try simp only [Act.put, List.setIfInBounds_toArray, List.set_cons_zero, List.set_cons_succ]
      have h108 := (put6_block (w := w7) (g := w2.heap.size) (k := w4.heap.size) (by omega) (.bool dm) (.slice i1 j1 o1) (.bool du) (.slice i2 j2 o2) (.bool dv) (.slice i3 j3 o3)).trans h107
      have hb108 := box6 h108
      unfold put6 at hb108
      obtain ⟨⟨d0, d1, d2, d3, d4, d5⟩, ⟨g0, g1, g2, g3, g4, g5⟩, lt108⟩ := hb108
      refine AnyT.one (i := 10) (by kernel_rfl) rfl (fun K hK => ?_)
      go_simp
      refine hK.out _ _ (fun h => absurd h (by decide)) ?_
      clear hK K d0 d1 d2 d3 d4 d5 g0 g1 g2 g3 g4 g5
      try simp only [Act.put, List.setIfInBounds_toArray, List.set_cons_zero, List.set_cons_succ]
      refine AnyT.done (by kernel_rfl) ?_ _
      have hrel := lines_new (by omega) hg9 hg10 (hbel.trans (hb7'.mono hbel.size)) h97 h107 Hdm.out Hdu.out Hdv.out (sm6.below hb7) (su6.below hb7) (sv6.below hb7) hn7 hx7 hy7
      have Hrel := Lib.hid hrel
      have Hstep1 := Lib.hid hstep.out.1
      have hlt0 := hstep.out.2
      clear hrel sn5 sm5 sx5 sy5 su5 sv5 sn6 sm6 sx6 sy6 su6 sv6 hn7 hx7 hy7 h97 h107 h108 hstep
      go_wp2
      go_roundg (n - flq n m * m).natAbs
      case measure => exact hlt0
      case rel => exact ⟨_, _, _, _, _, _, Hrel.out.1, Hrel.out.2.1, Hstep1.out, rfl, Hrel.out.2.2⟩
end Go.Proofs.YtfjnplhhgdfepaaGreatDoor

/- What the check of examples calls, each call at its own numbers: signs and parts stand as names, so that a walk does not reckon with them. -/
namespace Go.Proofs.YtfjnplhhgdfepaaGreatDoor
open Go.RowKit

/-- A number with this sign and these parts. -/
def RetP (n : Bool) (xs : List Int) (w : World) (e : Ending) (w' : World) : Prop :=
  ∃ ao len cap, e = .returned (.agg #[.bool n, .slice ao len cap]) ∧ Sl w' ao len cap xs ∧ Below w.heap.size w w'
/-- A number with this sign and these parts, and an error. -/
def RetPE (n : Bool) (xs : List Int) (er : Int) (w : World) (e : Ending) (w' : World) : Prop :=
  ∃ ao len cap, e = .returned (.tuple #[.agg #[.bool n, .slice ao len cap], .int .i64 er]) ∧ Sl w' ao len cap xs ∧ Below w.heap.size w w'
/-- The number z has this sign and these parts. -/
def Num (z : Int) (n : Bool) (xs : List Int) : Prop := Lim z ∧ n = decide (z < 0) ∧ xs = parts z.natAbs
theorem Num.of (z : Int) (h : z.natAbs < 1000000000 ^ 40) : Num z (decide (z < 0)) (parts z.natAbs) := ⟨(lim_iff z).2 h, rfl, rfl⟩
theorem num_ex (z : Int) (h : z.natAbs < 1000000000 ^ 40) : ∃ n xs, Num z n xs := ⟨_, _, Num.of z h⟩

theorem ofP {z : Int} {n : Bool} {xs : List Int} (h : Num z n xs) (h0 : -9223372036854775808 ≤ z) (h1 : z ≤ 9223372036854775807) (w : World) :
    Calls Tryz.prog 69 #[.int .i64 z] w (RetP n xs w) := by
  obtain ⟨_, rfl, rfl⟩ := h
  exact of_any z w h0 h1
theorem divP {x y z : Int} {n1 n2 n3 : Bool} {xs ys zs : List Int} (hx : Num x n1 xs) (hy : Num y n2 ys) (hz : Num z n3 zs) (h0 : y ≠ 0) (he : flq x y = z) (ax : Option Addr) (la ca : Nat) (ay : Option Addr) (lb cb : Nat) (w : World) (sx : Sl w ax la ca xs) (sy : Sl w ay lb cb ys) :
    Calls Tryz.prog 50 #[.agg #[.bool n1, .slice ax la ca], .agg #[.bool n2, .slice ay lb cb]] w (RetPE n3 zs 0 w) := by
  obtain ⟨h1, rfl, rfl⟩ := hx
  obtain ⟨h2, rfl, rfl⟩ := hy
  obtain ⟨h3, rfl, rfl⟩ := hz
  subst he
  exact (Div_ok x y h1 h2 h0 ax la ca ay lb cb w sx sy).mono fun _ _ h => h.1 h3
theorem modP {x y z : Int} {n1 n2 n3 : Bool} {xs ys zs : List Int} (hx : Num x n1 xs) (hy : Num y n2 ys) (hz : Num z n3 zs) (h0 : y ≠ 0) (he : flr x y = z) (ax : Option Addr) (la ca : Nat) (ay : Option Addr) (lb cb : Nat) (w : World) (sx : Sl w ax la ca xs) (sy : Sl w ay lb cb ys) :
    Calls Tryz.prog 52 #[.agg #[.bool n1, .slice ax la ca], .agg #[.bool n2, .slice ay lb cb]] w (RetPE n3 zs 0 w) := by
  obtain ⟨h1, rfl, rfl⟩ := hx
  obtain ⟨h2, rfl, rfl⟩ := hy
  obtain ⟨h3, rfl, rfl⟩ := hz
  subst he
  exact (Mod_ok x y h1 h2 h0 ax la ca ay lb cb w sx sy).mono fun _ _ h => h.1 h3
theorem div0P {x y : Int} {n1 n2 : Bool} {xs ys : List Int} (hx : Num x n1 xs) (hy : Num y n2 ys) (h0 : y = 0) (ax : Option Addr) (la ca : Nat) (ay : Option Addr) (lb cb : Nat) (w : World) (sx : Sl w ax la ca xs) (sy : Sl w ay lb cb ys) :
    Calls Tryz.prog 50 #[.agg #[.bool n1, .slice ax la ca], .agg #[.bool n2, .slice ay lb cb]] w (RetPE false [] 11 w) := by
  obtain ⟨h1, rfl, rfl⟩ := hx
  obtain ⟨h2, rfl, rfl⟩ := hy
  refine (Div_zero x y h1 h2 h0 ax la ca ay lb cb w sx sy).mono ?_
  rintro e w' ⟨ao, len, cap, rfl, hs, hb⟩
  exact ⟨ao, len, cap, rfl, by rw [show (0 : Int).natAbs = 0 from rfl, parts_zero] at hs; exact hs, hb⟩
theorem powP {x y z : Int} {n1 n2 n3 : Bool} {xs ys zs : List Int} (hx : Num x n1 xs) (hy : Num y n2 ys) (hz : Num z n3 zs) (h0 : 0 ≤ y) (he : x ^ y.natAbs = z) (ax : Option Addr) (la ca : Nat) (ay : Option Addr) (lb cb : Nat) (w : World) (sx : Sl w ax la ca xs) (sy : Sl w ay lb cb ys) :
    Calls Tryz.prog 54 #[.agg #[.bool n1, .slice ax la ca], .agg #[.bool n2, .slice ay lb cb]] w (RetPE n3 zs 0 w) := by
  obtain ⟨h1, rfl, rfl⟩ := hx
  obtain ⟨h2, rfl, rfl⟩ := hy
  obtain ⟨h3, rfl, rfl⟩ := hz
  subst he
  exact (Pow_ok x y h1 h2 h0 ax la ca ay lb cb w sx sy).mono fun _ _ h => h.1 h3
theorem textP {z : Int} {n : Bool} {xs : List Int} (hz : Num z n xs) (h0 : z ≠ 0) {l : List UInt8} (he : txt z = l) (ao : Option Addr) (len cap : Nat) (w : World) (hs : Sl w ao len cap xs) (ht : Tab w) :
    Calls Tryz.prog 25 #[.agg #[.bool n, .slice ao len cap]] w fun e w' => e = .returned (.tuple #[.string ⟨l.toArray⟩, .int .i64 0]) ∧ Below w.heap.size w w' := by
  obtain ⟨h1, rfl, rfl⟩ := hz
  subst he
  exact Text_ok z h0 h1 ao len cap w hs ht
theorem bytesP {z : Int} {n : Bool} {xs : List Int} (hz : Num z n xs) {l : List Int} (he : bytesOf z = l) (ao : Option Addr) (len cap : Nat) (w : World) (hs : Sl w ao len cap xs) :
    Calls Tryz.prog 31 #[.agg #[.bool n, .slice ao len cap]] w fun e w' => ∃ ao len cap, e = .returned (.tuple #[.slice ao len cap, .int .i64 0]) ∧ Sb w' ao len cap l ∧ Below w.heap.size w w' := by
  obtain ⟨h1, rfl, rfl⟩ := hz
  subst he
  exact Bytes_ok z h1 ao len cap w hs
theorem bezP {x y g u v : Int} {n1 n2 n3 n4 n5 : Bool} {xs ys gs us vs : List Int} (hx : Num x n1 xs) (hy : Num y n2 ys) (hg : Num g n3 gs) (hu : Num u n4 us) (hv : Num v n5 vs) (he : bez x y = (g, u, v)) (ax : Option Addr) (la ca : Nat) (ay : Option Addr) (lb cb : Nat) (w : World) (sx : Sl w ax la ca xs) (sy : Sl w ay lb cb ys) :
    Calls Tryz.prog 56 #[.agg #[.bool n1, .slice ax la ca], .agg #[.bool n2, .slice ay lb cb]] w fun e w' =>
      ∃ a1 l1 c1 a2 l2 c2 a3 l3 c3, e = .returned (.tuple #[.agg #[.bool n3, .slice a1 l1 c1], .agg #[.bool n4, .slice a2 l2 c2], .agg #[.bool n5, .slice a3 l3 c3], .int .i64 0]) ∧
        Sl w' a1 l1 c1 gs ∧ Sl w' a2 l2 c2 us ∧ Sl w' a3 l3 c3 vs ∧ Below w.heap.size w w' := by
  obtain ⟨h1, rfl, rfl⟩ := hx
  obtain ⟨h2, rfl, rfl⟩ := hy
  obtain ⟨_, rfl, rfl⟩ := hg
  obtain ⟨_, rfl, rfl⟩ := hu
  obtain ⟨_, rfl, rfl⟩ := hv
  have := Bezout_ok x y h1 h2 ax la ca ay lb cb w sx sy
  rw [he] at this
  exact this
theorem sameP {z : Int} {n : Bool} {xs : List Int} (hz : Num z n xs) (ax : Option Addr) (la ca : Nat) (ay : Option Addr) (lb cb : Nat) (w : World) (hx : Sl w ax la ca xs) (hy : Sl w ay lb cb xs) :
    Calls Tryz.prog 22 #[.agg #[.bool n, .slice ax la ca], .agg #[.bool n, .slice ay lb cb]] w (RetBool true w) := by
  obtain ⟨_, rfl, rfl⟩ := hz
  have h := same_any (decide (z < 0)) ax la ca (parts z.natAbs) (decide (z < 0)) ay lb cb (parts z.natAbs) w hx hy
  rwa [show sameI (decide (z < 0)) (parts z.natAbs) (decide (z < 0)) (parts z.natAbs) = true by unfold sameI; rw [cmpI_num, cmp3_self]; rfl] at h
theorem chooseP {n k z : Int} {n3 : Bool} {zs : List Int} (hz : Num z n3 zs) (h0 : 0 ≤ n) (h1 : n ≤ 4000) (h2 : 0 ≤ k) (h3 : k ≤ n) (he : (ch n.toNat k.toNat : Int) = z) (w : World) :
    Calls Tryz.prog 62 #[.int .i64 n, .int .i64 k] w (RetPE n3 zs 0 w) := by
  obtain ⟨h4, rfl, rfl⟩ := hz
  subst he
  exact (choose_any n k w).mono fun _ _ h => (h.2.2 h0 h1 h2 h3).1 h4
theorem readP {s : ByteArray} {z er : Int} {n : Bool} {xs : List Int} (hz : Num z n xs) (he : readErr s = er) (hv : readVal s = z) (hs : s.size ≤ 9223372036854775807) (w : World) :
    Calls Tryz.prog 29 #[.string s] w (RetPE n xs er w) := by
  obtain ⟨_, rfl, rfl⟩ := hz
  have := Read_any s w hs
  rw [hv, he] at this
  exact this
/-- A fresh cell of a number, stored once. -/
theorem put2_new (w : World) (t : TypeId) (u v n s : Value) :
    (((w.alloc (.cells #[u, v] t)).setCell ⟨w.heap.size, 0, none⟩ n).setCell ⟨w.heap.size, 1, none⟩ s).heap[w.heap.size]? = some (.cells #[n, s] t (0, 0)) ∧
    Below w.heap.size w (((w.alloc (.cells #[u, v] t)).setCell ⟨w.heap.size, 0, none⟩ n).setCell ⟨w.heap.size, 1, none⟩ s) := by
  exact ⟨heap_set2 (heap_new w _), (((Below.refl _ w).alloc (Nat.le_refl _) _).setCell (by simp) _).setCell (by simp) _⟩
end Go.Proofs.YtfjnplhhgdfepaaGreatDoor

/- Text of 0, and Bezout of what is no integer. -/
namespace Go.Proofs.YtfjnplhhgdfepaaGreatDoor
open Go.RowKit

set_option maxRecDepth 100000 in
theorem Text_zero (ao : Option Addr) (len cap : Nat) (w : World) (hs : Sl w ao len cap (parts (0 : Int).natAbs)) :
    Calls Tryz.prog 25 #[.agg #[.bool (decide ((0 : Int) < 0)), .slice ao len cap]] w fun e w' => e = .returned (.tuple #[.string ⟨(txt 0).toArray⟩, .int .i64 0]) ∧ Below w.heap.size w w' := by
  have hl : Lim 0 := by unfold Lim; rw [show (0 : Int).natAbs = 0 from rfl, parts_zero]; simp
  have hok : okInt (decide ((0 : Int) < 0)) (parts (0 : Int).natAbs) = true := (okInt_iff _ _).2 ⟨0, hl, rfl, rfl⟩
  have hck := fun w h => check_any (decide ((0 : Int) < 0)) ao len cap (parts (0 : Int).natAbs) w h
  rw [hok, show errOf true = 0 from rfl] at hck
  have h0 : len = 0 := by have := hs.length; rw [show (0 : Int).natAbs = 0 from rfl, parts_zero] at this; simpa using this.symm
  subst h0
  have htz := txt_zero
  generalize txt 0 = tz at *
  subst htz
  generalize decide ((0 : Int) < 0) = neg at *
  generalize parts (0 : Int).natAbs = xs at *
  have Hck := Lib.hid hck
  clear hck hok hl
  go_enter Tryz.func25, Tryz.ntmps25
  go_wp2_with fail
  refine (Hck.out _ (hs.alloc _)).mono ?_
  rintro e w1 ⟨rfl, hb1⟩
  obtain ⟨hA, _, hbb⟩ := kept1 _ _ hb1
  obtain ⟨k1, k2, k3, k4, k5⟩ := box2 hA
  clear hb1
  go_wp2
  go_ret2
  exact ⟨rfl, hbb⟩

set_option maxRecDepth 100000 in
set_option maxHeartbeats 4000000 in
theorem Bezout_bad (n1 : Bool) (ax : Option Addr) (la ca : Nat) (xs : List Int) (n2 : Bool) (ay : Option Addr) (lb cb : Nat) (ys : List Int) (w : World) (hx : Sl w ax la ca xs) (hy : Sl w ay lb cb ys) (hno : (okInt n1 xs && okInt n2 ys) = false) :
    Calls Tryz.prog 56 #[.agg #[.bool n1, .slice ax la ca], .agg #[.bool n2, .slice ay lb cb]] w (RetBez 0 0 0 10 w) := by
  have hall := all_any (w.heap.size + 1 + 1 + 1 + 1 + 1) [⟨n1, ax, la, ca, xs⟩, ⟨n2, ay, lb, cb, ys⟩]
  have he : errOf (List.all [(⟨n1, ax, la, ca, xs⟩ : Dat), ⟨n2, ay, lb, cb, ys⟩] Dat.ok) = 10 := by
    have : List.all [(⟨n1, ax, la, ca, xs⟩ : Dat), ⟨n2, ay, lb, cb, ys⟩] Dat.ok = (okInt n1 xs && okInt n2 ys) := by simp [Dat.ok]
    rw [this, hno]; rfl
  rw [he] at hall
  have Hall := Lib.hid hall
  clear hall he
  go_enter Tryz.func56, Tryz.ntmps56
  go_wp2_with fail
  have hk0 := kept6 w _ _ _ _ _ _ (Below.refl _ ((((((w.alloc (.cells #[.bool n1, .slice ax la ca] 24)).alloc (.cells #[.bool n2, .slice ay lb cb] 24)).alloc (.cells #[.bool false, .slice none 0 0] 24)).alloc (.cells #[.bool false, .slice none 0 0] 24)).alloc (.cells #[.bool false, .slice none 0 0] 24)).alloc (.cells #[.bool n1, .slice ax la ca, .bool n2, .slice ay lb cb] 24)))
  have hbw := hk0.2.2.2.2.2.2.2
  have hg0 := hk0.2.2.2.2.2.1
  clear hk0
  refine (Hall.out _ hg0 (by
    intro d hd
    simp only [List.mem_cons, List.not_mem_nil, or_false] at hd
    rcases hd with rfl | rfl
    · exact hx.below hbw
    · exact hy.below hbw) (by simp)).mono ?_
  rintro e w0 ⟨rfl, hb0⟩
  obtain ⟨hA, hB, hG, hX, hY, _, hsz, hbb⟩ := kept6 w _ _ _ _ _ _ hb0
  obtain ⟨g1, g2, g3, g4, g5⟩ := box2 hG
  obtain ⟨x1, x2, x3, x4, x5⟩ := box2 hX
  obtain ⟨y1, y2, y3, y4, y5⟩ := box2 hY
  clear hb0 hbw hg0
  go_wp2
  refine bodyPost_ret (v := .tuple #[.agg #[.bool false, .slice none 0 0], .agg #[.bool false, .slice none 0 0], .agg #[.bool false, .slice none 0 0], .int .i64 10]) (by simp [results, Tryz.results56, go_sem, g1, g2, x1, x2, y1, y2]) rfl ?_
  have hn : ∀ W : World, Sl W none 0 0 (parts (0 : Int).natAbs) := fun W => by rw [show (0 : Int).natAbs = 0 from rfl, parts_zero]; exact Sl.nil _
  exact ⟨none, 0, 0, none, 0, 0, none, 0, 0, rfl, hn _, hn _, hn _, (((((hbb.setCell (by simp <;> omega) _).setCell (by simp <;> omega) _).setCell (by simp <;> omega) _).setCell (by simp <;> omega) _).setCell (by simp <;> omega) _).setCell (by simp <;> omega) _⟩
end Go.Proofs.YtfjnplhhgdfepaaGreatDoor

/- The check of examples: it answers true. -/
namespace Go.Proofs.YtfjnplhhgdfepaaGreatDoor
open Go.RowKit

theorem eqP {xs : List Int} (ax : Option Addr) (la ca : Nat) (ay : Option Addr) (lb cb : Nat) (w : World) (hx : Sl w ax la ca xs) (hy : Sl w ay lb cb xs) :
    Calls Tryz.prog 74 #[.slice ax la ca, .slice ay lb cb] w (RetBool true w) := by
  have := equal_any ax la ca xs ay lb cb xs w hx hy
  rwa [show decide (xs = xs) = true by simp] at this
theorem eqbP {xs : List Int} (ax : Option Addr) (la ca : Nat) (ay : Option Addr) (lb cb : Nat) (w : World) (hx : Sb w ax la ca xs) (hy : Sb w ay lb cb xs) :
    Calls Tryz.prog 33 #[.slice ax la ca, .slice ay lb cb] w (RetBool true w) := by
  have := equalB_any ax la ca xs ay lb cb xs w hx hy
  rwa [show decide (xs = xs) = true by simp] at this
theorem lit2 (w : World) (g : Nat) (a b : Int) (hg : g = w.heap.size) : Sl (w.alloc (.cells #[.int .i64 a, .int .i64 b] 3)) (some ⟨g, 0, none⟩) 2 2 [a, b] := by
  subst hg
  exact RowOf.sl (xs := [a, b]) (heap_new _ _) 2 rfl (by omega)
theorem litB (w : World) (g : Nat) (cs : Array Value) (xs : List Int) (n : Nat) (hg : g = w.heap.size) (hc : cs = (xs.map (Value.int .u8)).toArray) (hn : xs.length = n) (hm : n ≤ 1000) : Sb (w.alloc (.cells cs 5)) (some ⟨g, 0, none⟩) n n xs := by
  subst hg; subst hc
  refine ⟨hn, Nat.le_refl _, by unfold maxLen; omega, .inr ⟨_, 0, rfl, fun j hj => ?_⟩⟩
  have hj' : j < xs.length := by omega
  have hh := heap_new w (.cells (xs.map (Value.int .u8)).toArray 5 (0, 0))
  unfold World.cell?
  rw [hh]
  simp [List.getD, hj']
theorem crossP {z1 z2 z3 z4 : Int} {n1 n2 n3 n4 : Bool} {x1 x2 x3 x4 : List Int} (h1 : Num z1 n1 x1) (h2 : Num z2 n2 x2) (h3 : Num z3 n3 x3) (h4 : Num z4 n4 x4) (p2 : 0 < z2) (p4 : 0 < z4) (he : cmp3 (z1 * z4) (z3 * z2) = 0)
    (a1 : Option Addr) (l1 c1 : Nat) (a2 : Option Addr) (l2 c2 : Nat) (a3 : Option Addr) (l3 c3 : Nat) (a4 : Option Addr) (l4 c4 : Nat) (w : World) (s1 : Sl w a1 l1 c1 x1) (s2 : Sl w a2 l2 c2 x2) (s3 : Sl w a3 l3 c3 x3) (s4 : Sl w a4 l4 c4 x4) :
    Calls Tryz.prog 58 #[.agg #[.bool n1, .slice a1 l1 c1], .agg #[.bool n2, .slice a2 l2 c2], .agg #[.bool n3, .slice a3 l3 c3], .agg #[.bool n4, .slice a4 l4 c4]] w (RetII 0 0 w) := by
  obtain ⟨L1, rfl, rfl⟩ := h1
  obtain ⟨L2, rfl, rfl⟩ := h2
  obtain ⟨L3, rfl, rfl⟩ := h3
  obtain ⟨L4, rfl, rfl⟩ := h4
  have := cross_ok z1 z2 z3 z4 L1 L2 L3 L4 a1 l1 c1 a2 l2 c2 a3 l3 c3 a4 l4 c4 w s1 s2 s3 s4 p2 p4
  rwa [he] at this
theorem crossA {z1 z2 z3 z4 : Int} {n1 n2 n3 n4 : Bool} {x1 x2 x3 x4 : List Int} (h1 : Num z1 n1 x1) (h2 : Num z2 n2 x2) (h3 : Num z3 n3 x3) (h4 : Num z4 n4 x4) (p2 : 0 < z2) (p4 : z4 ≤ 0)
    (a1 : Option Addr) (l1 c1 : Nat) (a2 : Option Addr) (l2 c2 : Nat) (a3 : Option Addr) (l3 c3 : Nat) (a4 : Option Addr) (l4 c4 : Nat) (w : World) (s1 : Sl w a1 l1 c1 x1) (s2 : Sl w a2 l2 c2 x2) (s3 : Sl w a3 l3 c3 x3) (s4 : Sl w a4 l4 c4 x4) :
    Calls Tryz.prog 58 #[.agg #[.bool n1, .slice a1 l1 c1], .agg #[.bool n2, .slice a2 l2 c2], .agg #[.bool n3, .slice a3 l3 c3], .agg #[.bool n4, .slice a4 l4 c4]] w (RetII 0 1 w) := by
  obtain ⟨L1, rfl, rfl⟩ := h1
  obtain ⟨L2, rfl, rfl⟩ := h2
  obtain ⟨L3, rfl, rfl⟩ := h3
  obtain ⟨L4, rfl, rfl⟩ := h4
  exact cross_arg4 z1 z2 z3 z4 L1 L2 L3 L4 a1 l1 c1 a2 l2 c2 a3 l3 c3 a4 l4 c4 w s1 s2 s3 s4 p2 p4
/-- The law's same at a number and itself. -/
theorem lawSameP {z : Int} {n : Bool} {xs : List Int} (hz : Num z n xs) (ax : Option Addr) (la ca : Nat) (ay : Option Addr) (lb cb : Nat) (w : World) (hx : Sl w ax la ca xs) (hy : Sl w ay lb cb xs) :
    Calls Tryz.prog 27 #[.agg #[.bool n, .slice ax la ca, .int .i64 0], .agg #[.bool n, .slice ay lb cb, .int .i64 0]] w (RetBool true w) := by
  obtain ⟨_, rfl, rfl⟩ := hz
  have h := lawSame_any (decide (z < 0)) ax la ca (parts z.natAbs) 0 (decide (z < 0)) ay lb cb (parts z.natAbs) 0 w hx hy
  rwa [show sameI (decide (z < 0)) (parts z.natAbs) (decide (z < 0)) (parts z.natAbs) = true by unfold sameI; rw [cmpI_num, cmp3_self]; rfl, show (decide ((0 : Int) = 0) && true) = true from rfl] at h
/-- The three boxes of what Bezout answers. -/
def Three (w : World) (g : Nat) (n1 : Bool) (a1 : Option Addr) (l1 c1 : Nat) (n2 : Bool) (a2 : Option Addr) (l2 c2 : Nat) (n3 : Bool) (a3 : Option Addr) (l3 c3 : Nat) : Prop :=
  w.heap[g]? = some (.cells #[.bool n1, .slice a1 l1 c1] 24 (0, 0)) ∧ w.heap[g + 1]? = some (.cells #[.bool n2, .slice a2 l2 c2] 24 (0, 0)) ∧ w.heap[g + 1 + 1]? = some (.cells #[.bool n3, .slice a3 l3 c3] 24 (0, 0))
theorem Three.cells {w : World} {g : Nat} {n1 : Bool} {a1 : Option Addr} {l1 c1 : Nat} {n2 : Bool} {a2 : Option Addr} {l2 c2 : Nat} {n3 : Bool} {a3 : Option Addr} {l3 c3 : Nat} (h : Three w g n1 a1 l1 c1 n2 a2 l2 c2 n3 a3 l3 c3) :
    w.cell? ⟨g, 0, none⟩ = some (.bool n1) ∧ w.cell? ⟨g, 1, none⟩ = some (.slice a1 l1 c1) ∧ w.cell? ⟨g + 1, 0, none⟩ = some (.bool n2) ∧ w.cell? ⟨g + 1, 1, none⟩ = some (.slice a2 l2 c2) ∧ w.cell? ⟨g + 1 + 1, 0, none⟩ = some (.bool n3) ∧ w.cell? ⟨g + 1 + 1, 1, none⟩ = some (.slice a3 l3 c3) := by
  obtain ⟨h1, h2, h3⟩ := h
  exact ⟨(box2 h1).1, (box2 h1).2.1, (box2 h2).1, (box2 h2).2.1, (box2 h3).1, (box2 h3).2.1⟩
theorem Three.below {w w' : World} {g : Nat} {n1 : Bool} {a1 : Option Addr} {l1 c1 : Nat} {n2 : Bool} {a2 : Option Addr} {l2 c2 : Nat} {n3 : Bool} {a3 : Option Addr} {l3 c3 : Nat} (h : Three w g n1 a1 l1 c1 n2 a2 l2 c2 n3 a3 l3 c3) (hb : Below w.heap.size w w') : Three w' g n1 a1 l1 c1 n2 a2 l2 c2 n3 a3 l3 c3 := by
  obtain ⟨h1, h2, h3⟩ := h
  have k := fun (i : Nat) {o : Obj} (h : w.heap[i]? = some o) => (hb.block i (Array.getElem?_eq_some_iff.1 h).1).trans h
  exact ⟨k _ h1, k _ h2, k _ h3⟩
theorem Three.drew {w : World} {g : Nat} {n1 : Bool} {a1 : Option Addr} {l1 c1 : Nat} {n2 : Bool} {a2 : Option Addr} {l2 c2 : Nat} {n3 : Bool} {a3 : Option Addr} {l3 c3 : Nat} (h : Three w g n1 a1 l1 c1 n2 a2 l2 c2 n3 a3 l3 c3) : Three w.drew g n1 a1 l1 c1 n2 a2 l2 c2 n3 a3 l3 c3 := h
theorem Three.new (w : World) (n1 : Bool) (a1 : Option Addr) (l1 c1 : Nat) (n2 : Bool) (a2 : Option Addr) (l2 c2 : Nat) (n3 : Bool) (a3 : Option Addr) (l3 c3 : Nat) :
    Three (((w.alloc (.cells #[.bool n1, .slice a1 l1 c1] 24)).alloc (.cells #[.bool n2, .slice a2 l2 c2] 24)).alloc (.cells #[.bool n3, .slice a3 l3 c3] 24)) w.heap.size n1 a1 l1 c1 n2 a2 l2 c2 n3 a3 l3 c3 :=
  ⟨heap3_0 w _ _ _, heap3_1 w _ _ _, heap3_2 w _ _ _⟩

set_option maxRecDepth 100000 in
set_option maxHeartbeats 1000000 in
theorem sane_any (w : World) (ht : Tab w) : Calls Tryz.prog 16 #[] w (RetBool true w) := by
  have Na : Num (-1000000000) true [0, 1] := ⟨(lim_iff _).2 (by decide +kernel), rfl, sane_parts1.symm⟩
  have Nb : Num (-12345678901) true [345678901, 12] := ⟨(lim_iff _).2 (by decide +kernel), rfl, sane_parts2.symm⟩
  have Z0 : Num 0 false [] := ⟨(lim_iff _).2 (by decide +kernel), rfl, by rw [show (0 : Int).natAbs = 0 from rfl, parts_zero]⟩
  obtain ⟨nm7, xm7, Nm7⟩ := num_ex (-7) (by decide +kernel)
  obtain ⟨np7, xp7, Np7⟩ := num_ex (7) (by decide +kernel)
  obtain ⟨nm4, xm4, Nm4⟩ := num_ex (-4) (by decide +kernel)
  obtain ⟨np1, xp1, Np1⟩ := num_ex (1) (by decide +kernel)
  obtain ⟨nm2, xm2, Nm2⟩ := num_ex (-2) (by decide +kernel)
  obtain ⟨np2, xp2, Np2⟩ := num_ex (2) (by decide +kernel)
  obtain ⟨nm1, xm1, Nm1⟩ := num_ex (-1) (by decide +kernel)
  obtain ⟨nh, xh, Nh⟩ := num_ex (100) (by decide +kernel)
  obtain ⟨nbig, xbig, Nbig⟩ := num_ex (1267650600228229401496703205376) (by decide +kernel)
  obtain ⟨nd, xd, Nd⟩ := num_ex (240) (by decide +kernel)
  obtain ⟨ne, xe, Ne⟩ := num_ex (46) (by decide +kernel)
  obtain ⟨nm9, xm9, Nm9⟩ := num_ex (-9) (by decide +kernel)
  obtain ⟨nq, xq, Nq⟩ := num_ex (47) (by decide +kernel)
  obtain ⟨np3, xp3, Np3⟩ := num_ex (3) (by decide +kernel)
  obtain ⟨np6, xp6, Np6⟩ := num_ex (6) (by decide +kernel)
  obtain ⟨nch, xch, Nch⟩ := num_ex (137846528820) (by decide +kernel)
  obtain ⟨nbb, xbb, Nbb⟩ := num_ex (1000000001) (by decide +kernel)
  have Of_a := Lib.hid (fun w => ofP Na (by omega) (by omega) w)
  have Of_bb := Lib.hid (fun w => ofP Nbb (by omega) (by omega) w)
  have Of_m7 := Lib.hid (fun w => ofP Nm7 (by omega) (by omega) w)
  have Of_p2 := Lib.hid (fun w => ofP Np2 (by omega) (by omega) w)
  have Of_m4 := Lib.hid (fun w => ofP Nm4 (by omega) (by omega) w)
  have Of_p1 := Lib.hid (fun w => ofP Np1 (by omega) (by omega) w)
  have Of_p7 := Lib.hid (fun w => ofP Np7 (by omega) (by omega) w)
  have Of_m2 := Lib.hid (fun w => ofP Nm2 (by omega) (by omega) w)
  have Of_m1 := Lib.hid (fun w => ofP Nm1 (by omega) (by omega) w)
  have Of_0 := Lib.hid (fun w => ofP Z0 (by omega) (by omega) w)
  have Of_h := Lib.hid (fun w => ofP Nh (by omega) (by omega) w)
  have Of_d := Lib.hid (fun w => ofP Nd (by omega) (by omega) w)
  have Of_e := Lib.hid (fun w => ofP Ne (by omega) (by omega) w)
  have Of_m9 := Lib.hid (fun w => ofP Nm9 (by omega) (by omega) w)
  have Of_q := Lib.hid (fun w => ofP Nq (by omega) (by omega) w)
  have Of_p3 := Lib.hid (fun w => ofP Np3 (by omega) (by omega) w)
  have Of_p6 := Lib.hid (fun w => ofP Np6 (by omega) (by omega) w)
  have Of_ch := Lib.hid (fun w => ofP Nch (by omega) (by omega) w)
  have Rd1 := Lib.hid (fun w => readP Nb sane_read1 sane_read1v (by decide) w)
  have Rd2 := Lib.hid (fun w => readP Z0 sane_read2 sane_read2v (by decide) w)
  have Rd3 := Lib.hid (fun w => readP Z0 sane_read3 sane_read3v (by decide) w)
  have By := Lib.hid (fun ao len cap w hs => bytesP Nbb sane_bytes ao len cap w hs)
  have Dv1 := Lib.hid (fun ax la ca ay lb cb w hx hy => divP Nm7 Np2 Nm4 (by decide) sane_div1 ax la ca ay lb cb w hx hy)
  have Dv2 := Lib.hid (fun ax la ca ay lb cb w hx hy => divP Np7 Nm2 Nm4 (by decide) sane_div2 ax la ca ay lb cb w hx hy)
  have Md1 := Lib.hid (fun ax la ca ay lb cb w hx hy => modP Nm7 Np2 Np1 (by decide) sane_mod1 ax la ca ay lb cb w hx hy)
  have Md2 := Lib.hid (fun ax la ca ay lb cb w hx hy => modP Np7 Nm2 Nm1 (by decide) sane_mod2 ax la ca ay lb cb w hx hy)
  have Dv0 := Lib.hid (fun ax la ca ay lb cb w hx hy => div0P Np7 Z0 rfl ax la ca ay lb cb w hx hy)
  have Pw := Lib.hid (fun ax la ca ay lb cb w hx hy => powP Np2 Nh Nbig (by decide) sane_pow ax la ca ay lb cb w hx hy)
  have Tx := Lib.hid (fun ao len cap w hs ht => textP Nbig (by decide) sane_txt ao len cap w hs ht)
  have Bz := Lib.hid (fun ax la ca ay lb cb w hx hy => bezP Nd Ne Np2 Nm9 Nq sane_bez ax la ca ay lb cb w hx hy)
  have Cr1 := Lib.hid (fun a1 l1 c1 a2 l2 c2 a3 l3 c3 a4 l4 c4 w h1 h2 h3 h4 => crossP Np1 Np3 Np2 Np6 (by decide) (by decide) (by decide) a1 l1 c1 a2 l2 c2 a3 l3 c3 a4 l4 c4 w h1 h2 h3 h4)
  have Cr2 := Lib.hid (fun a1 l1 c1 a2 l2 c2 a3 l3 c3 a4 l4 c4 w h1 h2 h3 h4 => crossA Nm1 Np2 Np1 Z0 (by decide) (by decide) a1 l1 c1 a2 l2 c2 a3 l3 c3 a4 l4 c4 w h1 h2 h3 h4)
  have Co := Lib.hid (fun w => chooseP (n := 40) (k := 20) Nch (by decide) (by decide) (by decide) (by decide) (by rw [show (40 : Int).toNat = 40 from rfl, show (20 : Int).toNat = 20 from rfl, sane_ch]; rfl) w)
  have Ls_m4 := Lib.hid (fun ax la ca ay lb cb w hx hy => lawSameP Nm4 ax la ca ay lb cb w hx hy)
  have Ls_p1 := Lib.hid (fun ax la ca ay lb cb w hx hy => lawSameP Np1 ax la ca ay lb cb w hx hy)
  have Ls_m1 := Lib.hid (fun ax la ca ay lb cb w hx hy => lawSameP Nm1 ax la ca ay lb cb w hx hy)
  have Sm_p2 := Lib.hid (fun ax la ca ay lb cb w hx hy => sameP Np2 ax la ca ay lb cb w hx hy)
  have Sm_m9 := Lib.hid (fun ax la ca ay lb cb w hx hy => sameP Nm9 ax la ca ay lb cb w hx hy)
  have Sm_q := Lib.hid (fun ax la ca ay lb cb w hx hy => sameP Nq ax la ca ay lb cb w hx hy)
  have Sm_ch := Lib.hid (fun ax la ca ay lb cb w hx hy => sameP Nch ax la ca ay lb cb w hx hy)
  have Go := Lib.hid (fun n ao len cap er w => got_any n ao len cap er w)
  clear Na Nb Z0 Nm7 Np7 Nm4 Np1 Nm2 Np2 Nm1 Nh Nbig Nd Ne Nm9 Nq Np3 Np6 Nch Nbb
  go_enter Tryz.func16, Tryz.ntmps16
  go_wp2_with fail
  (with_reducible refine (Of_a.out _).mono ?_)
  rintro e w1 ⟨a1, l1, c1, rfl, s1, b1⟩
  have hbb := b1
  have B1 := hbb
  replace ht := ht.below hbb
  clear b1 hbb
  go_wp2_with fail
  (with_reducible refine (Rd1.out _).mono ?_)
  rintro e w2 ⟨a2, l2, c2, rfl, s2, b2⟩
  obtain ⟨hA, hz, hbb⟩ := kept1 _ _ b2
  have B2 := B1.trans (hbb.mono B1.size)
  replace s1 := s1.below hbb
  replace ht := ht.below hbb
  clear b2 hbb B1
  obtain ⟨f1, f2, f3, f4, f5⟩ := box2 hA
  go_wp2_with fail
  (with_reducible refine (eqP (xs := [0, 1]) _ _ _ _ _ _ _ (by exact ((s1.alloc _).alloc _)) (by exact lit2 _ _ _ _ (by first | rfl | simp))).mono ?_)
  rintro e w3 ⟨rfl, b3⟩
  clear s1
  obtain ⟨hB, _, hz, hbb⟩ := kept2 _ _ _ b3
  have B3 := B2.trans (hbb.mono B2.size)
  replace s2 := s2.below hbb
  replace ht := ht.below hbb
  clear b3 hbb B2
  clear f1 f2 f3 f4 f5 hA
  obtain ⟨f1, f2, f3, f4, f5⟩ := box2 hB
  go_wp2_with fail
  (with_reducible refine (eqP (xs := [345678901, 12]) _ _ _ _ _ _ _ (by exact (s2.alloc _)) (by exact lit2 _ _ _ _ (by first | rfl | simp))).mono ?_)
  rintro e w4 ⟨rfl, b4⟩
  clear s2
  obtain ⟨_, hz, hbb⟩ := kept1 _ _ b4
  have B4 := B3.trans (hbb.mono B3.size)
  replace ht := ht.below hbb
  clear b4 hbb B3
  clear f1 f2 f3 f4 f5 hB
  go_wp2_with fail
  (with_reducible refine (Rd2.out _).mono ?_)
  rintro e w5 ⟨a5, l5, c5, rfl, s5, b5⟩
  have hbb := b5
  have B5 := B4.trans (hbb.mono B4.size)
  replace ht := ht.below hbb
  clear b5 hbb B4
  clear s5
  go_wp2_with fail
  (with_reducible refine (Rd3.out _).mono ?_)
  rintro e w6 ⟨a6, l6, c6, rfl, s6, b6⟩
  have hbb := b6
  have B6 := B5.trans (hbb.mono B5.size)
  replace ht := ht.below hbb
  clear b6 hbb B5
  clear s6
  go_wp2_with fail
  (with_reducible refine (Of_bb.out _).mono ?_)
  rintro e w7 ⟨a7, l7, c7, rfl, s7, b7⟩
  obtain ⟨_, hz, hbb⟩ := kept1 _ _ b7
  have B7 := B6.trans (hbb.mono B6.size)
  replace ht := ht.below hbb
  clear b7 hbb B6
  go_wp2_with fail
  (with_reducible refine (By.out _ _ _ _ (by exact s7)).mono ?_)
  rintro e w8 ⟨a8, l8, c8, rfl, s8, b8⟩
  clear s7
  have hbb := b8
  have B8 := B7.trans (hbb.mono B7.size)
  replace ht := ht.below hbb
  clear b8 hbb B7
  go_wp2_with fail
  (with_reducible refine (eqbP (xs := [2, 0, 0, 0, 1, 0, 0, 0, 1]) _ _ _ _ _ _ _ (by exact (s8.alloc _)) (by exact litB _ _ _ [2, 0, 0, 0, 1, 0, 0, 0, 1] 9 (by first | rfl | simp) (by simp) rfl (by omega))).mono ?_)
  rintro e w9 ⟨rfl, b9⟩
  clear s8
  obtain ⟨_, hz, hbb⟩ := kept1 _ _ b9
  have B9 := B8.trans (hbb.mono B8.size)
  replace ht := ht.below hbb
  clear b9 hbb B8
  go_wp2_with fail
  (with_reducible refine (Of_m7.out _).mono ?_)
  rintro e w10 ⟨a10, l10, c10, rfl, s10, b10⟩
  have hbb := b10
  have B10 := B9.trans (hbb.mono B9.size)
  replace ht := ht.below hbb
  clear b10 hbb B9
  go_wp2_with fail
  (with_reducible refine (Of_p2.out _).mono ?_)
  rintro e w11 ⟨a11, l11, c11, rfl, s11, b11⟩
  have hbb := b11
  have B11 := B10.trans (hbb.mono B10.size)
  replace s10 := s10.below hbb
  replace ht := ht.below hbb
  clear b11 hbb B10
  go_wp2_with fail
  (with_reducible refine (Dv1.out _ _ _ _ _ _ _ (by exact s10) (by exact s11)).mono ?_)
  rintro e w12 ⟨a12, l12, c12, rfl, s12, b12⟩
  clear s10 s11
  have hbb := b12
  have B12 := B11.trans (hbb.mono B11.size)
  replace ht := ht.below hbb
  clear b12 hbb B11
  go_wp2_with fail
  (with_reducible refine (Go.out _ _ _ _ _ _).mono ?_)
  rintro e w13 ⟨rfl, b13⟩
  have hbb := b13
  have B13 := B12.trans (hbb.mono B12.size)
  replace s12 := s12.below hbb
  replace ht := ht.below hbb
  clear b13 hbb B12
  go_wp2_with fail
  (with_reducible refine (Of_m4.out _).mono ?_)
  rintro e w14 ⟨a14, l14, c14, rfl, s14, b14⟩
  have hbb := b14
  have B14 := B13.trans (hbb.mono B13.size)
  replace s12 := s12.below hbb
  replace ht := ht.below hbb
  clear b14 hbb B13
  go_wp2_with fail
  (with_reducible refine (Ls_m4.out _ _ _ _ _ _ _ (by exact s12) (by exact s14)).mono ?_)
  rintro e w15 ⟨rfl, b15⟩
  clear s12 s14
  have hbb := b15
  have B15 := B14.trans (hbb.mono B14.size)
  replace ht := ht.below hbb
  clear b15 hbb B14
  go_wp2_with fail
  (with_reducible refine (Of_m7.out _).mono ?_)
  rintro e w16 ⟨a16, l16, c16, rfl, s16, b16⟩
  have hbb := b16
  have B16 := B15.trans (hbb.mono B15.size)
  replace ht := ht.below hbb
  clear b16 hbb B15
  go_wp2_with fail
  (with_reducible refine (Of_p2.out _).mono ?_)
  rintro e w17 ⟨a17, l17, c17, rfl, s17, b17⟩
  have hbb := b17
  have B17 := B16.trans (hbb.mono B16.size)
  replace s16 := s16.below hbb
  replace ht := ht.below hbb
  clear b17 hbb B16
  go_wp2_with fail
  (with_reducible refine (Md1.out _ _ _ _ _ _ _ (by exact s16) (by exact s17)).mono ?_)
  rintro e w18 ⟨a18, l18, c18, rfl, s18, b18⟩
  clear s16 s17
  have hbb := b18
  have B18 := B17.trans (hbb.mono B17.size)
  replace ht := ht.below hbb
  clear b18 hbb B17
  go_wp2_with fail
  (with_reducible refine (Go.out _ _ _ _ _ _).mono ?_)
  rintro e w19 ⟨rfl, b19⟩
  have hbb := b19
  have B19 := B18.trans (hbb.mono B18.size)
  replace s18 := s18.below hbb
  replace ht := ht.below hbb
  clear b19 hbb B18
  go_wp2_with fail
  (with_reducible refine (Of_p1.out _).mono ?_)
  rintro e w20 ⟨a20, l20, c20, rfl, s20, b20⟩
  have hbb := b20
  have B20 := B19.trans (hbb.mono B19.size)
  replace s18 := s18.below hbb
  replace ht := ht.below hbb
  clear b20 hbb B19
  go_wp2_with fail
  (with_reducible refine (Ls_p1.out _ _ _ _ _ _ _ (by exact s18) (by exact s20)).mono ?_)
  rintro e w21 ⟨rfl, b21⟩
  clear s18 s20
  have hbb := b21
  have B21 := B20.trans (hbb.mono B20.size)
  replace ht := ht.below hbb
  clear b21 hbb B20
  go_wp2_with fail
  (with_reducible refine (Of_p7.out _).mono ?_)
  rintro e w22 ⟨a22, l22, c22, rfl, s22, b22⟩
  have hbb := b22
  have B22 := B21.trans (hbb.mono B21.size)
  replace ht := ht.below hbb
  clear b22 hbb B21
  go_wp2_with fail
  (with_reducible refine (Of_m2.out _).mono ?_)
  rintro e w23 ⟨a23, l23, c23, rfl, s23, b23⟩
  have hbb := b23
  have B23 := B22.trans (hbb.mono B22.size)
  replace s22 := s22.below hbb
  replace ht := ht.below hbb
  clear b23 hbb B22
  go_wp2_with fail
  (with_reducible refine (Dv2.out _ _ _ _ _ _ _ (by exact s22) (by exact s23)).mono ?_)
  rintro e w24 ⟨a24, l24, c24, rfl, s24, b24⟩
  clear s22 s23
  have hbb := b24
  have B24 := B23.trans (hbb.mono B23.size)
  replace ht := ht.below hbb
  clear b24 hbb B23
  go_wp2_with fail
  (with_reducible refine (Go.out _ _ _ _ _ _).mono ?_)
  rintro e w25 ⟨rfl, b25⟩
  have hbb := b25
  have B25 := B24.trans (hbb.mono B24.size)
  replace s24 := s24.below hbb
  replace ht := ht.below hbb
  clear b25 hbb B24
  go_wp2_with fail
  (with_reducible refine (Of_m4.out _).mono ?_)
  rintro e w26 ⟨a26, l26, c26, rfl, s26, b26⟩
  have hbb := b26
  have B26 := B25.trans (hbb.mono B25.size)
  replace s24 := s24.below hbb
  replace ht := ht.below hbb
  clear b26 hbb B25
  go_wp2_with fail
  (with_reducible refine (Ls_m4.out _ _ _ _ _ _ _ (by exact s24) (by exact s26)).mono ?_)
  rintro e w27 ⟨rfl, b27⟩
  clear s24 s26
  have hbb := b27
  have B27 := B26.trans (hbb.mono B26.size)
  replace ht := ht.below hbb
  clear b27 hbb B26
  go_wp2_with fail
  (with_reducible refine (Of_p7.out _).mono ?_)
  rintro e w28 ⟨a28, l28, c28, rfl, s28, b28⟩
  have hbb := b28
  have B28 := B27.trans (hbb.mono B27.size)
  replace ht := ht.below hbb
  clear b28 hbb B27
  go_wp2_with fail
  (with_reducible refine (Of_m2.out _).mono ?_)
  rintro e w29 ⟨a29, l29, c29, rfl, s29, b29⟩
  have hbb := b29
  have B29 := B28.trans (hbb.mono B28.size)
  replace s28 := s28.below hbb
  replace ht := ht.below hbb
  clear b29 hbb B28
  go_wp2_with fail
  (with_reducible refine (Md2.out _ _ _ _ _ _ _ (by exact s28) (by exact s29)).mono ?_)
  rintro e w30 ⟨a30, l30, c30, rfl, s30, b30⟩
  clear s28 s29
  have hbb := b30
  have B30 := B29.trans (hbb.mono B29.size)
  replace ht := ht.below hbb
  clear b30 hbb B29
  go_wp2_with fail
  (with_reducible refine (Go.out _ _ _ _ _ _).mono ?_)
  rintro e w31 ⟨rfl, b31⟩
  have hbb := b31
  have B31 := B30.trans (hbb.mono B30.size)
  replace s30 := s30.below hbb
  replace ht := ht.below hbb
  clear b31 hbb B30
  go_wp2_with fail
  (with_reducible refine (Of_m1.out _).mono ?_)
  rintro e w32 ⟨a32, l32, c32, rfl, s32, b32⟩
  have hbb := b32
  have B32 := B31.trans (hbb.mono B31.size)
  replace s30 := s30.below hbb
  replace ht := ht.below hbb
  clear b32 hbb B31
  go_wp2_with fail
  (with_reducible refine (Ls_m1.out _ _ _ _ _ _ _ (by exact s30) (by exact s32)).mono ?_)
  rintro e w33 ⟨rfl, b33⟩
  clear s30 s32
  have hbb := b33
  have B33 := B32.trans (hbb.mono B32.size)
  replace ht := ht.below hbb
  clear b33 hbb B32
  go_wp2_with fail
  (with_reducible refine (Of_p7.out _).mono ?_)
  rintro e w34 ⟨a34, l34, c34, rfl, s34, b34⟩
  have hbb := b34
  have B34 := B33.trans (hbb.mono B33.size)
  replace ht := ht.below hbb
  clear b34 hbb B33
  go_wp2_with fail
  (with_reducible refine (Of_0.out _).mono ?_)
  rintro e w35 ⟨a35, l35, c35, rfl, s35, b35⟩
  have hbb := b35
  have B35 := B34.trans (hbb.mono B34.size)
  replace s34 := s34.below hbb
  replace ht := ht.below hbb
  clear b35 hbb B34
  go_wp2_with fail
  (with_reducible refine (Dv0.out _ _ _ _ _ _ _ (by exact s34) (by exact s35)).mono ?_)
  rintro e w36 ⟨a36, l36, c36, rfl, s36, b36⟩
  clear s34 s35
  have hbb := b36
  have B36 := B35.trans (hbb.mono B35.size)
  replace ht := ht.below hbb
  clear b36 hbb B35
  clear s36
  go_wp2_with fail
  (with_reducible refine (Of_p2.out _).mono ?_)
  rintro e w37 ⟨a37, l37, c37, rfl, s37, b37⟩
  have hbb := b37
  have B37 := B36.trans (hbb.mono B36.size)
  replace ht := ht.below hbb
  clear b37 hbb B36
  go_wp2_with fail
  (with_reducible refine (Of_h.out _).mono ?_)
  rintro e w38 ⟨a38, l38, c38, rfl, s38, b38⟩
  have hbb := b38
  have B38 := B37.trans (hbb.mono B37.size)
  replace s37 := s37.below hbb
  replace ht := ht.below hbb
  clear b38 hbb B37
  go_wp2_with fail
  (with_reducible refine (Pw.out _ _ _ _ _ _ _ (by exact s37) (by exact s38)).mono ?_)
  rintro e w39 ⟨a39, l39, c39, rfl, s39, b39⟩
  clear s37 s38
  have hbb := b39
  have B39 := B38.trans (hbb.mono B38.size)
  replace ht := ht.below hbb
  clear b39 hbb B38
  go_wp2_with fail
  (with_reducible refine (Tx.out _ _ _ _ (by exact (s39.alloc _)) (by exact ht.alloc _)).mono ?_)
  rintro e w40 ⟨rfl, b40⟩
  clear s39
  obtain ⟨_, hz, hbb⟩ := kept1 _ _ b40
  have B40 := B39.trans (hbb.mono B39.size)
  replace ht := ht.below hbb
  clear b40 hbb B39
  go_wp2_with fail
  (with_reducible refine (Of_d.out _).mono ?_)
  rintro e w41 ⟨a41, l41, c41, rfl, s41, b41⟩
  have hbb := b41
  have B41 := B40.trans (hbb.mono B40.size)
  replace ht := ht.below hbb
  clear b41 hbb B40
  go_wp2_with fail
  (with_reducible refine (Of_e.out _).mono ?_)
  rintro e w42 ⟨a42, l42, c42, rfl, s42, b42⟩
  have hbb := b42
  have B42 := B41.trans (hbb.mono B41.size)
  replace s41 := s41.below hbb
  replace ht := ht.below hbb
  clear b42 hbb B41
  go_wp2_with fail
  refine (Bz.out _ _ _ _ _ _ _ (by exact s41) (by exact s42)).mono ?_
  rintro e w43 ⟨ga, gl, gc, xa, xl, xc, ya, yl, yc, rfl, sg, sx, sy, b43⟩
  clear s41 s42
  have hbb := b43
  have B43 := B42.trans (hbb.mono B42.size)
  replace ht := ht.below hbb
  clear b43 hbb B42
  have T0 := (Three.new w43 np2 ga gl gc nm9 xa xl xc nq ya yl yc).drew
  have c0 := T0.cells
  have U0 := (below3 w43 (.cells #[.bool np2, .slice ga gl gc] 24) (.cells #[.bool nm9, .slice xa xl xc] 24) (.cells #[.bool nq, .slice ya yl yc] 24)).drew
  replace U0 := B43.trans (U0.mono B43.size)
  replace sg := (((sg.alloc (.cells #[.bool np2, .slice ga gl gc] 24)).alloc (.cells #[.bool nm9, .slice xa xl xc] 24)).alloc (.cells #[.bool nq, .slice ya yl yc] 24)).drew
  replace sx := (((sx.alloc (.cells #[.bool np2, .slice ga gl gc] 24)).alloc (.cells #[.bool nm9, .slice xa xl xc] 24)).alloc (.cells #[.bool nq, .slice ya yl yc] 24)).drew
  replace sy := (((sy.alloc (.cells #[.bool np2, .slice ga gl gc] 24)).alloc (.cells #[.bool nm9, .slice xa xl xc] 24)).alloc (.cells #[.bool nq, .slice ya yl yc] 24)).drew
  replace ht := ((ht.alloc (.cells #[.bool np2, .slice ga gl gc] 24)).alloc (.cells #[.bool nm9, .slice xa xl xc] 24)).alloc (.cells #[.bool nq, .slice ya yl yc] 24)
  replace ht := ht.below (Below.refl _ _).drew
  clear B43
  go_wp2
  go_region_held3 (fun w' => w'.cell? ⟨w43.heap.size, 0, none⟩ = some (.bool np2) ∧ w'.cell? ⟨w43.heap.size, 1, none⟩ = some (.slice ga gl gc) ∧ w'.cell? ⟨w43.heap.size + 1, 0, none⟩ = some (.bool nm9) ∧ w'.cell? ⟨w43.heap.size + 1, 1, none⟩ = some (.slice xa xl xc) ∧ w'.cell? ⟨w43.heap.size + 1 + 1, 0, none⟩ = some (.bool nq) ∧ w'.cell? ⟨w43.heap.size + 1 + 1, 1, none⟩ = some (.slice ya yl yc)) (first | with_reducible exact c0 | exact c0) (first | (go_at_call 69; (first | (with_reducible refine (Of_p2.out _).mono ?_) | (with_reducible refine (Of_m9.out _).mono ?_) | (with_reducible refine (Of_q.out _).mono ?_)); rintro e wq ⟨qa, ql, qc, rfl, sq, bq⟩; replace sg := sg.below bq; replace sx := sx.below bq; replace sy := sy.below bq; replace U0 := U0.trans (bq.mono U0.size); replace ht := ht.below bq; replace T0 := T0.below bq; replace c0 := T0.cells; clear bq) | (go_at_call_of 22 (Value.agg #[Value.bool np2, Value.slice ga gl gc]); (with_reducible refine (Sm_p2.out _ _ _ _ _ _ _ sg sq).mono ?_); rintro e wq ⟨rfl, bq⟩; clear sq; replace sg := sg.below bq; replace sx := sx.below bq; replace sy := sy.below bq; replace U0 := U0.trans (bq.mono U0.size); replace ht := ht.below bq; replace T0 := T0.below bq; replace c0 := T0.cells; clear bq) | (go_at_call_of 22 (Value.agg #[Value.bool nm9, Value.slice xa xl xc]); (with_reducible refine (Sm_m9.out _ _ _ _ _ _ _ sx sq).mono ?_); rintro e wq ⟨rfl, bq⟩; clear sq; replace sg := sg.below bq; replace sx := sx.below bq; replace sy := sy.below bq; replace U0 := U0.trans (bq.mono U0.size); replace ht := ht.below bq; replace T0 := T0.below bq; replace c0 := T0.cells; clear bq) | (go_at_call_of 22 (Value.agg #[Value.bool nq, Value.slice ya yl yc]); (with_reducible refine (Sm_q.out _ _ _ _ _ _ _ sy sq).mono ?_); rintro e wq ⟨rfl, bq⟩; clear sq; replace sg := sg.below bq; replace sx := sx.below bq; replace sy := sy.below bq; replace U0 := U0.trans (bq.mono U0.size); replace ht := ht.below bq; replace T0 := T0.below bq; replace c0 := T0.cells; clear bq))
  clear T0 c0 sg sx sy
  go_wp2_with fail
  (with_reducible refine (Of_p1.out _).mono ?_)
  rintro e w44 ⟨a44, l44, c44, rfl, s44, b44⟩
  have hbb := b44
  have B44 := U0.trans (hbb.mono U0.size)
  replace ht := ht.below hbb
  clear b44 hbb U0
  go_wp2_with fail
  (with_reducible refine (Of_p3.out _).mono ?_)
  rintro e w45 ⟨a45, l45, c45, rfl, s45, b45⟩
  have hbb := b45
  have B45 := B44.trans (hbb.mono B44.size)
  replace s44 := s44.below hbb
  replace ht := ht.below hbb
  clear b45 hbb B44
  go_wp2_with fail
  (with_reducible refine (Of_p2.out _).mono ?_)
  rintro e w46 ⟨a46, l46, c46, rfl, s46, b46⟩
  have hbb := b46
  have B46 := B45.trans (hbb.mono B45.size)
  replace s44 := s44.below hbb
  replace s45 := s45.below hbb
  replace ht := ht.below hbb
  clear b46 hbb B45
  go_wp2_with fail
  (with_reducible refine (Of_p6.out _).mono ?_)
  rintro e w47 ⟨a47, l47, c47, rfl, s47, b47⟩
  have hbb := b47
  have B47 := B46.trans (hbb.mono B46.size)
  replace s44 := s44.below hbb
  replace s45 := s45.below hbb
  replace s46 := s46.below hbb
  replace ht := ht.below hbb
  clear b47 hbb B46
  go_wp2_with fail
  (with_reducible refine (Cr1.out _ _ _ _ _ _ _ _ _ _ _ _ _ (by exact s44) (by exact s45) (by exact s46) (by exact s47)).mono ?_)
  rintro e w48 ⟨rfl, b48⟩
  clear s44 s45 s46 s47
  have hbb := b48
  have B48 := B47.trans (hbb.mono B47.size)
  replace ht := ht.below hbb
  clear b48 hbb B47
  go_wp2_with fail
  (with_reducible refine (Of_m1.out _).mono ?_)
  rintro e w49 ⟨a49, l49, c49, rfl, s49, b49⟩
  have hbb := b49
  have B49 := B48.trans (hbb.mono B48.size)
  replace ht := ht.below hbb
  clear b49 hbb B48
  go_wp2_with fail
  (with_reducible refine (Of_p2.out _).mono ?_)
  rintro e w50 ⟨a50, l50, c50, rfl, s50, b50⟩
  have hbb := b50
  have B50 := B49.trans (hbb.mono B49.size)
  replace s49 := s49.below hbb
  replace ht := ht.below hbb
  clear b50 hbb B49
  go_wp2_with fail
  (with_reducible refine (Of_p1.out _).mono ?_)
  rintro e w51 ⟨a51, l51, c51, rfl, s51, b51⟩
  have hbb := b51
  have B51 := B50.trans (hbb.mono B50.size)
  replace s49 := s49.below hbb
  replace s50 := s50.below hbb
  replace ht := ht.below hbb
  clear b51 hbb B50
  go_wp2_with fail
  (with_reducible refine (Of_0.out _).mono ?_)
  rintro e w52 ⟨a52, l52, c52, rfl, s52, b52⟩
  have hbb := b52
  have B52 := B51.trans (hbb.mono B51.size)
  replace s49 := s49.below hbb
  replace s50 := s50.below hbb
  replace s51 := s51.below hbb
  replace ht := ht.below hbb
  clear b52 hbb B51
  go_wp2_with fail
  (with_reducible refine (Cr2.out _ _ _ _ _ _ _ _ _ _ _ _ _ (by exact s49) (by exact s50) (by exact s51) (by exact s52)).mono ?_)
  rintro e w53 ⟨rfl, b53⟩
  clear s49 s50 s51 s52
  have hbb := b53
  have B53 := B52.trans (hbb.mono B52.size)
  replace ht := ht.below hbb
  clear b53 hbb B52
  go_wp2_with fail
  (with_reducible refine (Co.out _).mono ?_)
  rintro e w54 ⟨a54, l54, c54, rfl, s54, b54⟩
  have hbb := b54
  have B54 := B53.trans (hbb.mono B53.size)
  replace ht := ht.below hbb
  clear b54 hbb B53
  have T0 : (w54.alloc (.cells #[.bool nch, .slice a54 l54 c54] 24)).drew.heap[w54.heap.size]? = some (.cells #[.bool nch, .slice a54 l54 c54] 24) := heap_new w54 (.cells #[.bool nch, .slice a54 l54 c54] 24)
  have c0 := (box2 T0).1
  have c1 := (box2 T0).2.1
  replace s54 := (s54.alloc (.cells #[.bool nch, .slice a54 l54 c54] 24)).drew
  have U0 := ((Below.refl _ w54).alloc (Nat.le_refl _) (.cells #[.bool nch, .slice a54 l54 c54] 24)).drew
  replace U0 := B54.trans (U0.mono B54.size)
  clear B54
  go_wp2
  go_region_held3 (fun w' => w'.cell? ⟨w54.heap.size, 0, none⟩ = some (.bool nch) ∧ w'.cell? ⟨w54.heap.size, 1, none⟩ = some (.slice a54 l54 c54)) (first | with_reducible exact ⟨c0, c1⟩ | exact ⟨c0, c1⟩) (first | (go_at_call_of 69 (Value.int IntKind.i64 137846528820); (with_reducible refine (Of_ch.out _).mono ?_); rintro e wq ⟨qa, ql, qc, rfl, sq, bq⟩; replace s54 := s54.below bq; replace U0 := U0.trans (bq.mono U0.size); replace T0 := (bq.block _ (Array.getElem?_eq_some_iff.1 T0).1).trans T0; replace c0 := (box2 T0).1; replace c1 := (box2 T0).2.1; clear bq) | (go_at_call_of 22 (Value.agg #[Value.bool nch, Value.slice a54 l54 c54]); (with_reducible refine (Sm_ch.out _ _ _ _ _ _ _ s54 sq).mono ?_); rintro e wq ⟨rfl, bq⟩; clear sq; replace s54 := s54.below bq; replace U0 := U0.trans (bq.mono U0.size); replace T0 := (bq.block _ (Array.getElem?_eq_some_iff.1 T0).1).trans T0; replace c0 := (box2 T0).1; replace c1 := (box2 T0).2.1; clear bq))
  all_goals go_wp2
  all_goals go_ret
  all_goals exact ⟨rfl, U0⟩
end Go.Proofs.YtfjnplhhgdfepaaGreatDoor

/- From what a row assumes to what the walks ask (the table of the powers of ten lies as laid), and back to the row's post. -/
namespace Go.Proofs.YtfjnplhhgdfepaaGreatDoor
open Go.ChangeShapes Go.WideShapes Go.ChangeAt Go.RowKit

theorem lift_own : ownKnob Tryz.prog.godebug = none := by kernel_rfl
theorem lift_type : (Tryz.prog.globals[0]?).map (·.type) = some 147 := by kernel_rfl
theorem lift_cells1 : Tryz.prog.cellsOf 68 = 1 := by kernel_rfl
theorem lift_cells20 : Tryz.prog.cellsOf 147 = 20 := by kernel_rfl
/-- The list of each row of this seat. -/
def laid3 : List (String × DataW Unit) := [("math/bits.deBruijn32tab", Rows.laid_math_bits_deBruijn32tab), ("math/bits.deBruijn64tab", Rows.laid_math_bits_deBruijn64tab), ("internal/strconv.uint64pow10", Rows.laid_internal_strconv_uint64pow10)]
theorem lift_tab {W : World} (h : laidMetH Tryz.prog laid3 W) : Tab W := by
  rw [MakeChecks.laidMetH_plain _ _ _ (by kernel_rfl)] at h
  have h' : laidMet Tryz.prog [("internal/strconv.uint64pow10", Rows.laid_internal_strconv_uint64pow10)] W := laidMet.tail (laidMet.tail h)
  exact Lib.tabIs_of_head (rest := []) tabNamed lift_type Tryz.underlying147 Tryz.underlying68 lift_cells1 lift_cells20 h'

section
variable {H : Type} {enc : TypeId × Value → H} {P : Program}
theorem post_of_below {f : Func} {s : ChangeSpec} {apart fresh handsOn again : Bool} {W W' : World} {args : Array Value} {v : Value} {ds gs : List (DataW H)} {before pa pv : List MemPlace}
    (hW : DataW.Whole enc P f.params.toList s.vars apart W args.toList ds gs before)
    (hres : ∀ (b : Nat) (sp : Nat → Bool) (hd : Bool), DataW.TrodAll enc P W' b sp hd f.resultTypes.toList (v.resultList f.resultTypes.size) (s.fn H (ds ++ gs)).results [])
    (hargs : ∀ sp : Nat → Bool, (∀ p ∈ before, sp p.block = true) → DataW.TrodAll enc P W' 0 sp true f.params.toList args.toList (s.fn H (ds ++ gs)).args pa)
    (hvars : ∀ sp : Nat → Bool, (∀ p ∈ before, sp p.block = true) → DataW.TrodVars enc P W' sp s.vars (s.fn H (ds ++ gs)).vars pv)
    (hps : before = pa ++ pv) (hb : Below W.heap.size W W')
    (hok : ∀ (j : Nat) (t : TypeId) (r : Value), f.resultTypes[j]? = some t → (v.resultList f.resultTypes.size)[j]? = some r → Value.okWide P W' .any 0 t r) :
    s.post enc P f apart fresh handsOn again W args v W' := by
  have hlt : ∀ p ∈ before, p.block < W.heap.size := fun p hp => hW.lt p hp
  have hold : ∀ p ∈ before, (fun b => decide (b < W.heap.size)) p.block = true := fun p hp => by simpa using hlt p hp
  refine ⟨ds, gs, before, [], pa, pv, hW, hres _ _ _, hargs _ hold, hvars _ hold, World.keptBut_mono (fun p hp => ⟨hp, ?_⟩) (hb.frame (· ∈ before)), fun _ => ?_⟩
  · rw [hps, List.mem_append] at hp
    exact Or.inr hp
  · obtain ⟨_, _, _, _, _, hz, hn⟩ := hW
    refine ⟨hok, _, _, ([] ++ pa) ++ pv, ⟨[] ++ pa, pv, trodAll_append (hargs _ (fun _ _ => rfl)) (hres _ _ _), hvars _ (fun _ _ => rfl), rfl, ?_, ?_⟩, ?_⟩
    · intro b off hp
      have hin : MemPlace.cell b off ∈ before := by rw [hps]; simpa using hp
      rw [hb.frozen (hlt _ hin)]
      exact hz b off hin
    · intro ha
      have := hn ha
      rw [hps] at this
      simpa using this
    · intro p hp _
      rw [hps]
      simpa using hp
end
end Go.Proofs.YtfjnplhhgdfepaaGreatDoor

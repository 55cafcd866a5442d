/- NumSmall: for every input the law answers true, and each argument reads afterwards as it read before. Condition: the table of the powers of ten lies as the program's text lays it (tied by the card). -/
import Derived.Outline
import Derived.Deep.DeepCutAuto
import Derived.IntWalk
import Derived.Test.YtcmocjfnmfiieaaGreatDoorK8
set_option linter.all false

/- The number of parts read from the top. -/
namespace Go.Proofs.YtcmocjfnmfiieaaGreatDoor
open Go.RowKit

/-- The number of a list of parts, the most significant one first. -/
def hi (xs : List Int) : Int := xs.foldl (fun s x => s * 1000000000 + x) 0
theorem hi_nil : hi [] = 0 := rfl
theorem hi_snoc (xs : List Int) (x : Int) : hi (xs ++ [x]) = hi xs * 1000000000 + x := by simp [hi]
theorem hi_rev (xs : List Int) : hi xs.reverse = val xs := by
  induction xs with
  | nil => rfl
  | cons x xs ih => rw [List.reverse_cons, hi_snoc, ih]; show _ = x + 1000000000 * val xs; omega
theorem hi_step (ys : List Int) (hy : ∀ y ∈ ys, 0 ≤ y) (s : Int) (hs : 0 ≤ s) : s ≤ ys.foldl (fun s x => s * 1000000000 + x) s := by
  induction ys generalizing s with
  | nil => exact Int.le_refl _
  | cons y ys ih =>
    have h0 := hy y List.mem_cons_self
    have := ih (fun z hz => hy z (List.mem_cons_of_mem _ hz)) (s * 1000000000 + y) (by omega)
    simp only [List.foldl_cons]
    omega
theorem hi_nonneg (xs : List Int) (hx : ∀ x ∈ xs, 0 ≤ x) : 0 ≤ hi xs := hi_step xs hx 0 (Int.le_refl _)
theorem hi_prefix (xs ys : List Int) (hp : xs <+: ys) (hy : ∀ y ∈ ys, 0 ≤ y) : hi xs ≤ hi ys := by
  obtain ⟨zs, rfl⟩ := hp
  have h0 := hi_nonneg xs (fun x hx => hy x (List.mem_append_left _ hx))
  have := hi_step zs (fun z hz => hy z (List.mem_append_right _ hz)) (hi xs) h0
  unfold hi at *
  rw [List.foldl_append]
  exact this
theorem hi_parts (zs : List Part) : hi (zs.reverse.map (·.1)) = val (zs.map (·.1)) := by
  rw [List.map_reverse, hi_rev]
theorem hi_part (zs pre : List Part) (x : Part) (h : pre ++ [x] <+: zs.reverse) : 0 ≤ hi (pre.map (·.1)) ∧ hi (pre.map (·.1)) * 1000000000 + x.1 ≤ val (zs.map (·.1)) := by
  have hp : ∀ ws : List Part, ∀ y ∈ ws.map (·.1), 0 ≤ y := by
    intro ws y hy
    obtain ⟨p, _, rfl⟩ := List.mem_map.1 hy
    exact p.2.1
  refine ⟨hi_nonneg _ (hp _), ?_⟩
  rw [← hi_parts, ← hi_snoc]
  have := hi_prefix ((pre ++ [x]).map (·.1)) (zs.reverse.map (·.1)) (h.map _) (hp _)
  simpa using this
end Go.Proofs.YtcmocjfnmfiieaaGreatDoor

/- ToInt, where the number fits. -/
namespace Go.Proofs.YtcmocjfnmfiieaaGreatDoor
open Go.RowKit Go.Shelf Go.Lib
attribute [local go_sem] Oper.semAt_some

/-- What the loop of ToInt knows of its memory: block b holds the greatest size, block b + 1 the number so far, block b + 2 the iterator's parts. -/
def ToIntInv (b : Nat) (sv : Value) (M : Int) (w1 : World) (pre : List Part) (W : World) : Prop :=
  0 ≤ hi (pre.map (·.1)) ∧ hi (pre.map (·.1)) ≤ M ∧ Boxed W b 68 (.int .u64 M) ∧ Boxed W (b + 1) 68 (.int .u64 (hi (pre.map (·.1)))) ∧ Boxed W (b + 1 + 1) 22 sv ∧ Below w1.heap.size w1 W
theorem ToIntInv.own {b : Nat} {sv : Value} {M : Int} {w1 : World} {B : Nat} (hB : w1.heap.size ≤ B) : OwnFrom B (ToIntInv b sv M w1) := by
  rintro pre X Y row ⟨h1, h2, h3, h4, h5, hb⟩ hg hrow
  have hr := fun r e => (hrow r e).2
  exact ⟨h1, h2, boxed_grown h3 hg hr, boxed_grown h4 hg hr, boxed_grown h5 hg hr, hb.grown hg hb.size (fun k e => Nat.le_trans hB (hrow k e).1)⟩

set_option maxRecDepth 100000 in
set_option maxHeartbeats 4000000 in
theorem ToInt_fits (z : Int) (hl : Lim z) (hz0 : -9223372036854775808 ≤ z) (hz1 : z ≤ 9223372036854775807) (ao : Option Addr) (len cap : Nat) (w : World) (hs : Sl w ao len cap (parts z.natAbs)) :
    Calls Tryz.prog 18 #[.agg #[.bool (decide (z < 0)), .slice ao len cap]] w fun e w' => e = .returned (.tuple #[.int .i64 z, .int .i64 0]) ∧ Below w.heap.size w w' := by
  have hok : okInt (decide (z < 0)) (parts z.natAbs) = true := (okInt_iff _ _).2 ⟨z, hl, rfl, rfl⟩
  have hck := fun w h => check_any (decide (z < 0)) ao len cap (parts z.natAbs) w h
  rw [hok, show errOf true = 0 from rfl] at hck
  have hlen : len ≤ 40 := by have := hs.length; unfold Lim at hl; omega
  have hdig := parts_dig z.natAbs
  have hval : val (parts z.natAbs) = z.natAbs := val_parts _
  have hneg1 : decide (z < 0) = true → z = -(z.natAbs : Int) ∧ 1 ≤ (z.natAbs : Int) ∧ (z.natAbs : Int) ≤ 9223372036854775808 := by simp; omega
  have hneg0 : decide (z < 0) = false → z = (z.natAbs : Int) ∧ (z.natAbs : Int) ≤ 9223372036854775807 := by simp; omega
  generalize hneg : decide (z < 0) = neg at *
  generalize parts z.natAbs = xs at *
  generalize hn : z.natAbs = n at *
  have Hck := Lib.hid hck
  have Hval := Lib.hid hval
  have Hneg1 := Lib.hid hneg1
  have Hneg0 := Lib.hid hneg0
  clear hck hok hneg hval hneg1 hneg0 hn hl hz0 hz1
  refine (callsIn_wide (n := 5)).1 ?_
  refine callsIn_of_wp_marks Tryz.func18 rfl trivial ?_ rfl
  simp only [Tryz.ntmps18, List.size_toArray, List.length_cons, List.length_nil, Nat.reduceAdd, Nat.reduceSub, Array.replicate_succ, Array.replicate_zero, List.push_toArray, List.append_toArray, List.nil_append, List.cons_append]
  gi_wp2_with fail
  refine ⟨trivial, (callsIn_wide.2 (Hck.out _ (((hs.alloc _).alloc _).alloc _))).mono ?_⟩
  rintro e w1 ⟨rfl, hb1⟩
  have hA : w1.heap[w.heap.size]? = some (.cells #[.bool neg, .slice ao len cap] 24 (0, 0)) := (hb1.block _ (by simp; omega)).trans (heap3_0 w _ _ _)
  have hX : Boxed w1 (w.heap.size + 1) 3 (.int .i64 0) := (hb1.block _ (by simp)).trans (heap3_1 w _ _ _)
  have hY : Boxed w1 (w.heap.size + 1 + 1) 28 (.int .i64 0) := (hb1.block _ (by simp)).trans (heap3_2 w _ _ _)
  have hbb : Below w.heap.size w w1 := (below3 w _ _ _).trans (hb1.mono (by simp; omega))
  have hYl := hY.lt
  obtain ⟨k1, k2, k3, k4, k5⟩ := box2 hA
  have x1 := hX.cell; have x2 := hX.frozen; have y1 := hY.cell; have y2 := hY.frozen
  clear hb1
  gi_wp2
  · refine ⟨trivial, (top_in _ _ _ _).mono ?_⟩
    rintro e w' ⟨rfl, rfl⟩
    have hneg : neg = true := by assumption
    subst hneg
    gi_wp2
    have hD : Boxed (((w1.alloc (.cells #[.int .u64 9223372036854775808] 68)).alloc (.cells #[.int .u64 0] 68)).alloc (.cells #[.slice ao len cap] 22)) (w1.heap.size) 68 (.int .u64 9223372036854775808) := heap3_0 w1 _ _ _
    have hE : Boxed (((w1.alloc (.cells #[.int .u64 9223372036854775808] 68)).alloc (.cells #[.int .u64 0] 68)).alloc (.cells #[.slice ao len cap] 22)) (w1.heap.size + 1) 68 (.int .u64 0) := heap3_1 w1 _ _ _
    have hS : Boxed (((w1.alloc (.cells #[.int .u64 9223372036854775808] 68)).alloc (.cells #[.int .u64 0] 68)).alloc (.cells #[.slice ao len cap] 22)) (w1.heap.size + 1 + 1) 22 (.slice ao len cap) := heap3_2 w1 _ _ _
    have hBW : Below w1.heap.size w1 (((w1.alloc (.cells #[.int .u64 9223372036854775808] 68)).alloc (.cells #[.int .u64 0] 68)).alloc (.cells #[.slice ao len cap] 22)) := below3 w1 _ _ _
    have hsW := Sl.below hs (hbb.trans (hBW.mono hbb.size))
    have hlow : 0 < len → ∀ a, ao = some a → a.block < w1.heap.size := by
      intro h0 a ha
      obtain ⟨b, o, hbo, hc⟩ := hs.at h0
      rw [ha] at hbo
      obtain rfl := Option.some.inj hbo
      have := cell_lt (hc 0 h0)
      exact Nat.lt_of_lt_of_le this (by have := hbb.size; omega)
    obtain ⟨zs, rfl⟩ := parts_of hdig
    have hSlt := hS.lt
    generalize hW0 : ((w1.alloc (.cells #[.int .u64 9223372036854775808] 68)).alloc (.cells #[.int .u64 0] 68)).alloc (.cells #[.slice ao len cap] 22) = W0 at *
    refine wpIn_rangeFunc_ownG rfl (by omega) (gf := 116) (lb := #[.pointer (some ⟨w1.heap.size + 1 + 1, 0, none⟩)]) rfl trivial (enters_of Tryz.func116 (by kernel_rfl) rfl)
      (top_stops (w1.heap.size + 1 + 1) (w1.heap.size) ao len cap zs (by omega) W0 hS hsW hlow) KeepT.t (KeepT.b (by omega) (by omega)) (Below.refl _ _) (fun _ => rfl)
      (ToIntInv w1.heap.size (.slice ao len cap) 9223372036854775808 w1) (fun _ pre _ => 9223372036854775808 < hi (pre.map (·.1))) (ToIntInv.own (by omega)) (fun _ _ _ _ _ hs _ _ => hs)
      ⟨Int.le_refl _, (by decide : (0 : Int) ≤ 9223372036854775808), hD, hE, hS, hBW⟩
      (fun x => { tmps := #[.agg #[.bool true, .slice ao len cap], .pointer (some ⟨w.heap.size, 0, none⟩), .pointer (some ⟨w.heap.size + 1, 0, none⟩), .pointer (some ⟨w.heap.size + 1 + 1, 0, none⟩), .int .i64 0, .pointer (some ⟨w1.heap.size, 0, none⟩), .pointer (some ⟨w1.heap.size + 1, 0, none⟩), .int .i64 x.1, .agg #[.bool true, .slice ao len cap], .int .i64 0, .int .i64 0, .bool false, undef, .pointer (some ⟨w.heap.size, 0, none⟩), .bool true, .int .u64 9223372036854775807, .int .u64 9223372036854775808, .pointer (some ⟨w.heap.size, 1, none⟩), .slice ao len cap, .func (.func 116) #[] #[.pointer (some ⟨w1.heap.size + 1 + 1, 0, none⟩)], .int .i64 x.1, undef, undef, undef, undef, undef, undef, undef, undef, undef, undef, undef, undef, undef, undef, undef, undef, undef, undef], defers := [] }) ?assign ?body ?done ?stop
    case assign =>
      intro l x W K hK
      gi_wp2
      exact hK
    case stop =>
      rintro D c pre W _ ⟨ws, hws⟩ h _
      have hp := hi_prefix (pre.map (·.1)) (zs.reverse.map (·.1)) (List.IsPrefix.map (·.1) ⟨ws, hws⟩) (fun y hy => by obtain ⟨p, _, rfl⟩ := List.mem_map.1 hy; exact p.2.1)
      rw [hi_parts, Hval.out] at hp
      have := Hneg1.out (by first | rfl | trivial)
      exact absurd h (by omega)
    case done =>
      rintro D ys W hD9 rfl ⟨h1, h2, h3, h4, h5, hB9⟩ hK
      have hX9 : Boxed W (w.heap.size + 1) 3 (.int .i64 0) := (hB9.block _ (by omega)).trans hX
      have hY9 : Boxed W (w.heap.size + 1 + 1) 28 (.int .i64 0) := (hB9.block _ (by omega)).trans hY
      obtain ⟨a1, a2, a3, a4, a5⟩ := box2 ((hB9.block _ (by omega)).trans hA)
      rw [hi_parts, Hval.out] at h4
      obtain ⟨e1, e2⟩ := Hneg1.out (by first | rfl | trivial)
      have c1 := h4.cell; have c2 := h4.frozen
      have c3 := hX9.cell; have c4 := hX9.frozen; have c5 := hY9.cell; have c6 := hY9.frozen
      have hn0 : (0 : Int) ≤ n := by omega
      clear h1 h2
      gi_wp2
      have hz : wrap64 (IntKind.u64.wrap (-(n : Int))) = z := by rw [e1]; unfold wrap64; rw [IntKind.wrap_u64]; omega
      rw [hz]
      have hX3 : Boxed (((W.setCell ⟨w1.heap.size + 1, 0, none⟩ (.int .u64 (IntKind.u64.wrap (-(n : Int))))).setCell ⟨w.heap.size + 1, 0, none⟩ (.int .i64 z)).setCell ⟨w.heap.size + 1 + 1, 0, none⟩ (.int .i64 0)) (w.heap.size + 1) 3 (.int .i64 z) := (((hX9.kept (grownBy_setCell' W (w1.heap.size + 1) (.int .u64 (IntKind.u64.wrap (-(n : Int))))) (by simp <;> omega)).set (.int .i64 z)).kept (grownBy_setCell' ((W.setCell ⟨w1.heap.size + 1, 0, none⟩ (.int .u64 (IntKind.u64.wrap (-(n : Int))))).setCell ⟨w.heap.size + 1, 0, none⟩ (.int .i64 z)) (w.heap.size + 1 + 1) (.int .i64 0)) (by simp <;> omega))
      have hY3 : Boxed (((W.setCell ⟨w1.heap.size + 1, 0, none⟩ (.int .u64 (IntKind.u64.wrap (-(n : Int))))).setCell ⟨w.heap.size + 1, 0, none⟩ (.int .i64 z)).setCell ⟨w.heap.size + 1 + 1, 0, none⟩ (.int .i64 0)) (w.heap.size + 1 + 1) 28 (.int .i64 0) := (((hY9.kept (grownBy_setCell' W (w1.heap.size + 1) (.int .u64 (IntKind.u64.wrap (-(n : Int))))) (by simp <;> omega)).kept (grownBy_setCell' (W.setCell ⟨w1.heap.size + 1, 0, none⟩ (.int .u64 (IntKind.u64.wrap (-(n : Int))))) (w.heap.size + 1) (.int .i64 z)) (by simp <;> omega)).set (.int .i64 0))
      have hK3 : (((W.setCell ⟨w1.heap.size + 1, 0, none⟩ (.int .u64 (IntKind.u64.wrap (-(n : Int))))).setCell ⟨w.heap.size + 1, 0, none⟩ (.int .i64 z)).setCell ⟨w.heap.size + 1 + 1, 0, none⟩ (.int .i64 0)).heap[D]? = some (.deferred (some [])) := by rw [Below.heap_setCell _ _ _ _ (by simp; omega), Below.heap_setCell _ _ _ _ (by simp; omega), Below.heap_setCell _ _ _ _ (by simp; omega)]; exact hK
      have hB3 : Below w.heap.size w (((W.setCell ⟨w1.heap.size + 1, 0, none⟩ (.int .u64 (IntKind.u64.wrap (-(n : Int))))).setCell ⟨w.heap.size + 1, 0, none⟩ (.int .i64 z)).setCell ⟨w.heap.size + 1 + 1, 0, none⟩ (.int .i64 0)) := ((((hbb.trans (hB9.mono hbb.size)).setCell (by simp <;> omega) (.int .u64 (IntKind.u64.wrap (-(n : Int))))).setCell (by simp <;> omega) (.int .i64 z)).setCell (by simp <;> omega) (.int .i64 0))
      generalize (((W.setCell ⟨w1.heap.size + 1, 0, none⟩ (.int .u64 (IntKind.u64.wrap (-(n : Int))))).setCell ⟨w.heap.size + 1, 0, none⟩ (.int .i64 z)).setCell ⟨w.heap.size + 1 + 1, 0, none⟩ (.int .i64 0)) = W3 at *
      have hX4 := hX3.kept (grownBy_putObj' W3 D (.deferred none)) (by simp; omega)
      have hY4 := hY3.kept (grownBy_putObj' W3 D (.deferred none)) (by simp; omega)
      refine ⟨by simp, .inl ⟨_, _, rfl, run_takeDeferred hK3, ?_⟩⟩
      have g1 := hX4.cell; have g2 := hY4.cell
      refine ⟨.tuple #[.int .i64 z, .int .i64 0], ?_, rfl, hB3.trans (belowK_b (w := w) (Nat.le_refl _) W3 D _ _ (by omega) hK3 rfl rfl)⟩
      simp [results, Tryz.f18, go_sem, g1, g2]
    case body =>
      rintro l pre ⟨x, hx0, hx1⟩ W ⟨h1, h2, h3, h4, h5, hB9⟩ hp9
      have hX9 : Boxed W (w.heap.size + 1) 3 (.int .i64 0) := (hB9.block _ (by omega)).trans hX
      have hY9 : Boxed W (w.heap.size + 1 + 1) 28 (.int .i64 0) := (hB9.block _ (by omega)).trans hY
      have c1 := h4.cell; have c2 := h4.frozen; have c7 := h3.cell
      have c3 := hX9.cell; have c4 := hX9.frozen; have c5 := hY9.cell; have c6 := hY9.frozen
      have hE9 : hi ((pre ++ [(⟨x, hx0, hx1⟩ : Part)]).map (·.1)) = hi (pre.map (·.1)) * 1000000000 + x := by simp [hi_snoc]
      have HE := Lib.hid hE9
      clear hE9
      generalize hi (pre.map (·.1)) = s at *
      gi_wp2
      · refine ⟨((KeepsOthers.setCell _ _ _).trans (KeepsOthers.setCell _ _ _)).from _, ?_⟩
        show 9223372036854775808 < hi _
        rw [HE.out]; omega
      · have hS9 := h5.kept (grownBy_setCell' W (w1.heap.size + 1) (.int .u64 (s * 1000000000 + x))) (by simp)
        refine ⟨(KeepsOthers.setCell _ _ _).from _, ⟨(Below.refl _ _).setCell (by simp) _, (show _ = _ from hS9).trans (show _ = _ from h5).symm⟩, ?_, ?_, h3.kept (grownBy_setCell' W (w1.heap.size + 1) _) (by simp), ?_, hS9, hB9.setCell (by simp) _⟩
        · rw [HE.out]; omega
        · rw [HE.out]; omega
        · rw [HE.out]; exact h4.set _
  · refine ⟨trivial, (top_in _ _ _ _).mono ?_⟩
    rintro e w' ⟨rfl, rfl⟩
    have hneg : neg = false := by assumption
    subst hneg
    gi_wp2
    have hD : Boxed (((w1.alloc (.cells #[.int .u64 9223372036854775807] 68)).alloc (.cells #[.int .u64 0] 68)).alloc (.cells #[.slice ao len cap] 22)) (w1.heap.size) 68 (.int .u64 9223372036854775807) := heap3_0 w1 _ _ _
    have hE : Boxed (((w1.alloc (.cells #[.int .u64 9223372036854775807] 68)).alloc (.cells #[.int .u64 0] 68)).alloc (.cells #[.slice ao len cap] 22)) (w1.heap.size + 1) 68 (.int .u64 0) := heap3_1 w1 _ _ _
    have hS : Boxed (((w1.alloc (.cells #[.int .u64 9223372036854775807] 68)).alloc (.cells #[.int .u64 0] 68)).alloc (.cells #[.slice ao len cap] 22)) (w1.heap.size + 1 + 1) 22 (.slice ao len cap) := heap3_2 w1 _ _ _
    have hBW : Below w1.heap.size w1 (((w1.alloc (.cells #[.int .u64 9223372036854775807] 68)).alloc (.cells #[.int .u64 0] 68)).alloc (.cells #[.slice ao len cap] 22)) := below3 w1 _ _ _
    have hsW := Sl.below hs (hbb.trans (hBW.mono hbb.size))
    have hlow : 0 < len → ∀ a, ao = some a → a.block < w1.heap.size := by
      intro h0 a ha
      obtain ⟨b, o, hbo, hc⟩ := hs.at h0
      rw [ha] at hbo
      obtain rfl := Option.some.inj hbo
      have := cell_lt (hc 0 h0)
      exact Nat.lt_of_lt_of_le this (by have := hbb.size; omega)
    obtain ⟨zs, rfl⟩ := parts_of hdig
    have hSlt := hS.lt
    generalize hW0 : ((w1.alloc (.cells #[.int .u64 9223372036854775807] 68)).alloc (.cells #[.int .u64 0] 68)).alloc (.cells #[.slice ao len cap] 22) = W0 at *
    refine wpIn_rangeFunc_ownG rfl (by omega) (gf := 116) (lb := #[.pointer (some ⟨w1.heap.size + 1 + 1, 0, none⟩)]) rfl trivial (enters_of Tryz.func116 (by kernel_rfl) rfl)
      (top_stops (w1.heap.size + 1 + 1) (w1.heap.size) ao len cap zs (by omega) W0 hS hsW hlow) KeepT.t (KeepT.b (by omega) (by omega)) (Below.refl _ _) (fun _ => rfl)
      (ToIntInv w1.heap.size (.slice ao len cap) 9223372036854775807 w1) (fun _ pre _ => 9223372036854775807 < hi (pre.map (·.1))) (ToIntInv.own (by omega)) (fun _ _ _ _ _ hs _ _ => hs)
      ⟨Int.le_refl _, (by decide : (0 : Int) ≤ 9223372036854775807), hD, hE, hS, hBW⟩
      (fun x => { tmps := #[.agg #[.bool false, .slice ao len cap], .pointer (some ⟨w.heap.size, 0, none⟩), .pointer (some ⟨w.heap.size + 1, 0, none⟩), .pointer (some ⟨w.heap.size + 1 + 1, 0, none⟩), .int .i64 0, .pointer (some ⟨w1.heap.size, 0, none⟩), .pointer (some ⟨w1.heap.size + 1, 0, none⟩), .int .i64 x.1, .agg #[.bool false, .slice ao len cap], .int .i64 0, .int .i64 0, .bool false, undef, .pointer (some ⟨w.heap.size, 0, none⟩), .bool false, undef, undef, .pointer (some ⟨w.heap.size, 1, none⟩), .slice ao len cap, .func (.func 116) #[] #[.pointer (some ⟨w1.heap.size + 1 + 1, 0, none⟩)], .int .i64 x.1, undef, undef, undef, undef, undef, undef, undef, undef, undef, undef, undef, undef, undef, undef, undef, undef, undef, undef], defers := [] }) ?assign ?body ?done ?stop
    case assign =>
      intro l x W K hK
      gi_wp2
      exact hK
    case stop =>
      rintro D c pre W _ ⟨ws, hws⟩ h _
      have hp := hi_prefix (pre.map (·.1)) (zs.reverse.map (·.1)) (List.IsPrefix.map (·.1) ⟨ws, hws⟩) (fun y hy => by obtain ⟨p, _, rfl⟩ := List.mem_map.1 hy; exact p.2.1)
      rw [hi_parts, Hval.out] at hp
      have := Hneg0.out (by first | rfl | trivial)
      exact absurd h (by omega)
    case done =>
      rintro D ys W hD9 rfl ⟨h1, h2, h3, h4, h5, hB9⟩ hK
      have hX9 : Boxed W (w.heap.size + 1) 3 (.int .i64 0) := (hB9.block _ (by omega)).trans hX
      have hY9 : Boxed W (w.heap.size + 1 + 1) 28 (.int .i64 0) := (hB9.block _ (by omega)).trans hY
      obtain ⟨a1, a2, a3, a4, a5⟩ := box2 ((hB9.block _ (by omega)).trans hA)
      rw [hi_parts, Hval.out] at h4
      obtain ⟨e1, e2⟩ := Hneg0.out (by first | rfl | trivial)
      have c1 := h4.cell; have c2 := h4.frozen
      have c3 := hX9.cell; have c4 := hX9.frozen; have c5 := hY9.cell; have c6 := hY9.frozen
      have hn0 : (0 : Int) ≤ n := by omega
      clear h1 h2
      gi_wp2
      rw [← e1]
      have hX3 : Boxed ((W.setCell ⟨w.heap.size + 1, 0, none⟩ (.int .i64 z)).setCell ⟨w.heap.size + 1 + 1, 0, none⟩ (.int .i64 0)) (w.heap.size + 1) 3 (.int .i64 z) := ((hX9.set (.int .i64 z)).kept (grownBy_setCell' (W.setCell ⟨w.heap.size + 1, 0, none⟩ (.int .i64 z)) (w.heap.size + 1 + 1) (.int .i64 0)) (by simp <;> omega))
      have hY3 : Boxed ((W.setCell ⟨w.heap.size + 1, 0, none⟩ (.int .i64 z)).setCell ⟨w.heap.size + 1 + 1, 0, none⟩ (.int .i64 0)) (w.heap.size + 1 + 1) 28 (.int .i64 0) := ((hY9.kept (grownBy_setCell' W (w.heap.size + 1) (.int .i64 z)) (by simp <;> omega)).set (.int .i64 0))
      have hK3 : ((W.setCell ⟨w.heap.size + 1, 0, none⟩ (.int .i64 z)).setCell ⟨w.heap.size + 1 + 1, 0, none⟩ (.int .i64 0)).heap[D]? = some (.deferred (some [])) := by rw [Below.heap_setCell _ _ _ _ (by simp; omega), Below.heap_setCell _ _ _ _ (by simp; omega)]; exact hK
      have hB3 : Below w.heap.size w ((W.setCell ⟨w.heap.size + 1, 0, none⟩ (.int .i64 z)).setCell ⟨w.heap.size + 1 + 1, 0, none⟩ (.int .i64 0)) := (((hbb.trans (hB9.mono hbb.size)).setCell (by simp <;> omega) (.int .i64 z)).setCell (by simp <;> omega) (.int .i64 0))
      generalize ((W.setCell ⟨w.heap.size + 1, 0, none⟩ (.int .i64 z)).setCell ⟨w.heap.size + 1 + 1, 0, none⟩ (.int .i64 0)) = W3 at *
      have hX4 := hX3.kept (grownBy_putObj' W3 D (.deferred none)) (by simp; omega)
      have hY4 := hY3.kept (grownBy_putObj' W3 D (.deferred none)) (by simp; omega)
      refine ⟨by simp, .inl ⟨_, _, rfl, run_takeDeferred hK3, ?_⟩⟩
      have g1 := hX4.cell; have g2 := hY4.cell
      refine ⟨.tuple #[.int .i64 z, .int .i64 0], ?_, rfl, hB3.trans (belowK_b (w := w) (Nat.le_refl _) W3 D _ _ (by omega) hK3 rfl rfl)⟩
      simp [results, Tryz.f18, go_sem, g1, g2]
    case body =>
      rintro l pre ⟨x, hx0, hx1⟩ W ⟨h1, h2, h3, h4, h5, hB9⟩ hp9
      have hX9 : Boxed W (w.heap.size + 1) 3 (.int .i64 0) := (hB9.block _ (by omega)).trans hX
      have hY9 : Boxed W (w.heap.size + 1 + 1) 28 (.int .i64 0) := (hB9.block _ (by omega)).trans hY
      have c1 := h4.cell; have c2 := h4.frozen; have c7 := h3.cell
      have c3 := hX9.cell; have c4 := hX9.frozen; have c5 := hY9.cell; have c6 := hY9.frozen
      have hE9 : hi ((pre ++ [(⟨x, hx0, hx1⟩ : Part)]).map (·.1)) = hi (pre.map (·.1)) * 1000000000 + x := by simp [hi_snoc]
      have HE := Lib.hid hE9
      clear hE9
      generalize hi (pre.map (·.1)) = s at *
      gi_wp2
      · refine ⟨((KeepsOthers.setCell _ _ _).trans (KeepsOthers.setCell _ _ _)).from _, ?_⟩
        show 9223372036854775807 < hi _
        rw [HE.out]; omega
      · have hS9 := h5.kept (grownBy_setCell' W (w1.heap.size + 1) (.int .u64 (s * 1000000000 + x))) (by simp)
        refine ⟨(KeepsOthers.setCell _ _ _).from _, ⟨(Below.refl _ _).setCell (by simp) _, (show _ = _ from hS9).trans (show _ = _ from h5).symm⟩, ?_, ?_, h3.kept (grownBy_setCell' W (w1.heap.size + 1) _) (by simp), ?_, hS9, hB9.setCell (by simp) _⟩
        · rw [HE.out]; omega
        · rw [HE.out]; omega
        · rw [HE.out]; exact h4.set _
end Go.Proofs.YtcmocjfnmfiieaaGreatDoor

/- The closure of NumPowers; right at four data. -/
namespace Go.Proofs.YtcmocjfnmfiieaaGreatDoor
open Go.RowKit

def powerR (p q : Int × Int) : Int × Int := if p.2 = 0 ∧ q.2 = 0 then fitR (p.1 ^ q.1.natAbs) else (0, 2)

set_option maxHeartbeats 1000000 in
theorem lawPower_ok (n1 : Bool) (ax : Option Addr) (la ca : Nat) (xs : List Int) (n2 : Bool) (ay : Option Addr) (lb cb : Nat) (ys : List Int) (n3 : Bool) (zs : List Int) (e3 : Int) (hzl : zs.getLast? ≠ some 0) (w : World) (hx : Sl w ax la ca xs) (hy : Sl w ay lb cb ys)
    (hc : ∀ w, Sl w ax la ca xs → Sl w ay lb cb ys → Calls Tryz.prog 54 #[.agg #[.bool n1, .slice ax la ca], .agg #[.bool n2, .slice ay lb cb]] w (RetPE n3 zs e3 w)) :
    Calls Tryz.prog 71 #[.agg #[.bool n1, .slice ax la ca, .int .i64 0], .agg #[.bool n2, .slice ay lb cb, .int .i64 0]] w (RetQ n3 zs e3 w) := by
  have Hc := Lib.hid hc
  have Hzl := Lib.hid hzl
  clear hc hzl
  go_enter Tryz.func71, Tryz.ntmps71
  go_wp2_with fail
  (with_reducible refine (Hc.out _ (by exact ((hx.alloc _).alloc _).alloc _) (by exact ((hy.alloc _).alloc _).alloc _)).mono ?_)
  rintro e w1 ⟨a1, l1, c1, rfl, s1, b1⟩
  obtain ⟨_, _, hC, hz, hbb⟩ := kept3 _ _ _ _ b1
  clear b1
  go_wp2_with fail
  (with_reducible refine (got_any _ _ _ _ _ _).mono ?_)
  rintro e w2 ⟨rfl, b2⟩
  have hC2 : Box3 w2 (w.heap.size + 1 + 1) false none 0 0 0 := (b2.block _ (Array.getElem?_eq_some_iff.1 hC).1).trans hC
  obtain ⟨f0, f1, f2⟩ := hC2.cells
  obtain ⟨g0, g1, g2⟩ := hC2.froz
  have hsz := hC2.lt
  have s2 := s1.below b2
  have hb2 := hbb.trans (b2.mono hbb.size)
  have HC := Lib.hid hC2
  clear hC hC2 b2 hbb s1
  go_wp2
  refine bodyPost_ret (v := .agg #[.bool n3, .slice a1 l1 c1, .int .i64 e3]) (by simp [results, Tryz.results71, go_sem, f0, f1, f2]) rfl ?_
  refine ⟨a1, l1, c1, rfl, ?_, ((hb2.setCell (by simp; omega) _).setCell (by simp; omega) _).setCell (by simp; omega) _⟩
  exact s2.pair Hzl.out HC.out _ _ _ _ _

set_option maxHeartbeats 1000000 in
theorem lawPower_bad (n1 : Bool) (ax : Option Addr) (la ca : Nat) (e1 : Int) (n2 : Bool) (ay : Option Addr) (lb cb : Nat) (e2 : Int) (w : World) (h : ¬ (e1 = 0 ∧ e2 = 0)) :
    Calls Tryz.prog 71 #[.agg #[.bool n1, .slice ax la ca, .int .i64 e1], .agg #[.bool n2, .slice ay lb cb, .int .i64 e2]] w (RetQ false [] 2 w) := by
  have hb : ∀ o p q : Obj, Below w.heap.size w (((w.alloc o).alloc p).alloc q) := fun o p q => below3 w o p q
  by_cases h1 : e1 = 0
  · have h2 : e2 ≠ 0 := fun h' => h ⟨h1, h'⟩
    subst h1
    have hq : (e2 != 0) = true := by simpa using h2
    clear h h2
    go_enter Tryz.func71, Tryz.ntmps71
    go_wp2
    refine bodyPost_ret (v := .agg #[.bool false, .slice none 0 0, .int .i64 2]) (by simp [results, Tryz.results71, go_sem]) rfl ?_
    exact ⟨_, _, _, rfl, Sl.nil _, hb _ _ _⟩
  · have hq : (e1 != 0) = true := by simpa using h1
    clear h h1
    go_enter Tryz.func71, Tryz.ntmps71
    go_wp2
    refine bodyPost_ret (v := .agg #[.bool false, .slice none 0 0, .int .i64 2]) (by simp [results, Tryz.results71, go_sem]) rfl ?_
    exact ⟨_, _, _, rfl, Sl.nil _, hb _ _ _⟩

theorem lawPower_any {x y z e1 e2 e3 : Int} {n1 n2 n3 : Bool} {xs ys zs : List Int} (hx : Num x n1 xs) (hy : Num y n2 ys) (hz : Num z n3 zs) (hy0 : e2 = 0 → 0 ≤ y) (he : powerR (x, e1) (y, e2) = (z, e3)) (ax : Option Addr) (la ca : Nat) (ay : Option Addr) (lb cb : Nat) (w : World) (sx : Sl w ax la ca xs) (sy : Sl w ay lb cb ys) :
    Calls Tryz.prog 71 #[.agg #[.bool n1, .slice ax la ca, .int .i64 e1], .agg #[.bool n2, .slice ay lb cb, .int .i64 e2]] w (RetQ n3 zs e3 w) := by
  obtain ⟨h1, rfl, rfl⟩ := hx
  obtain ⟨h2, rfl, rfl⟩ := hy
  obtain ⟨_, rfl, rfl⟩ := hz
  unfold powerR at he
  by_cases h : e1 = 0 ∧ e2 = 0
  · rw [if_pos h] at he
    obtain ⟨rfl, rfl⟩ := h
    refine lawPower_ok _ ax la ca _ _ ay lb cb _ _ _ _ (parts_last _) w sx sy fun w sx sy => ((Pow_ok x y h1 h2 (hy0 rfl) ax la ca ay lb cb w sx sy).mono fun _ _ h => ?_)
    have := h.fit
    rw [he] at this
    exact this
  · rw [if_neg h] at he
    cases he
    have := lawPower_bad (decide (x < 0)) ax la ca e1 (decide (y < 0)) ay lb cb e2 w h
    rw [show decide ((0 : Int) < 0) = false from rfl, show (0 : Int).natAbs = 0 from rfl, parts_zero]
    exact this

theorem right4 (n1 : Bool) (a1 : Option Addr) (l1 c1 : Nat) (x1 : List Int) (n2 : Bool) (a2 : Option Addr) (l2 c2 : Nat) (x2 : List Int) (n3 : Bool) (a3 : Option Addr) (l3 c3 : Nat) (x3 : List Int) (n4 : Bool) (a4 : Option Addr) (l4 c4 : Nat) (x4 : List Int) (w : World) (g : Nat) (hg : w.heap[g]? = some (.cells #[.bool n1, .slice a1 l1 c1, .bool n2, .slice a2 l2 c2, .bool n3, .slice a3 l3 c3, .bool n4, .slice a4 l4 c4] 24 (0, 0)))
    (h1 : Sl w a1 l1 c1 x1) (h2 : Sl w a2 l2 c2 x2) (h3 : Sl w a3 l3 c3 x3) (h4 : Sl w a4 l4 c4 x4) (r : Bool) (hr : (!(wrong ⟨n1, a1, l1, c1, x1⟩ || (wrong ⟨n2, a2, l2, c2, x2⟩ || (wrong ⟨n3, a3, l3, c3, x3⟩ || wrong ⟨n4, a4, l4, c4, x4⟩)))) = r) :
    Calls Tryz.prog 64 #[.slice (some ⟨g, 0, none⟩) 4 4] w (RetBool r w) := by
  have := right_any g [⟨n1, a1, l1, c1, x1⟩, ⟨n2, a2, l2, c2, x2⟩, ⟨n3, a3, l3, c3, x3⟩, ⟨n4, a4, l4, c4, x4⟩] w hg (by
    intro d hd
    simp only [List.mem_cons, List.not_mem_nil, or_false] at hd
    rcases hd with rfl | rfl | rfl | rfl
    · exact h1
    · exact h2
    · exact h3
    · exact h4) (by simp)
  rw [show List.any [(⟨n1, a1, l1, c1, x1⟩ : Dat), ⟨n2, a2, l2, c2, x2⟩, ⟨n3, a3, l3, c3, x3⟩, ⟨n4, a4, l4, c4, x4⟩] wrong = (wrong ⟨n1, a1, l1, c1, x1⟩ || (wrong ⟨n2, a2, l2, c2, x2⟩ || (wrong ⟨n3, a3, l3, c3, x3⟩ || wrong ⟨n4, a4, l4, c4, x4⟩))) by simp, hr] at this
  exact this

/-! What results mean, where there are any. -/
theorem fitR_zero {z v : Int} (h : fitR z = (v, 0)) : v = z := by
  by_cases hl : Lim z
  · rw [fitR_ok hl] at h; cases h; rfl
  · rw [fitR_no hl] at h; cases h
theorem sumR_lim (p q : Int × Int) : Lim (sumR p q).1 := by
  unfold sumR; split
  · exact fitR_lim _
  · exact Lim.zero
theorem timesR_lim (p q : Int × Int) : Lim (timesR p q).1 := by
  unfold timesR; split
  · exact fitR_lim _
  · exact Lim.zero
theorem powerR_lim (p q : Int × Int) : Lim (powerR p q).1 := by
  unfold powerR; split
  · exact fitR_lim _
  · exact Lim.zero
theorem sumR_zero {x e1 y e2 v : Int} (h : sumR (x, e1) (y, e2) = (v, 0)) : e1 = 0 ∧ e2 = 0 ∧ v = x + y := by
  unfold sumR at h; split at h
  · rename_i hh; exact ⟨hh.1, hh.2, fitR_zero h⟩
  · cases h
theorem timesR_zero {x e1 y e2 v : Int} (h : timesR (x, e1) (y, e2) = (v, 0)) : e1 = 0 ∧ e2 = 0 ∧ v = x * y := by
  unfold timesR at h; split at h
  · rename_i hh; exact ⟨hh.1, hh.2, fitR_zero h⟩
  · cases h
theorem powerR_zero {x e1 y e2 v : Int} (h : powerR (x, e1) (y, e2) = (v, 0)) : e1 = 0 ∧ e2 = 0 ∧ v = x ^ y.natAbs := by
  unfold powerR at h; split at h
  · rename_i hh; exact ⟨hh.1, hh.2, fitR_zero h⟩
  · cases h
end Go.Proofs.YtcmocjfnmfiieaaGreatDoor

/- The closure of NumSmall: is the pair the int? -/
namespace Go.Proofs.YtcmocjfnmfiieaaGreatDoor
open Go.RowKit

/-- The closure of NumSmall: is the pair the int? -/
theorem isP {z : Int} {n : Bool} {xs : List Int} (hz : Num z n xs) (h0 : -9223372036854775808 ≤ z) (h1 : z ≤ 9223372036854775807) (ax : Option Addr) (la ca : Nat) (w : World) (sx : Sl w ax la ca xs) :
    Calls Tryz.prog 73 #[.agg #[.bool n, .slice ax la ca, .int .i64 0], .int .i64 z] w (RetBool true w) := by
  obtain ⟨hl, rfl, rfl⟩ := hz
  have ht := fun ao len cap w hs => ToInt_fits z hl h0 h1 ao len cap w hs
  have Ht := Lib.hid ht
  clear ht hl h0 h1
  go_enter Tryz.func73, Tryz.ntmps73
  go_wp2_with fail
  (with_reducible refine (Ht.out _ _ _ _ (by exact sx.alloc _)).mono ?_)
  rintro e w1 ⟨rfl, b1⟩
  have hb := (kept1 _ _ b1).2.2
  have T := (Box3.new w (decide (z < 0)) ax la ca 0).below b1
  have t0 := T.cells.1; have t1 := T.cells.2.1; have t2 := T.cells.2.2
  clear b1 sx
  go_wp2
  all_goals go_ret
  all_goals exact ⟨rfl, hb⟩
theorem addP {x y z : Int} {n1 n2 n3 : Bool} {xs ys zs : List Int} (hx : Num x n1 xs) (hy : Num y n2 ys) (hz : Num z n3 zs) (he : x + y = z) (ax : Option Addr) (la ca : Nat) (ay : Option Addr) (lb cb : Nat) (w : World) (sx : Sl w ax la ca xs) (sy : Sl w ay lb cb ys) :
    Calls Tryz.prog 44 #[.agg #[.bool n1, .slice ax la ca], .agg #[.bool n2, .slice ay lb cb]] w (RetPE n3 zs 0 w) := by
  obtain ⟨h1, rfl, rfl⟩ := hx
  obtain ⟨h2, rfl, rfl⟩ := hy
  obtain ⟨h3, rfl, rfl⟩ := hz
  subst he
  exact (Add_ok x y h1 h2 ax la ca ay lb cb w sx sy).mono fun _ _ h => h.1 h3
theorem subP {x y z : Int} {n1 n2 n3 : Bool} {xs ys zs : List Int} (hx : Num x n1 xs) (hy : Num y n2 ys) (hz : Num z n3 zs) (he : x - y = z) (ax : Option Addr) (la ca : Nat) (ay : Option Addr) (lb cb : Nat) (w : World) (sx : Sl w ax la ca xs) (sy : Sl w ay lb cb ys) :
    Calls Tryz.prog 46 #[.agg #[.bool n1, .slice ax la ca], .agg #[.bool n2, .slice ay lb cb]] w (RetPE n3 zs 0 w) := by
  obtain ⟨h1, rfl, rfl⟩ := hx
  obtain ⟨h2, rfl, rfl⟩ := hy
  obtain ⟨h3, rfl, rfl⟩ := hz
  subst he
  exact (Sub_ok x y h1 h2 ax la ca ay lb cb w sx sy).mono fun _ _ h => h.1 h3
theorem mulP {x y z : Int} {n1 n2 n3 : Bool} {xs ys zs : List Int} (hx : Num x n1 xs) (hy : Num y n2 ys) (hz : Num z n3 zs) (he : x * y = z) (ax : Option Addr) (la ca : Nat) (ay : Option Addr) (lb cb : Nat) (w : World) (sx : Sl w ax la ca xs) (sy : Sl w ay lb cb ys) :
    Calls Tryz.prog 48 #[.agg #[.bool n1, .slice ax la ca], .agg #[.bool n2, .slice ay lb cb]] w (RetPE n3 zs 0 w) := by
  obtain ⟨h1, rfl, rfl⟩ := hx
  obtain ⟨h2, rfl, rfl⟩ := hy
  obtain ⟨h3, rfl, rfl⟩ := hz
  subst he
  exact (Mul_ok x y h1 h2 ax la ca ay lb cb w sx sy).mono fun _ _ h => h.1 h3
end Go.Proofs.YtcmocjfnmfiieaaGreatDoor

/- Go's quotient and remainder of ints, and the floor's. -/
namespace Go.Proofs.YtcmocjfnmfiieaaGreatDoor
open Go.RowKit

theorem quo_small (x y : Int) (hx0 : -9223372036854775808 ≤ x) (hx1 : x ≤ 9223372036854775807) (hy : y ≠ 0) (hb : ¬ (x = -9223372036854775808 ∧ y = -1)) :
    ∃ tq tr, wrap64 (x.tdiv y) = tq ∧ x.tmod y = tr ∧ -9223372036854775808 ≤ tq ∧ tq ≤ 9223372036854775807 ∧ tr.natAbs < y.natAbs ∧ (tr ≠ 0 → -4611686018427387904 ≤ tq) ∧
      (tr = 0 ∨ (decide (tr < 0) != decide (y < 0)) = false → flq x y = tq ∧ flr x y = tr) ∧ (tr ≠ 0 → (decide (tr < 0) != decide (y < 0)) = true → flq x y = tq - 1 ∧ flr x y = tr + y) := by
  have hdm : y * x.tdiv y + x.tmod y = x := Int.mul_tdiv_add_tmod x y
  have ha : (x.tmod y).natAbs = x.natAbs % y.natAbs := Int.natAbs_tmod x y
  have hd : (x.tdiv y).natAbs = x.natAbs / y.natAbs := Int.natAbs_tdiv x y
  have hlt : x.natAbs % y.natAbs < y.natAbs := Nat.mod_lt _ (by omega)
  have hq : -9223372036854775808 ≤ x.tdiv y ∧ x.tdiv y ≤ 9223372036854775807 ∧ (x.tmod y ≠ 0 → -4611686018427387904 ≤ x.tdiv y) := by
    by_cases h1 : y = 1
    · subst h1; simp; omega
    · by_cases h2 : y = -1
      · subst h2
        have : (x.tdiv (-1)).natAbs = x.natAbs := by rw [hd]; simp
        have hz : (x.tmod (-1)).natAbs = 0 := by rw [ha]; simp [Nat.mod_one]
        omega
      · have h3 : x.natAbs / y.natAbs ≤ x.natAbs / 2 := Nat.div_le_div_left (by omega) (by omega)
        omega
  refine ⟨x.tdiv y, x.tmod y, by unfold wrap64; omega, rfl, hq.1, hq.2.1, by omega, hq.2.2, ?_, ?_⟩
  · intro h
    refine fl_unique hy hdm.symm (fun h0 => ?_) (fun h0 => ?_)
    · rcases h with h | h
      · omega
      · have e : decide (y < 0) = false := by simp; omega
        rw [e] at h; simp at h; omega
    · rcases h with h | h
      · omega
      · have e : decide (y < 0) = true := by simp; omega
        rw [e] at h; simp at h; omega
  · intro h1 h
    have e2 : y * (x.tdiv y - 1) = y * x.tdiv y - y := by rw [Int.mul_sub, Int.mul_one]
    refine fl_unique hy (by rw [e2]; omega) (fun h0 => ?_) (fun h0 => ?_)
    · have e : decide (y < 0) = false := by simp; omega
      rw [e] at h; simp at h; omega
    · have e : decide (y < 0) = true := by simp; omega
      rw [e] at h; simp at h; omega
end Go.Proofs.YtcmocjfnmfiieaaGreatDoor

/- The walk of NumSmall. -/
namespace Go.Proofs.YtcmocjfnmfiieaaGreatDoor
open Go.RowKit

/-- What each piece of NumSmall leaves: the two numbers in their boxes. -/
def SmallCut (w0 : World) (gx gy : Nat) (nx : Bool) (ax : Option Addr) (lx cx : Nat) (xx : List Int) (ny : Bool) (ay : Option Addr) (ly cy : Nat) (xy : List Int) (wx : World) : Prop :=
  BoxI wx gx nx ax lx cx ∧ Sl wx ax lx cx xx ∧ BoxI wx gy ny ay ly cy ∧ Sl wx ay ly cy xy ∧ Below w0.heap.size w0 wx
theorem num_near (z : Int) (h : z.natAbs ≤ 100000000000000000000) : ∃ n xs, Num z n xs := num_ex z (Nat.lt_of_le_of_lt h (by decide +kernel))
theorem mul_small (x y : Int) (h1 : decide ((-2147483648 : Int) < x) = true) (h2 : decide (x < 2147483648) = true) (h3 : decide ((-2147483648 : Int) < y) = true) (h4 : decide (y < 2147483648) = true) : -4611686018427387904 ≤ x * y ∧ x * y ≤ 4611686018427387904 := by
  simp at h1 h2 h3 h4
  have h : (x * y).natAbs ≤ 2147483648 * 2147483648 := by rw [Int.natAbs_mul]; exact Nat.mul_le_mul (by omega) (by omega)
  omega

set_option maxRecDepth 100000 in
set_option maxHeartbeats 8000000 in
theorem numSmall_any (x y : Int) (w : World) (ht : Tab w) (hx0 : -9223372036854775808 ≤ x) (hx1 : x ≤ 9223372036854775807) (hy0 : -9223372036854775808 ≤ y) (hy1 : y ≤ 9223372036854775807) : Calls Tryz.prog 14 #[.int .i64 x, .int .i64 y] w (RetBool true w) := by
  obtain ⟨nx, xx, Nx⟩ := num_near x (by omega)
  obtain ⟨ny, xy, Ny⟩ := num_near y (by omega)
  obtain ⟨s, hs⟩ : ∃ s, wrap64 (x + y) = s := ⟨_, rfl⟩
  obtain ⟨d, hd⟩ : ∃ d, wrap64 (x - y) = d := ⟨_, rfl⟩
  obtain ⟨v, hv⟩ : ∃ v, cmp3 x y = v := ⟨_, rfl⟩
  have Ox := Lib.hid (fun w => ofP Nx hx0 hx1 w)
  have Oy := Lib.hid (fun w => ofP Ny hy0 hy1 w)
  have Ix := Lib.hid (fun ax la ca w h => isP Nx hx0 hx1 ax la ca w h)
  have Iy := Lib.hid (fun ax la ca w h => isP Ny hy0 hy1 ax la ca w h)
  have Cm := Lib.hid (fun ax la ca ay lb cb w h1 h2 => compareP Nx Ny hv ax la ca ay lb cb w h1 h2)
  have HV := Lib.hid hv
  have HS := Lib.hid hs
  have HD := Lib.hid hd
  have HX := Lib.hid (And.intro hx0 hx1)
  have HY := Lib.hid (And.intro hy0 hy1)
  have NX := Lib.hid Nx
  have NY := Lib.hid Ny
  clear hv hs hd Nx Ny
  go_enter Tryz.func14, Tryz.ntmps14
  have U0 := Below.refl w.heap.size w
  go_wp2_with fail
  (with_reducible refine (sane_any _ (by exact ht)).mono ?_)
  rintro e w1 ⟨rfl, b1⟩
  replace U0 := U0.trans (b1.mono U0.size)
  replace ht := ht.below b1
  clear b1
  clear ht
  go_wp2_with fail
  (with_reducible refine (Ox.out _).mono ?_)
  rintro e w2 ⟨ax, lx, cx, rfl, sx, b2⟩
  replace U0 := U0.trans (b2.mono U0.size)
  clear b2
  go_wp2_with fail
  (with_reducible refine (Oy.out _).mono ?_)
  rintro e w3 ⟨ay, ly, cy, rfl, sy, b3⟩
  replace U0 := U0.trans (b3.mono U0.size)
  replace sx := sx.below b3
  clear b3
  go_wp2_with fail
  replace U0 := U0.alloc U0.size (.cells #[.bool nx, .slice ax lx cx] 24)
  replace sx := sx.alloc (.cells #[.bool nx, .slice ax lx cx] 24)
  replace sy := sy.alloc (.cells #[.bool nx, .slice ax lx cx] 24)
  have Tx := BoxI.new w3 (w3.heap.size) (by first | rfl | simp) nx ax lx cx
  have cTx0 := Tx.cells.1
  have cTx1 := Tx.cells.2
  have zTx := Tx.lt
  replace U0 := U0.alloc U0.size (.cells #[.bool ny, .slice ay ly cy] 24)
  replace sx := sx.alloc (.cells #[.bool ny, .slice ay ly cy] 24)
  replace sy := sy.alloc (.cells #[.bool ny, .slice ay ly cy] 24)
  replace Tx := Tx.alloc (.cells #[.bool ny, .slice ay ly cy] 24)
  replace cTx0 := Tx.cells.1
  replace cTx1 := Tx.cells.2
  replace zTx := Tx.lt
  have Ty := BoxI.new (w3.alloc (.cells #[.bool nx, .slice ax lx cx] 24)) (w3.heap.size + 1) (by first | rfl | simp) ny ay ly cy
  have cTy0 := Ty.cells.1
  have cTy1 := Ty.cells.2
  have zTy := Ty.lt
  (with_reducible refine (lawVal_any _ _ _ _ _).mono ?_)
  rintro e w4 ⟨rfl, b4⟩
  replace U0 := U0.trans (b4.mono U0.size)
  replace sx := sx.below b4
  replace sy := sy.below b4
  replace Tx := Tx.below b4
  replace Ty := Ty.below b4
  replace cTx0 := Tx.cells.1
  replace cTx1 := Tx.cells.2
  replace zTx := Tx.lt
  replace cTy0 := Ty.cells.1
  replace cTy1 := Ty.cells.2
  replace zTy := Ty.lt
  clear b4
  go_wp2_with fail
  (with_reducible refine (Ix.out _ _ _ _ (by exact sx)).mono ?_)
  rintro e w5 ⟨rfl, b5⟩
  replace U0 := U0.trans (b5.mono U0.size)
  replace sx := sx.below b5
  replace sy := sy.below b5
  replace Tx := Tx.below b5
  replace Ty := Ty.below b5
  replace cTx0 := Tx.cells.1
  replace cTx1 := Tx.cells.2
  replace zTx := Tx.lt
  replace cTy0 := Ty.cells.1
  replace cTy1 := Ty.cells.2
  replace zTy := Ty.lt
  clear b5
  go_wp2_with fail
  (with_reducible refine (lawVal_any _ _ _ _ _).mono ?_)
  rintro e w6 ⟨rfl, b6⟩
  replace U0 := U0.trans (b6.mono U0.size)
  replace sx := sx.below b6
  replace sy := sy.below b6
  replace Tx := Tx.below b6
  replace Ty := Ty.below b6
  replace cTx0 := Tx.cells.1
  replace cTx1 := Tx.cells.2
  replace zTx := Tx.lt
  replace cTy0 := Ty.cells.1
  replace cTy1 := Ty.cells.2
  replace zTy := Ty.lt
  clear b6
  go_wp2_with fail
  (with_reducible refine (Iy.out _ _ _ _ (by exact sy)).mono ?_)
  rintro e w7 ⟨rfl, b7⟩
  replace U0 := U0.trans (b7.mono U0.size)
  replace sx := sx.below b7
  replace sy := sy.below b7
  replace Tx := Tx.below b7
  replace Ty := Ty.below b7
  replace cTx0 := Tx.cells.1
  replace cTx1 := Tx.cells.2
  replace zTx := Tx.lt
  replace cTy0 := Ty.cells.1
  replace cTy1 := Ty.cells.2
  replace zTy := Ty.lt
  clear b7
  go_upto_if 35 with (fail)
  go_cut [8] (fun s8 wx => s8 = .int .i64 v ∧ SmallCut w (w3.heap.size) (w3.heap.size + 1) nx ax lx cx xx ny ay ly cy xy wx)
  case first => as_aux_lemma =>
    have hv := HV.out; unfold cmp3 at hv
    clear HS HD Ox Oy Ix Iy Cm
    by_cases h1 : x < y
    · rw [if_pos h1] at hv; subst hv; go_wp2_with fail; go_meet; exact ⟨rfl, Tx, sx, Ty, sy, U0⟩
    · rw [if_neg h1] at hv; by_cases h2 : x = y
      · rw [if_pos h2] at hv; subst hv; subst h2; go_wp2_with fail; go_meet; exact ⟨rfl, Tx, sx, Ty, sy, U0⟩
      · rw [if_neg h2] at hv; subst hv; have h3 : y < x := by omega
        go_wp2_with fail; go_meet; exact ⟨rfl, Tx, sx, Ty, sy, U0⟩
  case rest =>
    obtain ⟨rfl, Tx, sx, Ty, sy, U0⟩ := hcut
    have cTx0 := Tx.cells.1
    have cTx1 := Tx.cells.2
    have zTx := Tx.lt
    have cTy0 := Ty.cells.1
    have cTy1 := Ty.cells.2
    have zTy := Ty.lt
    go_wp2_with fail
    (with_reducible refine (Cm.out _ _ _ _ _ _ _ (by exact sx) (by exact sy)).mono ?_)
    rintro e w1 ⟨rfl, b1⟩
    replace U0 := U0.trans (b1.mono U0.size)
    replace Tx := Tx.below b1
    replace sx := sx.below b1
    replace Ty := Ty.below b1
    replace sy := sy.below b1
    replace cTx0 := Tx.cells.1
    replace cTx1 := Tx.cells.2
    replace zTx := Tx.lt
    replace cTy0 := Ty.cells.1
    replace cTy1 := Ty.cells.2
    replace zTy := Ty.lt
    clear b1
    go_upto_region 15 with (fail)
    rw [HS.out]
    go_cut [64] (fun sl wx => sl = .bool false ∧ SmallCut w (w3.heap.size) (w3.heap.size + 1) nx ax lx cx xx ny ay ly cy xy wx)
    case first => as_aux_lemma =>
      by_cases hq : (decide (x < s) == decide (0 < y)) = true
      · have e : x + y = s := by
          have h1 := HS.out; have h2 := HX.out; have h3 := HY.out
          unfold wrap64 at h1
          by_cases a1 : x < s <;> by_cases a2 : 0 < y <;> simp [a1, a2] at hq <;> omega
        have e0 : -9223372036854775808 ≤ s ∧ s ≤ 9223372036854775807 := by have h1 := HS.out; unfold wrap64 at h1; omega
        obtain ⟨no, xo, No⟩ := num_near s (by omega)
        have Op := Lib.hid (fun ax la ca ay lb cb w h1 h2 => addP NX.out NY.out No e ax la ca ay lb cb w h1 h2)
        have Is := Lib.hid (fun ax la ca w h => isP No e0.1 e0.2 ax la ca w h)
        clear e e0 No
        go_wp2_with fail
        (with_reducible refine (Op.out _ _ _ _ _ _ _ (by exact sx) (by exact sy)).mono ?_)
        rintro e w2 ⟨ao, lo, co, rfl, so, b2⟩
        replace U0 := U0.trans (b2.mono U0.size)
        replace Tx := Tx.below b2
        replace sx := sx.below b2
        replace Ty := Ty.below b2
        replace sy := sy.below b2
        replace cTx0 := Tx.cells.1
        replace cTx1 := Tx.cells.2
        replace zTx := Tx.lt
        replace cTy0 := Ty.cells.1
        replace cTy1 := Ty.cells.2
        replace zTy := Ty.lt
        clear b2
        go_wp2_with fail
        (with_reducible refine (got_any _ _ _ _ _ _).mono ?_)
        rintro e w3 ⟨rfl, b3⟩
        replace U0 := U0.trans (b3.mono U0.size)
        replace Tx := Tx.below b3
        replace sx := sx.below b3
        replace Ty := Ty.below b3
        replace sy := sy.below b3
        replace so := so.below b3
        replace cTx0 := Tx.cells.1
        replace cTx1 := Tx.cells.2
        replace zTx := Tx.lt
        replace cTy0 := Ty.cells.1
        replace cTy1 := Ty.cells.2
        replace zTy := Ty.lt
        clear b3
        go_wp2_with fail
        (with_reducible refine (Is.out _ _ _ _ (by exact so)).mono ?_)
        rintro e w4 ⟨rfl, b4⟩
        replace U0 := U0.trans (b4.mono U0.size)
        replace Tx := Tx.below b4
        replace sx := sx.below b4
        replace Ty := Ty.below b4
        replace sy := sy.below b4
        replace so := so.below b4
        replace cTx0 := Tx.cells.1
        replace cTx1 := Tx.cells.2
        replace zTx := Tx.lt
        replace cTy0 := Ty.cells.1
        replace cTy1 := Ty.cells.2
        replace zTy := Ty.lt
        clear b4
        go_wp2_with fail; go_meet; exact ⟨rfl, Tx, sx, Ty, sy, U0⟩
      · have hf := Bool.eq_false_iff.2 hq
        clear hq
        go_wp2_with fail; go_meet; exact ⟨rfl, Tx, sx, Ty, sy, U0⟩
    case rest =>
      obtain ⟨rfl, Tx, sx, Ty, sy, U0⟩ := hcut
      have cTx0 := Tx.cells.1
      have cTx1 := Tx.cells.2
      have zTx := Tx.lt
      have cTy0 := Ty.cells.1
      have cTy1 := Ty.cells.2
      have zTy := Ty.lt
      go_upto_region 18 with (fail)
      rw [HD.out]
      go_cut [85] (fun sl wx => sl = .bool false ∧ SmallCut w (w3.heap.size) (w3.heap.size + 1) nx ax lx cx xx ny ay ly cy xy wx)
      case first => as_aux_lemma =>
        by_cases hq : (decide (d < x) == decide (0 < y)) = true
        · have e : x - y = d := by
            have h1 := HD.out; have h2 := HX.out; have h3 := HY.out
            unfold wrap64 at h1
            by_cases a1 : d < x <;> by_cases a2 : 0 < y <;> simp [a1, a2] at hq <;> omega
          have e0 : -9223372036854775808 ≤ d ∧ d ≤ 9223372036854775807 := by have h1 := HD.out; unfold wrap64 at h1; omega
          obtain ⟨no, xo, No⟩ := num_near d (by omega)
          have Op := Lib.hid (fun ax la ca ay lb cb w h1 h2 => subP NX.out NY.out No e ax la ca ay lb cb w h1 h2)
          have Is := Lib.hid (fun ax la ca w h => isP No e0.1 e0.2 ax la ca w h)
          clear e e0 No
          go_wp2_with fail
          (with_reducible refine (Op.out _ _ _ _ _ _ _ (by exact sx) (by exact sy)).mono ?_)
          rintro e w1 ⟨ao, lo, co, rfl, so, b1⟩
          replace U0 := U0.trans (b1.mono U0.size)
          replace Tx := Tx.below b1
          replace sx := sx.below b1
          replace Ty := Ty.below b1
          replace sy := sy.below b1
          replace cTx0 := Tx.cells.1
          replace cTx1 := Tx.cells.2
          replace zTx := Tx.lt
          replace cTy0 := Ty.cells.1
          replace cTy1 := Ty.cells.2
          replace zTy := Ty.lt
          clear b1
          go_wp2_with fail
          (with_reducible refine (got_any _ _ _ _ _ _).mono ?_)
          rintro e w2 ⟨rfl, b2⟩
          replace U0 := U0.trans (b2.mono U0.size)
          replace Tx := Tx.below b2
          replace sx := sx.below b2
          replace Ty := Ty.below b2
          replace sy := sy.below b2
          replace so := so.below b2
          replace cTx0 := Tx.cells.1
          replace cTx1 := Tx.cells.2
          replace zTx := Tx.lt
          replace cTy0 := Ty.cells.1
          replace cTy1 := Ty.cells.2
          replace zTy := Ty.lt
          clear b2
          go_wp2_with fail
          (with_reducible refine (Is.out _ _ _ _ (by exact so)).mono ?_)
          rintro e w3 ⟨rfl, b3⟩
          replace U0 := U0.trans (b3.mono U0.size)
          replace Tx := Tx.below b3
          replace sx := sx.below b3
          replace Ty := Ty.below b3
          replace sy := sy.below b3
          replace so := so.below b3
          replace cTx0 := Tx.cells.1
          replace cTx1 := Tx.cells.2
          replace zTx := Tx.lt
          replace cTy0 := Ty.cells.1
          replace cTy1 := Ty.cells.2
          replace zTy := Ty.lt
          clear b3
          go_wp2_with fail; go_meet; exact ⟨rfl, Tx, sx, Ty, sy, U0⟩
        · have hf := Bool.eq_false_iff.2 hq
          clear hq
          go_wp2_with fail; go_meet; exact ⟨rfl, Tx, sx, Ty, sy, U0⟩
      case rest =>
        obtain ⟨rfl, Tx, sx, Ty, sy, U0⟩ := hcut
        have cTx0 := Tx.cells.1
        have cTx1 := Tx.cells.2
        have zTx := Tx.lt
        have cTy0 := Ty.cells.1
        have cTy1 := Ty.cells.2
        have zTy := Ty.lt
        go_upto_region 20 with (fail)
        go_cut [113] (fun sl wx => sl = .bool false ∧ SmallCut w (w3.heap.size) (w3.heap.size + 1) nx ax lx cx xx ny ay ly cy xy wx)
        case first => as_aux_lemma =>
          by_cases q0 : (decide ((-2147483648 : Int) < x)) = true
          · by_cases q1 : (decide (x < 2147483648)) = true
            · by_cases q2 : (decide ((-2147483648 : Int) < y)) = true
              · by_cases q3 : (decide (y < 2147483648)) = true
                · obtain ⟨m, hm⟩ : ∃ m, x * y = m := ⟨_, rfl⟩
                  have hb := mul_small x y q0 q1 q2 q3
                  rw [hm] at hb
                  have hw : wrap64 (x * y) = m := by rw [hm]; unfold wrap64; omega
                  obtain ⟨no, xo, No⟩ := num_near m (by omega)
                  have Op := Lib.hid (fun ax la ca ay lb cb w h1 h2 => mulP NX.out NY.out No hm ax la ca ay lb cb w h1 h2)
                  have Is := Lib.hid (fun ax la ca w h => isP No (by omega) (by omega) ax la ca w h)
                  clear hb No hm
                  go_wp2_with fail
                  (with_reducible refine (Op.out _ _ _ _ _ _ _ (by exact sx) (by exact sy)).mono ?_)
                  rintro e w1 ⟨ao, lo, co, rfl, so, b1⟩
                  replace U0 := U0.trans (b1.mono U0.size)
                  replace Tx := Tx.below b1
                  replace sx := sx.below b1
                  replace Ty := Ty.below b1
                  replace sy := sy.below b1
                  replace cTx0 := Tx.cells.1
                  replace cTx1 := Tx.cells.2
                  replace zTx := Tx.lt
                  replace cTy0 := Ty.cells.1
                  replace cTy1 := Ty.cells.2
                  replace zTy := Ty.lt
                  clear b1
                  go_wp2_with fail
                  (with_reducible refine (got_any _ _ _ _ _ _).mono ?_)
                  rintro e w2 ⟨rfl, b2⟩
                  replace U0 := U0.trans (b2.mono U0.size)
                  replace Tx := Tx.below b2
                  replace sx := sx.below b2
                  replace Ty := Ty.below b2
                  replace sy := sy.below b2
                  replace so := so.below b2
                  replace cTx0 := Tx.cells.1
                  replace cTx1 := Tx.cells.2
                  replace zTx := Tx.lt
                  replace cTy0 := Ty.cells.1
                  replace cTy1 := Ty.cells.2
                  replace zTy := Ty.lt
                  clear b2
                  go_wp2_with fail
                  (with_reducible refine (Is.out _ _ _ _ (by exact so)).mono ?_)
                  rintro e w3 ⟨rfl, b3⟩
                  replace U0 := U0.trans (b3.mono U0.size)
                  replace Tx := Tx.below b3
                  replace sx := sx.below b3
                  replace Ty := Ty.below b3
                  replace sy := sy.below b3
                  replace so := so.below b3
                  replace cTx0 := Tx.cells.1
                  replace cTx1 := Tx.cells.2
                  replace zTx := Tx.lt
                  replace cTy0 := Ty.cells.1
                  replace cTy1 := Ty.cells.2
                  replace zTy := Ty.lt
                  clear b3
                  go_wp2_with fail; go_meet; exact ⟨rfl, Tx, sx, Ty, sy, U0⟩
                · replace q3 := Bool.eq_false_iff.2 q3
                  go_wp2_with fail; go_meet; exact ⟨rfl, Tx, sx, Ty, sy, U0⟩
              · replace q2 := Bool.eq_false_iff.2 q2
                go_wp2_with fail; go_meet; exact ⟨rfl, Tx, sx, Ty, sy, U0⟩
            · replace q1 := Bool.eq_false_iff.2 q1
              go_wp2_with fail; go_meet; exact ⟨rfl, Tx, sx, Ty, sy, U0⟩
          · replace q0 := Bool.eq_false_iff.2 q0
            go_wp2_with fail; go_meet; exact ⟨rfl, Tx, sx, Ty, sy, U0⟩
        case rest =>
          obtain ⟨rfl, Tx, sx, Ty, sy, U0⟩ := hcut
          have cTx0 := Tx.cells.1
          have cTx1 := Tx.cells.2
          have zTx := Tx.lt
          have cTy0 := Ty.cells.1
          have cTy1 := Ty.cells.2
          have zTy := Ty.lt
          obtain ⟨bad, hbad⟩ : ∃ bad, decide (y = 0 ∨ (x = -9223372036854775808 ∧ y = -1)) = bad := ⟨_, rfl⟩
          have HB := Lib.hid hbad
          clear hbad
          go_upto_region 22 with (fail)
          go_cut [123] (fun sl wx => sl = .bool bad ∧ SmallCut w (w3.heap.size) (w3.heap.size + 1) nx ax lx cx xx ny ay ly cy xy wx)
          case first => as_aux_lemma =>
            have hb := HB.out
            clear HB
            by_cases y0 : y = 0
            · have b1 : (y == 0) = true := by simp [y0]
              obtain rfl : true = bad := by rw [← hb]; simp [y0]
              clear hb y0
              go_wp2_with fail; go_meet; exact ⟨rfl, Tx, sx, Ty, sy, U0⟩
            · have b1 : (y == 0) = false := by simp [y0]
              by_cases xm : x = -9223372036854775808
              · have b2 : (x == -9223372036854775808) = true := by simp [xm]
                by_cases ym : y = -1
                · have b3 : (y == -1) = true := by simp [ym]
                  obtain rfl : true = bad := by rw [← hb]; simp [xm, ym]
                  clear hb y0 xm ym
                  go_wp2_with fail; go_meet; exact ⟨rfl, Tx, sx, Ty, sy, U0⟩
                · have b3 : (y == -1) = false := by simp [ym]
                  obtain rfl : false = bad := by rw [← hb]; simp [y0, ym]
                  clear hb y0 xm ym
                  go_wp2_with fail; go_meet; exact ⟨rfl, Tx, sx, Ty, sy, U0⟩
              · have b2 : (x == -9223372036854775808) = false := by simp [xm]
                obtain rfl : false = bad := by rw [← hb]; simp [y0, xm]
                clear hb y0 xm
                go_wp2_with fail; go_meet; exact ⟨rfl, Tx, sx, Ty, sy, U0⟩
          case rest =>
            obtain ⟨rfl, Tx, sx, Ty, sy, U0⟩ := hcut
            have cTx0 := Tx.cells.1
            have cTx1 := Tx.cells.2
            have zTx := Tx.lt
            have cTy0 := Ty.cells.1
            have cTy1 := Ty.cells.2
            have zTy := Ty.lt
            cases bad
            case true => go_wp2; go_ret; exact ⟨rfl, U0⟩
            case false =>
              have hb : y ≠ 0 ∧ ¬ (x = -9223372036854775808 ∧ y = -1) := by have := HB.out; simp at this; exact ⟨this.1, fun h => this.2 h.1 h.2⟩
              clear HB
              have hy := hb.1
              have b1 : (y == 0) = false := by simp [hy]
              obtain ⟨tq, tr, hq, hr, q0, q1, r0, q2, k0, k1⟩ := quo_small x y HX.out.1 HX.out.2 hb.1 hb.2
              have HQ := Lib.hid hq; have HR := Lib.hid hr; have Q2 := Lib.hid q2; have K0 := Lib.hid k0; have K1 := Lib.hid k1; have R0 := Lib.hid r0; have HY0 := Lib.hid hy
              clear hq hr q2 k0 k1 r0 hb
              go_upto_region 24 with (fail)
              go_cut [11, 12] (fun sq sr wx => sq = .int .i64 tq ∧ sr = .int .i64 tr ∧ SmallCut w (w3.heap.size) (w3.heap.size + 1) nx ax lx cx xx ny ay ly cy xy wx)
              case first => as_aux_lemma =>
                go_region
                all_goals (go_wp2_with fail; go_meet; first | exact ⟨by rw [HQ.out], by rw [HR.out], Tx.drew, sx.drew, Ty.drew, sy.drew, U0.drew⟩ | exact ⟨by rw [HQ.out], by rw [HR.out], Tx, sx, Ty, sy, U0⟩)
              case rest =>
                obtain ⟨rfl, rfl, Tx, sx, Ty, sy, U0⟩ := hcut
                have cTx0 := Tx.cells.1
                have cTx1 := Tx.cells.2
                have zTx := Tx.lt
                have cTy0 := Ty.cells.1
                have cTy1 := Ty.cells.2
                have zTy := Ty.lt
                obtain ⟨C, hC⟩ : ∃ C, decide (tr ≠ 0 ∧ (decide (tr < 0) != decide (y < 0)) = true) = C := ⟨_, rfl⟩
                have HC := Lib.hid hC; clear hC
                go_upto_region 25 with (fail)
                go_cut [138] (fun sc wx => sc = .bool C ∧ SmallCut w (w3.heap.size) (w3.heap.size + 1) nx ax lx cx xx ny ay ly cy xy wx)
                case first => as_aux_lemma =>
                  have h1 := HC.out
                  clear HQ HR Q2 K0 K1 R0 HC
                  by_cases t0 : tr = 0
                  · have b0 : (tr != 0) = false := by simp [t0]
                    obtain rfl : false = C := by rw [← h1]; simp [t0]
                    clear h1 t0
                    go_wp2_with fail; go_meet; exact ⟨rfl, Tx, sx, Ty, sy, U0⟩
                  · have b0 : (tr != 0) = true := by simp [t0]
                    by_cases cc : (decide (tr < 0) != decide (y < 0)) = true
                    · obtain rfl : true = C := by rw [← h1, cc]; simp [t0]
                      have CC := Lib.hid cc
                      clear h1 t0
                      go_wp2_with fail; go_meet; exact ⟨by first | rfl | exact congrArg Value.bool CC.out, Tx, sx, Ty, sy, U0⟩
                    · have cf := Bool.eq_false_iff.2 cc
                      obtain rfl : false = C := by rw [← h1, cf]; simp
                      have CF := Lib.hid cf
                      clear h1 t0 cc
                      go_wp2_with fail; go_meet; exact ⟨by first | rfl | exact congrArg Value.bool CF.out, Tx, sx, Ty, sy, U0⟩
                case rest =>
                  obtain ⟨rfl, Tx, sx, Ty, sy, U0⟩ := hcut
                  have cTx0 := Tx.cells.1
                  have cTx1 := Tx.cells.2
                  have zTx := Tx.lt
                  have cTy0 := Ty.cells.1
                  have cTy1 := Ty.cells.2
                  have zTy := Ty.lt
                  cases C
                  case false => as_aux_lemma =>
                    have ed := K0.out (by have := HC.out; simp at this; by_cases t0 : tr = 0
                                          · exact .inl t0
                                          · right; have := this t0; cases cc : (decide (tr < 0) != decide (y < 0)) <;> simp_all)
                    have eb : -9223372036854775808 ≤ tq ∧ tq ≤ 9223372036854775807 ∧ -9223372036854775808 ≤ tr ∧ tr ≤ 9223372036854775807 := by have := R0.out; have := HY.out; omega
                    clear HQ HR Q2 K0 K1 R0 HC
                    obtain ⟨nq, xq, Nq⟩ := num_near (tq) (by omega)
                    obtain ⟨nr, xr, Nr⟩ := num_near (tr) (by omega)
                    have Dv := Lib.hid (fun ax la ca ay lb cb w h1 h2 => divP NX.out NY.out Nq HY0.out ed.1 ax la ca ay lb cb w h1 h2)
                    have Md := Lib.hid (fun ax la ca ay lb cb w h1 h2 => modP NX.out NY.out Nr HY0.out ed.2 ax la ca ay lb cb w h1 h2)
                    have Iq := Lib.hid (fun ax la ca w h => isP Nq eb.1 eb.2.1 ax la ca w h)
                    have Ir := Lib.hid (fun ax la ca w h => isP Nr eb.2.2.1 eb.2.2.2 ax la ca w h)
                    clear Nq Nr ed
                    go_wp2_with fail
                    (with_reducible refine (Dv.out _ _ _ _ _ _ _ (by exact sx) (by exact sy)).mono ?_)
                    rintro e w1 ⟨aq, lq, cq, rfl, sq, b1⟩
                    replace U0 := U0.trans (b1.mono U0.size)
                    replace Tx := Tx.below b1
                    replace sx := sx.below b1
                    replace Ty := Ty.below b1
                    replace sy := sy.below b1
                    replace cTx0 := Tx.cells.1
                    replace cTx1 := Tx.cells.2
                    replace zTx := Tx.lt
                    replace cTy0 := Ty.cells.1
                    replace cTy1 := Ty.cells.2
                    replace zTy := Ty.lt
                    clear b1
                    go_wp2_with fail
                    (with_reducible refine (got_any _ _ _ _ _ _).mono ?_)
                    rintro e w2 ⟨rfl, b2⟩
                    replace U0 := U0.trans (b2.mono U0.size)
                    replace Tx := Tx.below b2
                    replace sx := sx.below b2
                    replace Ty := Ty.below b2
                    replace sy := sy.below b2
                    replace sq := sq.below b2
                    replace cTx0 := Tx.cells.1
                    replace cTx1 := Tx.cells.2
                    replace zTx := Tx.lt
                    replace cTy0 := Ty.cells.1
                    replace cTy1 := Ty.cells.2
                    replace zTy := Ty.lt
                    clear b2
                    go_wp2_with fail
                    (with_reducible refine (Iq.out _ _ _ _ (by exact sq)).mono ?_)
                    rintro e w3 ⟨rfl, b3⟩
                    replace U0 := U0.trans (b3.mono U0.size)
                    replace Tx := Tx.below b3
                    replace sx := sx.below b3
                    replace Ty := Ty.below b3
                    replace sy := sy.below b3
                    replace sq := sq.below b3
                    replace cTx0 := Tx.cells.1
                    replace cTx1 := Tx.cells.2
                    replace zTx := Tx.lt
                    replace cTy0 := Ty.cells.1
                    replace cTy1 := Ty.cells.2
                    replace zTy := Ty.lt
                    clear b3
                    go_wp2_with fail
                    (with_reducible refine (Md.out _ _ _ _ _ _ _ (by exact sx) (by exact sy)).mono ?_)
                    rintro e w4 ⟨ar, lr, cr, rfl, sr, b4⟩
                    replace U0 := U0.trans (b4.mono U0.size)
                    replace Tx := Tx.below b4
                    replace sx := sx.below b4
                    replace Ty := Ty.below b4
                    replace sy := sy.below b4
                    replace sq := sq.below b4
                    replace cTx0 := Tx.cells.1
                    replace cTx1 := Tx.cells.2
                    replace zTx := Tx.lt
                    replace cTy0 := Ty.cells.1
                    replace cTy1 := Ty.cells.2
                    replace zTy := Ty.lt
                    clear b4
                    go_wp2_with fail
                    (with_reducible refine (got_any _ _ _ _ _ _).mono ?_)
                    rintro e w5 ⟨rfl, b5⟩
                    replace U0 := U0.trans (b5.mono U0.size)
                    replace Tx := Tx.below b5
                    replace sx := sx.below b5
                    replace Ty := Ty.below b5
                    replace sy := sy.below b5
                    replace sq := sq.below b5
                    replace sr := sr.below b5
                    replace cTx0 := Tx.cells.1
                    replace cTx1 := Tx.cells.2
                    replace zTx := Tx.lt
                    replace cTy0 := Ty.cells.1
                    replace cTy1 := Ty.cells.2
                    replace zTy := Ty.lt
                    clear b5
                    go_wp2_with fail
                    (with_reducible refine (Ir.out _ _ _ _ (by exact sr)).mono ?_)
                    rintro e w6 ⟨rfl, b6⟩
                    replace U0 := U0.trans (b6.mono U0.size)
                    replace Tx := Tx.below b6
                    replace sx := sx.below b6
                    replace Ty := Ty.below b6
                    replace sy := sy.below b6
                    replace sq := sq.below b6
                    replace sr := sr.below b6
                    replace cTx0 := Tx.cells.1
                    replace cTx1 := Tx.cells.2
                    replace zTx := Tx.lt
                    replace cTy0 := Ty.cells.1
                    replace cTy1 := Ty.cells.2
                    replace zTy := Ty.lt
                    clear b6
                    go_wp2
                    go_ret
                    exact ⟨rfl, U0⟩
                  case true => as_aux_lemma =>
                    have hc : tr ≠ 0 ∧ (decide (tr < 0) != decide (y < 0)) = true := of_decide_eq_true HC.out
                    have ed := K1.out hc.1 hc.2
                    have eb : -9223372036854775808 ≤ tq - 1 ∧ tq - 1 ≤ 9223372036854775807 ∧ -9223372036854775808 ≤ tr + y ∧ tr + y ≤ 9223372036854775807 := by have h3 := R0.out; have h5 := HY.out; have h6 := Q2.out hc.1; have h7 := K1.out hc.1 hc.2; have h8 := hc.2; have h9 := hc.1; clear HQ HR K0 K1 HC hc h7; by_cases a1 : tr < 0 <;> by_cases a2 : y < 0 <;> simp [a1, a2] at h8 <;> omega
                    have w1_ : wrap64 (tq - 1) = tq - 1 := by unfold wrap64; omega
                    have w2_ : wrap64 (tr + y) = tr + y := by unfold wrap64; omega
                    clear HQ HR Q2 K0 K1 R0 HC hc
                    obtain ⟨nq, xq, Nq⟩ := num_near (tq - 1) (by omega)
                    obtain ⟨nr, xr, Nr⟩ := num_near (tr + y) (by omega)
                    have Dv := Lib.hid (fun ax la ca ay lb cb w h1 h2 => divP NX.out NY.out Nq HY0.out ed.1 ax la ca ay lb cb w h1 h2)
                    have Md := Lib.hid (fun ax la ca ay lb cb w h1 h2 => modP NX.out NY.out Nr HY0.out ed.2 ax la ca ay lb cb w h1 h2)
                    have Iq := Lib.hid (fun ax la ca w h => isP Nq eb.1 eb.2.1 ax la ca w h)
                    have Ir := Lib.hid (fun ax la ca w h => isP Nr eb.2.2.1 eb.2.2.2 ax la ca w h)
                    clear Nq Nr ed
                    go_wp2_with fail
                    (with_reducible refine (Dv.out _ _ _ _ _ _ _ (by exact sx) (by exact sy)).mono ?_)
                    rintro e w1 ⟨aq, lq, cq, rfl, sq, b1⟩
                    replace U0 := U0.trans (b1.mono U0.size)
                    replace Tx := Tx.below b1
                    replace sx := sx.below b1
                    replace Ty := Ty.below b1
                    replace sy := sy.below b1
                    replace cTx0 := Tx.cells.1
                    replace cTx1 := Tx.cells.2
                    replace zTx := Tx.lt
                    replace cTy0 := Ty.cells.1
                    replace cTy1 := Ty.cells.2
                    replace zTy := Ty.lt
                    clear b1
                    go_wp2_with fail
                    (with_reducible refine (got_any _ _ _ _ _ _).mono ?_)
                    rintro e w2 ⟨rfl, b2⟩
                    replace U0 := U0.trans (b2.mono U0.size)
                    replace Tx := Tx.below b2
                    replace sx := sx.below b2
                    replace Ty := Ty.below b2
                    replace sy := sy.below b2
                    replace sq := sq.below b2
                    replace cTx0 := Tx.cells.1
                    replace cTx1 := Tx.cells.2
                    replace zTx := Tx.lt
                    replace cTy0 := Ty.cells.1
                    replace cTy1 := Ty.cells.2
                    replace zTy := Ty.lt
                    clear b2
                    go_wp2_with fail
                    (with_reducible refine (Iq.out _ _ _ _ (by exact sq)).mono ?_)
                    rintro e w3 ⟨rfl, b3⟩
                    replace U0 := U0.trans (b3.mono U0.size)
                    replace Tx := Tx.below b3
                    replace sx := sx.below b3
                    replace Ty := Ty.below b3
                    replace sy := sy.below b3
                    replace sq := sq.below b3
                    replace cTx0 := Tx.cells.1
                    replace cTx1 := Tx.cells.2
                    replace zTx := Tx.lt
                    replace cTy0 := Ty.cells.1
                    replace cTy1 := Ty.cells.2
                    replace zTy := Ty.lt
                    clear b3
                    go_wp2_with fail
                    (with_reducible refine (Md.out _ _ _ _ _ _ _ (by exact sx) (by exact sy)).mono ?_)
                    rintro e w4 ⟨ar, lr, cr, rfl, sr, b4⟩
                    replace U0 := U0.trans (b4.mono U0.size)
                    replace Tx := Tx.below b4
                    replace sx := sx.below b4
                    replace Ty := Ty.below b4
                    replace sy := sy.below b4
                    replace sq := sq.below b4
                    replace cTx0 := Tx.cells.1
                    replace cTx1 := Tx.cells.2
                    replace zTx := Tx.lt
                    replace cTy0 := Ty.cells.1
                    replace cTy1 := Ty.cells.2
                    replace zTy := Ty.lt
                    clear b4
                    go_wp2_with fail
                    (with_reducible refine (got_any _ _ _ _ _ _).mono ?_)
                    rintro e w5 ⟨rfl, b5⟩
                    replace U0 := U0.trans (b5.mono U0.size)
                    replace Tx := Tx.below b5
                    replace sx := sx.below b5
                    replace Ty := Ty.below b5
                    replace sy := sy.below b5
                    replace sq := sq.below b5
                    replace sr := sr.below b5
                    replace cTx0 := Tx.cells.1
                    replace cTx1 := Tx.cells.2
                    replace zTx := Tx.lt
                    replace cTy0 := Ty.cells.1
                    replace cTy1 := Ty.cells.2
                    replace zTy := Ty.lt
                    clear b5
                    go_wp2_with fail
                    (with_reducible refine (Ir.out _ _ _ _ (by exact sr)).mono ?_)
                    rintro e w6 ⟨rfl, b6⟩
                    replace U0 := U0.trans (b6.mono U0.size)
                    replace Tx := Tx.below b6
                    replace sx := sx.below b6
                    replace Ty := Ty.below b6
                    replace sy := sy.below b6
                    replace sq := sq.below b6
                    replace sr := sr.below b6
                    replace cTx0 := Tx.cells.1
                    replace cTx1 := Tx.cells.2
                    replace zTx := Tx.lt
                    replace cTy0 := Ty.cells.1
                    replace cTy1 := Ty.cells.2
                    replace zTy := Ty.lt
                    clear b6
                    go_wp2
                    go_ret
                    exact ⟨rfl, U0⟩

theorem wf_i64 {z : Int} (h : (Lit.int .i64 z).wf = true) : -9223372036854775808 ≤ z ∧ z ≤ 9223372036854775807 := by
  simp only [Lit.wf, IntKind.min, IntKind.max, IntKind.signed, IntKind.bits, Bool.and_eq_true, decide_eq_true_eq, if_true] at h
  omega
theorem numSmall_wf (x y : Int) (w : World) (ht : Tab w) (hx : (Lit.int .i64 x).wf = true) (hy : (Lit.int .i64 y).wf = true) : Calls Tryz.prog 14 #[.int .i64 x, .int .i64 y] w (RetBool true w) :=
  numSmall_any x y w ht (wf_i64 hx).1 (wf_i64 hx).2 (wf_i64 hy).1 (wf_i64 hy).2
end Go.Proofs.YtcmocjfnmfiieaaGreatDoor

/- NumSmall: for every input the law answers true, and each argument reads afterwards as it read before. Condition: the table of the powers of ten lies as the program's text lays it (tied by the card). -/
namespace Go.Proofs.YtcmocjfnmfiieaaGreatDoor.lawNumSmall
open Go.ChangeShapes Go.WideShapes Go.ChangeAt Go.RowKit

theorem door_met (os : Os) (args : Array Value) : laidMetH Tryz.prog Rows.numSmallRow.laid ((World.doorLaid Tryz.prog 24 os).forCall (fun _ _ => 0) ⟨#[], args, []⟩).memory :=
  laidMetH_of_parts3 (fuel := 8) (laidMet_of_run' 8 (by kernel_rfl) (by kernel_rfl)) (by kernel_rfl) (by kernel_rfl)

set_option maxRecDepth 100000 in
theorem lifted (os : Os) (started : os.Started) (H : Type) (enc : TypeId × Value → H) :
    ReturnsInHanded {} Tryz.checked os 14 .any (fun w args => (Rows.numSmallSpec.pre enc Tryz.prog Tryz.f14 [] false w args ∧ laidMetH Tryz.prog Rows.numSmallRow.laid w) ∧ sizedMet enc Tryz.prog Tryz.f14 (OpenSpec.ofChange Rows.numSmallSpec) false w args)
      (Rows.numSmallSpec.post enc Tryz.prog Tryz.f14 false true false false) := by
  refine returnsInHanded_of_change_and (C := Tryz.checked) (X := fun w _ => laidMetH Tryz.prog Rows.numSmallRow.laid w) (fun _ _ _ hh h => h.of_heap hh) lift_own started (by kernel_rfl) Tryz.func14
    (ChangeSpec.witness_shaped (enc := enc) (C := Tryz.checked) (os := os) (X := fun w _ => laidMetH Tryz.prog Rows.numSmallRow.laid w) false (World.doorLaid Tryz.prog 24 os) #[.int .i64 0, .int .i64 0] 8 rfl (World.shaped_of_RefB (by kernel_rfl) (by kernel_rfl)) (by kernel_rfl) (by kernel_rfl) (by kernel_rfl) (door_met os _)) ?_
  intro W base args ds gs before hval0 hW _ _ hL _
  have hval : ∀ (j : Nat) t v, Tryz.f14.params[j]? = some t → args[j]? = some v → Value.okWide Tryz.prog W .any base t v := hval0
  have hW' := hW
  obtain ⟨p, q, hA0, hV, rfl, hfz, hnd⟩ := hW
  have hA : DataW.TrodAll enc Tryz.prog W 0 (fun _ => true) true Tryz.f14.params.toList args.toList ds p := hA0
  rw [Tryz.params14] at hA hval
  clear hA0 hval0
  obtain ⟨v0, vs0, d0, ds0, p0, q0, hargs, rfl, rfl, h0, r0⟩ := trodAll_cons hA
  obtain ⟨v1, vs1, d1, ds1, p1, q1, rfl, rfl, rfl, h1, r1⟩ := trodAll_cons r0
  obtain ⟨rfl, rfl, rfl⟩ := trodAll_nil r1
  obtain rfl : args = #[v0, v1] := by cases args; simp_all
  obtain ⟨rfl, rfl⟩ := trodVars_none hV
  obtain ⟨a0, rfl, rfl, rfl, w0⟩ := open_int Tryz.underlying3 (hval 0 3 v0 rfl rfl) h0
  obtain ⟨a1, rfl, rfl, rfl, w1⟩ := open_int Tryz.underlying3 (hval 1 3 v1 rfl rfl) h1
  simp only [List.append_nil] at hW'
  refine (numSmall_wf a0 a1 W (lift_tab hL) w0 w1).mono fun e W' ⟨he, hg⟩ => ?_
  subst he
  exact ⟨_, rfl, post_of_below (pv := []) hW' (fun _ _ _ => (trodAll_cons_mk (shut_bool Tryz.underlying4 _) trodAll_mk0)) (fun sp hsp => (trodAll_cons_mk (shut_int Tryz.underlying3 w0) (trodAll_cons_mk (shut_int Tryz.underlying3 w1) trodAll_mk0))) (fun _ _ => rfl) (by simp)
    hg (ok_one (by kernel_rfl) rfl (okWide_bool_mk Tryz.underlying4 _))⟩

theorem over : Rows.numSmallRow.holds Tryz.pinned (OpenSpec.ofChange Rows.numSmallSpec) :=
  OpenClaim.holds_of_wide 14 Tryz.f14 rfl rfl rfl rfl rfl rfl rfl ⟨rfl, rfl, rfl, rfl, rfl⟩ rfl rfl rfl rfl rfl (by kernel_rfl) Tryz.func14 (by kernel_rfl)
    (of_decide_eq_true (by kernel_rfl)) (by unfold Func.isWrapper; first | (rw [if_pos (by decide +kernel)]; kernel_rfl) | (rw [if_neg (by decide +kernel)]; exact ⟨rfl, rfl⟩))
    (fun os started H enc _ => lifted os started H enc)

theorem plain (f : FuncId) (fn : Func) (hf : Tryz.pinned.checked.prog.funcNamed "foregone/foregonelaw01.NumSmall" = some f) (hfn : Tryz.pinned.checked.prog.funcs[f]? = some fn) :
    false = Tryz.pinned.checked.prog.looks [] ∧ ∀ (j : Nat) t, fn.params[j]? = some t → Tryz.pinned.checked.prog.wantsStandIn t = false := by
  obtain rfl : f = 14 := Option.some.inj ((show Tryz.prog.funcNamed "foregone/foregonelaw01.NumSmall" = some 14 by kernel_rfl).symm.trans hf) |>.symm
  obtain rfl : fn = Tryz.f14 := (Option.some.inj (Tryz.func14.symm.trans hfn)).symm
  refine ⟨by kernel_rfl, fun j t ht => ?_⟩
  rw [Tryz.params14] at ht
  have hm : t ∈ [3] := by simpa using Array.mem_of_getElem? ht
  have hall : ([3].all fun u => !Tryz.prog.wantsStandIn u) = true := by kernel_rfl
  exact (show Tryz.prog.wantsStandIn t = false by simpa using List.all_eq_true.1 hall t hm)

theorem card : Rows.NumSmallCardSaid :=
  Claim7.holds_tied_plain_at .later [] _ _ _ _ over (fun _ h => by cases h) (by kernel_rfl) (fun _ h => by cases h) numSmall_row_tie rfl ⟨rfl, rfl⟩ (by kernel_rfl) rfl plain (by kernel_rfl)
end Go.Proofs.YtcmocjfnmfiieaaGreatDoor.lawNumSmall

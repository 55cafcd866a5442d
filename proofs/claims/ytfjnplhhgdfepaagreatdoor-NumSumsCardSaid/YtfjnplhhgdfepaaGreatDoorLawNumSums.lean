/- NumSums: for every input the law answers true, and each argument reads afterwards as it read before. Condition: the table of the powers of ten lies as the program's text lays it (tied by the card). -/
import Derived.Deep.DeepCutAuto
import Derived.Test.YtfjnplhhgdfepaaGreatDoorLawNumSumsH
set_option linter.all false

/- The walk of NumSums. -/
namespace Go.Proofs.YtfjnplhhgdfepaaGreatDoor
open Go.RowKit

theorem fewPair (n1 : Bool) (a1 : Option Addr) (l1 c1 : Nat) (n2 : Bool) (a2 : Option Addr) (l2 c2 : Nat) (w : World) (g : Nat) (hg : w.heap[g]? = some (.cells #[.bool n1, .slice a1 l1 c1, .bool n2, .slice a2 l2 c2] 24 (0, 0))) (r : Bool) (hr : (!(decide (100 < l1) || decide (100 < l2))) = r) :
    Calls Tryz.prog 17 #[.slice (some ⟨g, 0, none⟩) 2 2] w (RetBool r w) := by
  have := few_any g [⟨n1, a1, l1, c1, []⟩, ⟨n2, a2, l2, c2, []⟩] w hg (by simp)
  rw [show (List.any [(⟨n1, a1, l1, c1, []⟩ : Dat), ⟨n2, a2, l2, c2, []⟩] fun d => decide (100 < d.len)) = (decide (100 < l1) || decide (100 < l2)) by simp, hr] at this
  exact this

set_option maxRecDepth 100000 in
set_option maxHeartbeats 32000000 in
theorem sums_long (na : Bool) (aa : Option Addr) (la ca : Nat) (xa : List Int) (nb : Bool) (ab : Option Addr) (lb cb : Nat) (xb : List Int) (w : World) (ht : Tab w) (sa : Sl w aa la ca xa) (sb : Sl w ab lb cb xb) (hr : (!(decide (100 < la) || decide (100 < lb))) = false) : Calls Tryz.prog 5 #[.agg #[.bool na, .slice aa la ca], .agg #[.bool nb, .slice ab lb cb]] w (RetBool true w) := by
  have Hf := Lib.hid (fun w g hg => fewPair na aa la ca nb ab lb cb w g hg false hr)
  clear hr
  go_enter Tryz.func5, Tryz.ntmps5
  have U0 := Below.refl w.heap.size w
  go_wp2_with fail
  replace U0 := U0.alloc U0.size (.cells #[.bool na, .slice aa la ca] 24)
  replace ht := ht.alloc (.cells #[.bool na, .slice aa la ca] 24)
  replace sa := sa.alloc (.cells #[.bool na, .slice aa la ca] 24)
  replace sb := sb.alloc (.cells #[.bool na, .slice aa la ca] 24)
  have Ta := BoxI.new w (w.heap.size) (by first | rfl | simp) na aa la ca
  have cTa0 := Ta.cells.1
  have cTa1 := Ta.cells.2
  have zTa := Ta.lt
  replace U0 := U0.alloc U0.size (.cells #[.bool nb, .slice ab lb cb] 24)
  replace ht := ht.alloc (.cells #[.bool nb, .slice ab lb cb] 24)
  replace sa := sa.alloc (.cells #[.bool nb, .slice ab lb cb] 24)
  replace sb := sb.alloc (.cells #[.bool nb, .slice ab lb cb] 24)
  replace Ta := Ta.alloc (.cells #[.bool nb, .slice ab lb cb] 24)
  replace cTa0 := Ta.cells.1
  replace cTa1 := Ta.cells.2
  replace zTa := Ta.lt
  have Tb := BoxI.new (w.alloc (.cells #[.bool na, .slice aa la ca] 24)) (w.heap.size + 1) (by first | rfl | simp) nb ab lb cb
  have cTb0 := Tb.cells.1
  have cTb1 := Tb.cells.2
  have zTb := Tb.lt
  (with_reducible refine (sane_any _ (by exact ht)).mono ?_)
  rintro e w1 ⟨rfl, b1⟩
  replace U0 := U0.trans (b1.mono U0.size)
  replace ht := ht.below b1
  replace sa := sa.below b1
  replace sb := sb.below b1
  replace Ta := Ta.below b1
  replace Tb := Tb.below b1
  replace cTa0 := Ta.cells.1
  replace cTa1 := Ta.cells.2
  replace zTa := Ta.lt
  replace cTb0 := Tb.cells.1
  replace cTb1 := Tb.cells.2
  replace zTb := Tb.lt
  clear b1
  clear ht
  go_wp2_with fail
  replace U0 := U0.alloc U0.size (.cells #[.bool na, .slice aa la ca, .bool nb, .slice ab lb cb] 24)
  replace sa := sa.alloc (.cells #[.bool na, .slice aa la ca, .bool nb, .slice ab lb cb] 24)
  replace sb := sb.alloc (.cells #[.bool na, .slice aa la ca, .bool nb, .slice ab lb cb] 24)
  replace Ta := Ta.alloc (.cells #[.bool na, .slice aa la ca, .bool nb, .slice ab lb cb] 24)
  replace Tb := Tb.alloc (.cells #[.bool na, .slice aa la ca, .bool nb, .slice ab lb cb] 24)
  replace cTa0 := Ta.cells.1
  replace cTa1 := Ta.cells.2
  replace zTa := Ta.lt
  replace cTb0 := Tb.cells.1
  replace cTb1 := Tb.cells.2
  replace zTb := Tb.lt
  (with_reducible refine (Hf.out _ _ (heap_new _ _)).mono ?_)
  rintro e w2 ⟨rfl, b2⟩
  replace U0 := U0.trans (b2.mono U0.size)
  replace sa := sa.below b2
  replace sb := sb.below b2
  replace Ta := Ta.below b2
  replace Tb := Tb.below b2
  replace cTa0 := Ta.cells.1
  replace cTa1 := Ta.cells.2
  replace zTa := Ta.lt
  replace cTb0 := Tb.cells.1
  replace cTb1 := Tb.cells.2
  replace zTb := Tb.lt
  clear b2
  go_wp2
  go_ret
  exact ⟨rfl, U0⟩

/-- What the operations of the law's last statement yield. -/
def sumsQ (na : Bool) (aa : Option Addr) (la ca : Nat) (nb : Bool) (ab : Option Addr) (lb cb : Nat) (n0 : Bool) (z0 : List Int) (e0 : Int) (n1 : Bool) (z1 : List Int) (e1 : Int) (n2 : Bool) (z2 : List Int) (e2 : Int) (n3 : Bool) (z3 : List Int) (e3 : Int) (n4 : Bool) (z4 : List Int) (e4 : Int) (n5 : Bool) (z5 : List Int) (e5 : Int) (n6 : Bool) (z6 : List Int) (e6 : Int) : List (World → Value → Prop) :=
  [fun _ u => u = .agg #[.bool na, .slice aa la ca],
   fun w u => HasT w u (n0) (z0) (e0),
   fun w u => HasI w u (n0) (z0),
   fun _ u => u = .int .i64 e0,
   fun w u => HasP w u (n0) (z0) (e0),
   fun _ u => u = .agg #[.bool na, .slice aa la ca],
   fun w u => HasT w u (n0) (z0) (e0),
   fun w u => HasI w u (n0) (z0),
   fun _ u => u = .int .i64 e0,
   fun w u => HasP w u (n0) (z0) (e0),
   fun _ u => u = .bool true,
   fun _ u => u = .bool true,
   fun _ u => u = .agg #[.bool na, .slice aa la ca],
   fun _ u => u = .agg #[.bool nb, .slice ab lb cb],
   fun w u => HasT w u (n1) (z1) (e1),
   fun w u => HasI w u (n1) (z1),
   fun _ u => u = .int .i64 e1,
   fun w u => HasP w u (n1) (z1) (e1),
   fun _ u => u = .agg #[.bool na, .slice aa la ca],
   fun _ u => u = .agg #[.bool nb, .slice ab lb cb],
   fun w u => HasT w u (n1) (z1) (e1),
   fun w u => HasI w u (n1) (z1),
   fun _ u => u = .int .i64 e1,
   fun w u => HasP w u (n1) (z1) (e1),
   fun _ u => u = .bool true,
   fun _ u => u = .bool true,
   fun _ u => u = .bool true,
   fun _ u => u = .agg #[.bool na, .slice aa la ca],
   fun _ u => u = .agg #[.bool nb, .slice ab lb cb],
   fun w u => HasT w u (n2) (z2) (e2),
   fun w u => HasI w u (n2) (z2),
   fun _ u => u = .int .i64 e2,
   fun w u => HasP w u (n2) (z2) (e2),
   fun _ u => u = .agg #[.bool na, .slice aa la ca],
   fun _ u => u = .agg #[.bool nb, .slice ab lb cb],
   fun w u => HasT w u (n2) (z2) (e2),
   fun w u => HasI w u (n2) (z2),
   fun _ u => u = .int .i64 e2,
   fun w u => HasP w u (n2) (z2) (e2),
   fun _ u => u = .bool true,
   fun _ u => u = .bool true,
   fun _ u => u = .bool true,
   fun _ u => u = .agg #[.bool na, .slice aa la ca],
   fun _ u => u = .agg #[.bool nb, .slice ab lb cb],
   fun w u => HasT w u (n3) (z3) (e3),
   fun w u => HasI w u (n3) (z3),
   fun _ u => u = .int .i64 e3,
   fun w u => HasP w u (n3) (z3) (e3),
   fun _ u => u = .agg #[.bool na, .slice aa la ca],
   fun _ u => u = .agg #[.bool nb, .slice ab lb cb],
   fun w u => HasT w u (n3) (z3) (e3),
   fun w u => HasI w u (n3) (z3),
   fun _ u => u = .int .i64 e3,
   fun w u => HasP w u (n3) (z3) (e3),
   fun _ u => u = .bool true,
   fun _ u => u = .bool true,
   fun _ u => u = .bool true,
   fun _ u => u = .agg #[.bool na, .slice aa la ca],
   fun _ u => u = .agg #[.bool nb, .slice ab lb cb],
   fun w u => HasT w u (n4) (z4) (e4),
   fun w u => HasI w u (n4) (z4),
   fun _ u => u = .int .i64 e4,
   fun w u => HasP w u (n4) (z4) (e4),
   fun _ u => u = .agg #[.bool na, .slice aa la ca],
   fun _ u => u = .agg #[.bool nb, .slice ab lb cb],
   fun w u => HasT w u (n4) (z4) (e4),
   fun w u => HasI w u (n4) (z4),
   fun _ u => u = .int .i64 e4,
   fun w u => HasP w u (n4) (z4) (e4),
   fun _ u => u = .bool true,
   fun _ u => u = .bool true,
   fun _ u => u = .bool true,
   fun _ u => u = .agg #[.bool na, .slice aa la ca],
   fun _ u => u = .agg #[.bool nb, .slice ab lb cb],
   fun w u => HasT w u (n5) (z5) (e5),
   fun w u => HasI w u (n5) (z5),
   fun _ u => u = .int .i64 e5,
   fun w u => HasP w u (n5) (z5) (e5),
   fun _ u => u = .agg #[.bool na, .slice aa la ca],
   fun _ u => u = .agg #[.bool nb, .slice ab lb cb],
   fun w u => HasT w u (n5) (z5) (e5),
   fun w u => HasI w u (n5) (z5),
   fun _ u => u = .int .i64 e5,
   fun w u => HasP w u (n5) (z5) (e5),
   fun _ u => u = .bool true,
   fun _ u => u = .bool true,
   fun _ u => u = .bool true,
   fun _ u => u = .agg #[.bool na, .slice aa la ca],
   fun _ u => u = .agg #[.bool nb, .slice ab lb cb],
   fun w u => HasT w u (n6) (z6) (e6),
   fun w u => HasI w u (n6) (z6),
   fun _ u => u = .int .i64 e6,
   fun w u => HasP w u (n6) (z6) (e6),
   fun _ u => u = .agg #[.bool na, .slice aa la ca],
   fun _ u => u = .agg #[.bool nb, .slice ab lb cb],
   fun w u => HasT w u (n6) (z6) (e6),
   fun w u => HasI w u (n6) (z6),
   fun _ u => u = .int .i64 e6,
   fun w u => HasP w u (n6) (z6) (e6),
   fun _ u => u = .bool true,
   fun _ u => u = .bool true,
   fun _ u => u = .bool true]
theorem sumsQ_mono (na : Bool) (aa : Option Addr) (la ca : Nat) (nb : Bool) (ab : Option Addr) (lb cb : Nat) (n0 : Bool) (z0 : List Int) (e0 : Int) (n1 : Bool) (z1 : List Int) (e1 : Int) (n2 : Bool) (z2 : List Int) (e2 : Int) (n3 : Bool) (z3 : List Int) (e3 : Int) (n4 : Bool) (z4 : List Int) (e4 : Int) (n5 : Bool) (z5 : List Int) (e5 : Int) (n6 : Bool) (z6 : List Int) (e6 : Int) : AllQ (sumsQ na aa la ca nb ab lb cb n0 z0 e0 n1 z1 e1 n2 z2 e2 n3 z3 e3 n4 z4 e4 n5 z5 e5 n6 z6 e6) :=
  ⟨Mono.is, Mono.tuple, Mono.int, Mono.is, Mono.pair, Mono.is, Mono.tuple, Mono.int, Mono.is, Mono.pair, Mono.is, Mono.is, Mono.is, Mono.is, Mono.tuple, Mono.int, Mono.is, Mono.pair, Mono.is, Mono.is, Mono.tuple, Mono.int, Mono.is, Mono.pair, Mono.is, Mono.is, Mono.is, Mono.is, Mono.is, Mono.tuple, Mono.int, Mono.is, Mono.pair, Mono.is, Mono.is, Mono.tuple, Mono.int, Mono.is, Mono.pair, Mono.is, Mono.is, Mono.is, Mono.is, Mono.is, Mono.tuple, Mono.int, Mono.is, Mono.pair, Mono.is, Mono.is, Mono.tuple, Mono.int, Mono.is, Mono.pair, Mono.is, Mono.is, Mono.is, Mono.is, Mono.is, Mono.tuple, Mono.int, Mono.is, Mono.pair, Mono.is, Mono.is, Mono.tuple, Mono.int, Mono.is, Mono.pair, Mono.is, Mono.is, Mono.is, Mono.is, Mono.is, Mono.tuple, Mono.int, Mono.is, Mono.pair, Mono.is, Mono.is, Mono.tuple, Mono.int, Mono.is, Mono.pair, Mono.is, Mono.is, Mono.is, Mono.is, Mono.is, Mono.tuple, Mono.int, Mono.is, Mono.pair, Mono.is, Mono.is, Mono.tuple, Mono.int, Mono.is, Mono.pair, Mono.is, Mono.is, Mono.is, trivial⟩
set_option maxRecDepth 100000 in
set_option maxHeartbeats 32000000 in
theorem sums_few (na : Bool) (aa : Option Addr) (la ca : Nat) (xa : List Int) (nb : Bool) (ab : Option Addr) (lb cb : Nat) (xb : List Int) (w : World) (ht : Tab w) (sa : Sl w aa la ca xa) (sb : Sl w ab lb cb xb) (hr : (!(decide (100 < la) || decide (100 < lb))) = true) : Calls Tryz.prog 5 #[.agg #[.bool na, .slice aa la ca], .agg #[.bool nb, .slice ab lb cb]] w (RetBool true w) := by
  have Hf := Lib.hid (fun w g hg => fewPair na aa la ca nb ab lb cb w g hg true hr)
  obtain ⟨v0, n0, z0, e0, N0, c0, d0⟩ := both_Neg na aa la ca xa
  have C0 := Lib.hid c0; have D0 := Lib.hid d0
  have S0 := Lib.hid (fun ax la ca ay lb cb w hx hy => pairSelfQ N0 e0 ax la ca ay lb cb w hx hy)
  obtain ⟨v1, n1, z1, e1, N1, c1, d1⟩ := both_Add na aa la ca xa nb ab lb cb xb
  have C1 := Lib.hid c1; have D1 := Lib.hid d1
  have S1 := Lib.hid (fun ax la ca ay lb cb w hx hy => pairSelfQ N1 e1 ax la ca ay lb cb w hx hy)
  obtain ⟨v2, n2, z2, e2, N2, c2, d2⟩ := both_Sub na aa la ca xa nb ab lb cb xb
  have C2 := Lib.hid c2; have D2 := Lib.hid d2
  have S2 := Lib.hid (fun ax la ca ay lb cb w hx hy => pairSelfQ N2 e2 ax la ca ay lb cb w hx hy)
  obtain ⟨v3, n3, z3, e3, N3, c3, d3⟩ := both_Mul na aa la ca xa nb ab lb cb xb
  have C3 := Lib.hid c3; have D3 := Lib.hid d3
  have S3 := Lib.hid (fun ax la ca ay lb cb w hx hy => pairSelfQ N3 e3 ax la ca ay lb cb w hx hy)
  obtain ⟨v4, n4, z4, e4, N4, c4, d4⟩ := both_Div na aa la ca xa nb ab lb cb xb
  have C4 := Lib.hid c4; have D4 := Lib.hid d4
  have S4 := Lib.hid (fun ax la ca ay lb cb w hx hy => pairSelfQ N4 e4 ax la ca ay lb cb w hx hy)
  obtain ⟨v5, n5, z5, e5, N5, c5, d5⟩ := both_Mod na aa la ca xa nb ab lb cb xb
  have C5 := Lib.hid c5; have D5 := Lib.hid d5
  have S5 := Lib.hid (fun ax la ca ay lb cb w hx hy => pairSelfQ N5 e5 ax la ca ay lb cb w hx hy)
  obtain ⟨v6, n6, z6, e6, N6, c6, d6⟩ := both_Pow na aa la ca xa nb ab lb cb xb
  have C6 := Lib.hid c6; have D6 := Lib.hid d6
  have S6 := Lib.hid (fun ax la ca ay lb cb w hx hy => pairSelfQ N6 e6 ax la ca ay lb cb w hx hy)
  clear hr c0 d0 N0 c1 d1 N1 c2 d2 N2 c3 d3 N3 c4 d4 N4 c5 d5 N5 c6 d6 N6
  go_enter Tryz.func5, Tryz.ntmps5
  have U0 := Below.refl w.heap.size w
  go_wp2_with fail
  replace U0 := U0.alloc U0.size (.cells #[.bool na, .slice aa la ca] 24)
  replace ht := ht.alloc (.cells #[.bool na, .slice aa la ca] 24)
  replace sa := sa.alloc (.cells #[.bool na, .slice aa la ca] 24)
  replace sb := sb.alloc (.cells #[.bool na, .slice aa la ca] 24)
  have Ta := BoxI.new w (w.heap.size) (by first | rfl | simp) na aa la ca
  have cTa0 := Ta.cells.1
  have cTa1 := Ta.cells.2
  have zTa := Ta.lt
  replace U0 := U0.alloc U0.size (.cells #[.bool nb, .slice ab lb cb] 24)
  replace ht := ht.alloc (.cells #[.bool nb, .slice ab lb cb] 24)
  replace sa := sa.alloc (.cells #[.bool nb, .slice ab lb cb] 24)
  replace sb := sb.alloc (.cells #[.bool nb, .slice ab lb cb] 24)
  replace Ta := Ta.alloc (.cells #[.bool nb, .slice ab lb cb] 24)
  replace cTa0 := Ta.cells.1
  replace cTa1 := Ta.cells.2
  replace zTa := Ta.lt
  have Tb := BoxI.new (w.alloc (.cells #[.bool na, .slice aa la ca] 24)) (w.heap.size + 1) (by first | rfl | simp) nb ab lb cb
  have cTb0 := Tb.cells.1
  have cTb1 := Tb.cells.2
  have zTb := Tb.lt
  (with_reducible refine (sane_any _ (by exact ht)).mono ?_)
  rintro e w1 ⟨rfl, b1⟩
  replace U0 := U0.trans (b1.mono U0.size)
  replace ht := ht.below b1
  replace sa := sa.below b1
  replace sb := sb.below b1
  replace Ta := Ta.below b1
  replace Tb := Tb.below b1
  replace cTa0 := Ta.cells.1
  replace cTa1 := Ta.cells.2
  replace zTa := Ta.lt
  replace cTb0 := Tb.cells.1
  replace cTb1 := Tb.cells.2
  replace zTb := Tb.lt
  clear b1
  clear ht
  go_wp2_with fail
  replace U0 := U0.alloc U0.size (.cells #[.bool na, .slice aa la ca, .bool nb, .slice ab lb cb] 24)
  replace sa := sa.alloc (.cells #[.bool na, .slice aa la ca, .bool nb, .slice ab lb cb] 24)
  replace sb := sb.alloc (.cells #[.bool na, .slice aa la ca, .bool nb, .slice ab lb cb] 24)
  replace Ta := Ta.alloc (.cells #[.bool na, .slice aa la ca, .bool nb, .slice ab lb cb] 24)
  replace Tb := Tb.alloc (.cells #[.bool na, .slice aa la ca, .bool nb, .slice ab lb cb] 24)
  replace cTa0 := Ta.cells.1
  replace cTa1 := Ta.cells.2
  replace zTa := Ta.lt
  replace cTb0 := Tb.cells.1
  replace cTb1 := Tb.cells.2
  replace zTb := Tb.lt
  (with_reducible refine (Hf.out _ _ (heap_new _ _)).mono ?_)
  rintro e w2 ⟨rfl, b2⟩
  replace U0 := U0.trans (b2.mono U0.size)
  replace sa := sa.below b2
  replace sb := sb.below b2
  replace Ta := Ta.below b2
  replace Tb := Tb.below b2
  replace cTa0 := Ta.cells.1
  replace cTa1 := Ta.cells.2
  replace zTa := Ta.lt
  replace cTb0 := Tb.cells.1
  replace cTb1 := Tb.cells.2
  replace zTb := Tb.lt
  clear b2
  go_upto_region 5 with (fail)
  clear cTa0 cTa1 zTa cTb0 cTb1 zTb
  have hM := sumsQ_mono na aa la ca nb ab lb cb n0 z0 e0 n1 z1 e1 n2 z2 e2 n3 z3 e3 n4 z4 e4 n5 z5 e5 n6 z6 e6
  refine region_kept 102 [some 12, some 13, some 14, some 15, some 16, some 17, some 18, some 19, some 20, some 21, some 22, some 23, some 24, some 25, some 26, some 27, some 28, some 29, some 30, some 31, some 32, some 33, some 34, some 35, some 36, some 37, some 38, some 39, some 40, some 41, some 42, some 43, some 44, some 45, some 46, some 47, some 48, some 49, some 50, some 51, some 52, some 53, some 54, some 55, some 56, some 57, some 58, some 59, some 60, some 61, some 62, some 63, some 64, some 65, some 66, some 67, some 68, some 69, some 70, some 71, some 72, some 73, some 74, some 75, some 76, some 77, some 78, some 79, some 80, some 81, some 82, some 83, some 84, some 85, some 86, some 87, some 88, some 89, some 90, some 91, some 92, some 93, some 94, some 95, some 96, some 97, some 98, some 99, some 100, some 101, some 102, some 103, some 104, some 105, some 106, some 107, some 108, some 109, some 110, some 111, some 112, some 4] (fun U => [U 0, U 1, U 2, U 3, U 4, U 5, U 6, U 7, U 8, U 9, U 10, U 11, U 12, U 13, U 14, U 15, U 16, U 17, U 18, U 19, U 20, U 21, U 22, U 23, U 24, U 25, U 26, U 27, U 28, U 29, U 30, U 31, U 32, U 33, U 34, U 35, U 36, U 37, U 38, U 39, U 40, U 41, U 42, U 43, U 44, U 45, U 46, U 47, U 48, U 49, U 50, U 51, U 52, U 53, U 54, U 55, U 56, U 57, U 58, U 59, U 60, U 61, U 62, U 63, U 64, U 65, U 66, U 67, U 68, U 69, U 70, U 71, U 72, U 73, U 74, U 75, U 76, U 77, U 78, U 79, U 80, U 81, U 82, U 83, U 84, U 85, U 86, U 87, U 88, U 89, U 90, U 91, U 92, U 93, U 94, U 95, U 96, U 97, U 98, U 99, U 100, U 101]) (Upto (w2) (sumsQ na aa la ca nb ab lb cb n0 z0 e0 n1 z1 e1 n2 z2 e2 n3 z3 e3 n4 z4 e4 n5 z5 e5 n6 z6 e6)) rfl rfl (fun _ => rfl) rfl (by kernel_rfl) (by kernel_rfl) (by kernel_rfl) (Upto.start _ _) ?step ?fin
  case step =>
    refine ⟨?_, ?_, ?_, ?_, ?_, ?_, ?_, ?_, ?_, ?_, ?_, ?_, ?_, ?_, ?_, ?_, ?_, ?_, ?_, ?_, ?_, ?_, ?_, ?_, ?_, ?_, ?_, ?_, ?_, ?_, ?_, ?_, ?_, ?_, ?_, ?_, ?_, ?_, ?_, ?_, ?_, ?_, ?_, ?_, ?_, ?_, ?_, ?_, ?_, ?_, ?_, ?_, ?_, ?_, ?_, ?_, ?_, ?_, ?_, ?_, ?_, ?_, ?_, ?_, ?_, ?_, ?_, ?_, ?_, ?_, ?_, ?_, ?_, ?_, ?_, ?_, ?_, ?_, ?_, ?_, ?_, ?_, ?_, ?_, ?_, ?_, ?_, ?_, ?_, ?_, ?_, ?_, ?_, ?_, ?_, ?_, ?_, ?_, ?_, ?_, ?_, ?_, trivial⟩
    · intro L U w' b hF hLi hmet hb ho K hK
      have U1 := hF.1
      have s2 : b.tmps.getD 2 undef = .pointer (some ⟨w.heap.size, 0, none⟩) := (ho 2 rfl).trans rfl
      have r2 := getD_r s2
      have t0_ := (Ta.below U1).cells.1
      have t1_ := (Ta.below U1).cells.2
      clear hb ho hmet
      rw [if_pos (by rfl)]
      go_simp
      exact hK.out (.agg #[.bool na, .slice aa la ca]) w' (hF.same hM 0 rfl rfl)
    · intro L U w' b hF hLi hmet hb ho K hK
      have U1 := hF.1
      have s12 := (hb 0 12 rfl).trans (hF.at 0 rfl (hmet.get rfl))
      have r12 := getD_r s12
      clear hb ho hmet
      rw [if_pos (by rfl)]
      go_simp
      go_at_call 42
      (with_reducible refine (C0.out _ (by exact (sa.below U1))).mono ?_)
      rintro e_ wq ⟨ra, rl, rc, rfl, rs, bq⟩
      exact hK.out (.tuple #[.agg #[.bool n0, .slice ra rl rc], .int .i64 e0]) wq (hF.next hM 1 rfl bq ⟨ra, rl, rc, rfl, rs⟩)
    · intro L U w' b hF hLi hmet hb ho K hK
      have U1 := hF.1
      obtain ⟨pa1, pl1, pc1, pe1, ps1⟩ := hF.at 1 rfl (hmet.get rfl)
      have s13 := (hb 1 13 rfl).trans pe1
      have r13 := getD_r s13
      clear hb ho hmet
      rw [if_pos (by rfl)]
      go_simp
      exact hK.out (.agg #[.bool n0, .slice pa1 pl1 pc1]) w' (hF.same hM 2 rfl ⟨_, _, _, rfl, ps1⟩)
    · intro L U w' b hF hLi hmet hb ho K hK
      have U1 := hF.1
      obtain ⟨pa1, pl1, pc1, pe1, ps1⟩ := hF.at 1 rfl (hmet.get rfl)
      have s13 := (hb 1 13 rfl).trans pe1
      have r13 := getD_r s13
      clear hb ho hmet
      rw [if_pos (by rfl)]
      go_simp
      exact hK.out (.int .i64 e0) w' (hF.same hM 3 rfl rfl)
    · intro L U w' b hF hLi hmet hb ho K hK
      have U1 := hF.1
      obtain ⟨pa2, pl2, pc2, pe2, ps2⟩ := hF.at 2 rfl (hmet.get rfl)
      have s14 := (hb 2 14 rfl).trans pe2
      have r14 := getD_r s14
      have s15 := (hb 3 15 rfl).trans (hF.at 3 rfl (hmet.get rfl))
      have r15 := getD_r s15
      clear hb ho hmet
      rw [if_pos (by rfl)]
      go_simp
      go_at_call 28
      (with_reducible refine (lawGotP (by exact ps2)).mono ?_)
      rintro e_ wq ⟨ra, rl, rc, rfl, rs, bq⟩
      exact hK.out (.agg #[.bool n0, .slice ra rl rc, .int .i64 e0]) wq (hF.next hM 4 rfl bq ⟨ra, rl, rc, rfl, rs⟩)
    · intro L U w' b hF hLi hmet hb ho K hK
      have U1 := hF.1
      have s2 : b.tmps.getD 2 undef = .pointer (some ⟨w.heap.size, 0, none⟩) := (ho 2 rfl).trans rfl
      have r2 := getD_r s2
      have t0_ := (Ta.below U1).cells.1
      have t1_ := (Ta.below U1).cells.2
      clear hb ho hmet
      rw [if_pos (by rfl)]
      go_simp
      exact hK.out (.agg #[.bool na, .slice aa la ca]) w' (hF.same hM 5 rfl rfl)
    · intro L U w' b hF hLi hmet hb ho K hK
      have U1 := hF.1
      have s17 := (hb 5 17 rfl).trans (hF.at 5 rfl (hmet.get rfl))
      have r17 := getD_r s17
      clear hb ho hmet
      rw [if_pos (by rfl)]
      go_simp
      go_at_call 43
      (with_reducible refine (D0.out _ (by exact (sa.below U1))).mono ?_)
      rintro e_ wq ⟨ra, rl, rc, rfl, rs, bq⟩
      exact hK.out (.tuple #[.agg #[.bool n0, .slice ra rl rc], .int .i64 e0]) wq (hF.next hM 6 rfl bq ⟨ra, rl, rc, rfl, rs⟩)
    · intro L U w' b hF hLi hmet hb ho K hK
      have U1 := hF.1
      obtain ⟨pa6, pl6, pc6, pe6, ps6⟩ := hF.at 6 rfl (hmet.get rfl)
      have s18 := (hb 6 18 rfl).trans pe6
      have r18 := getD_r s18
      clear hb ho hmet
      rw [if_pos (by rfl)]
      go_simp
      exact hK.out (.agg #[.bool n0, .slice pa6 pl6 pc6]) w' (hF.same hM 7 rfl ⟨_, _, _, rfl, ps6⟩)
    · intro L U w' b hF hLi hmet hb ho K hK
      have U1 := hF.1
      obtain ⟨pa6, pl6, pc6, pe6, ps6⟩ := hF.at 6 rfl (hmet.get rfl)
      have s18 := (hb 6 18 rfl).trans pe6
      have r18 := getD_r s18
      clear hb ho hmet
      rw [if_pos (by rfl)]
      go_simp
      exact hK.out (.int .i64 e0) w' (hF.same hM 8 rfl rfl)
    · intro L U w' b hF hLi hmet hb ho K hK
      have U1 := hF.1
      obtain ⟨pa7, pl7, pc7, pe7, ps7⟩ := hF.at 7 rfl (hmet.get rfl)
      have s19 := (hb 7 19 rfl).trans pe7
      have r19 := getD_r s19
      have s20 := (hb 8 20 rfl).trans (hF.at 8 rfl (hmet.get rfl))
      have r20 := getD_r s20
      clear hb ho hmet
      rw [if_pos (by rfl)]
      go_simp
      go_at_call 28
      (with_reducible refine (lawGotP (by exact ps7)).mono ?_)
      rintro e_ wq ⟨ra, rl, rc, rfl, rs, bq⟩
      exact hK.out (.agg #[.bool n0, .slice ra rl rc, .int .i64 e0]) wq (hF.next hM 9 rfl bq ⟨ra, rl, rc, rfl, rs⟩)
    · intro L U w' b hF hLi hmet hb ho K hK
      have U1 := hF.1
      obtain ⟨pa4, pl4, pc4, pe4, ps4⟩ := hF.at 4 rfl (hmet.get rfl)
      have s16 := (hb 4 16 rfl).trans pe4
      have r16 := getD_r s16
      obtain ⟨pa9, pl9, pc9, pe9, ps9⟩ := hF.at 9 rfl (hmet.get rfl)
      have s21 := (hb 9 21 rfl).trans pe9
      have r21 := getD_r s21
      clear hb ho hmet
      rw [if_pos (by rfl)]
      go_simp
      go_at_call 27
      (with_reducible refine (S0.out _ _ _ _ _ _ _ (by exact ps4) (by exact ps9)).mono ?_)
      rintro e_ wq ⟨rfl, bq⟩
      exact hK.out (.bool true) wq (hF.next hM 10 rfl bq rfl)
    · intro L U w' b hF hLi hmet hb ho K hK
      have U1 := hF.1
      have s22 := (hb 10 22 rfl).trans (hF.at 10 rfl (hmet.get rfl))
      have r22 := getD_r s22
      clear hb ho hmet
      rw [if_pos (by rfl)]
      go_simp
      exact hK.out (.bool true) w' (hF.same hM 11 rfl rfl)
    · intro L U w' b hF hLi hmet hb ho K hK
      have U1 := hF.1
      have s23 := (hb 11 23 rfl).trans (hF.at 11 rfl (hmet.get rfl))
      have r23 := getD_r s23
      have s2 : b.tmps.getD 2 undef = .pointer (some ⟨w.heap.size, 0, none⟩) := (ho 2 rfl).trans rfl
      have r2 := getD_r s2
      have t0_ := (Ta.below U1).cells.1
      have t1_ := (Ta.below U1).cells.2
      clear hb ho hmet
      rw [if_pos (wants rfl rfl s23)]
      go_simp
      exact hK.out (.agg #[.bool na, .slice aa la ca]) w' (hF.same hM 12 rfl rfl)
    · intro L U w' b hF hLi hmet hb ho K hK
      have U1 := hF.1
      have s23 := (hb 11 23 rfl).trans (hF.at 11 rfl (hmet.get rfl))
      have r23 := getD_r s23
      have s3 : b.tmps.getD 3 undef = .pointer (some ⟨w.heap.size + 1, 0, none⟩) := (ho 3 rfl).trans rfl
      have r3 := getD_r s3
      have t0_ := (Tb.below U1).cells.1
      have t1_ := (Tb.below U1).cells.2
      clear hb ho hmet
      rw [if_pos (wants rfl rfl s23)]
      go_simp
      exact hK.out (.agg #[.bool nb, .slice ab lb cb]) w' (hF.same hM 13 rfl rfl)
    · intro L U w' b hF hLi hmet hb ho K hK
      have U1 := hF.1
      have s23 := (hb 11 23 rfl).trans (hF.at 11 rfl (hmet.get rfl))
      have r23 := getD_r s23
      have s24 := (hb 12 24 rfl).trans (hF.at 12 rfl (hmet.get rfl))
      have r24 := getD_r s24
      have s25 := (hb 13 25 rfl).trans (hF.at 13 rfl (hmet.get rfl))
      have r25 := getD_r s25
      clear hb ho hmet
      rw [if_pos (wants rfl rfl s23)]
      go_simp
      go_at_call 44
      (with_reducible refine (C1.out _ (by exact (sa.below U1)) (by exact (sb.below U1))).mono ?_)
      rintro e_ wq ⟨ra, rl, rc, rfl, rs, bq⟩
      exact hK.out (.tuple #[.agg #[.bool n1, .slice ra rl rc], .int .i64 e1]) wq (hF.next hM 14 rfl bq ⟨ra, rl, rc, rfl, rs⟩)
    · intro L U w' b hF hLi hmet hb ho K hK
      have U1 := hF.1
      have s23 := (hb 11 23 rfl).trans (hF.at 11 rfl (hmet.get rfl))
      have r23 := getD_r s23
      obtain ⟨pa14, pl14, pc14, pe14, ps14⟩ := hF.at 14 rfl (hmet.get rfl)
      have s26 := (hb 14 26 rfl).trans pe14
      have r26 := getD_r s26
      clear hb ho hmet
      rw [if_pos (wants rfl rfl s23)]
      go_simp
      exact hK.out (.agg #[.bool n1, .slice pa14 pl14 pc14]) w' (hF.same hM 15 rfl ⟨_, _, _, rfl, ps14⟩)
    · intro L U w' b hF hLi hmet hb ho K hK
      have U1 := hF.1
      have s23 := (hb 11 23 rfl).trans (hF.at 11 rfl (hmet.get rfl))
      have r23 := getD_r s23
      obtain ⟨pa14, pl14, pc14, pe14, ps14⟩ := hF.at 14 rfl (hmet.get rfl)
      have s26 := (hb 14 26 rfl).trans pe14
      have r26 := getD_r s26
      clear hb ho hmet
      rw [if_pos (wants rfl rfl s23)]
      go_simp
      exact hK.out (.int .i64 e1) w' (hF.same hM 16 rfl rfl)
    · intro L U w' b hF hLi hmet hb ho K hK
      have U1 := hF.1
      have s23 := (hb 11 23 rfl).trans (hF.at 11 rfl (hmet.get rfl))
      have r23 := getD_r s23
      obtain ⟨pa15, pl15, pc15, pe15, ps15⟩ := hF.at 15 rfl (hmet.get rfl)
      have s27 := (hb 15 27 rfl).trans pe15
      have r27 := getD_r s27
      have s28 := (hb 16 28 rfl).trans (hF.at 16 rfl (hmet.get rfl))
      have r28 := getD_r s28
      clear hb ho hmet
      rw [if_pos (wants rfl rfl s23)]
      go_simp
      go_at_call 28
      (with_reducible refine (lawGotP (by exact ps15)).mono ?_)
      rintro e_ wq ⟨ra, rl, rc, rfl, rs, bq⟩
      exact hK.out (.agg #[.bool n1, .slice ra rl rc, .int .i64 e1]) wq (hF.next hM 17 rfl bq ⟨ra, rl, rc, rfl, rs⟩)
    · intro L U w' b hF hLi hmet hb ho K hK
      have U1 := hF.1
      have s23 := (hb 11 23 rfl).trans (hF.at 11 rfl (hmet.get rfl))
      have r23 := getD_r s23
      have s2 : b.tmps.getD 2 undef = .pointer (some ⟨w.heap.size, 0, none⟩) := (ho 2 rfl).trans rfl
      have r2 := getD_r s2
      have t0_ := (Ta.below U1).cells.1
      have t1_ := (Ta.below U1).cells.2
      clear hb ho hmet
      rw [if_pos (wants rfl rfl s23)]
      go_simp
      exact hK.out (.agg #[.bool na, .slice aa la ca]) w' (hF.same hM 18 rfl rfl)
    · intro L U w' b hF hLi hmet hb ho K hK
      have U1 := hF.1
      have s23 := (hb 11 23 rfl).trans (hF.at 11 rfl (hmet.get rfl))
      have r23 := getD_r s23
      have s3 : b.tmps.getD 3 undef = .pointer (some ⟨w.heap.size + 1, 0, none⟩) := (ho 3 rfl).trans rfl
      have r3 := getD_r s3
      have t0_ := (Tb.below U1).cells.1
      have t1_ := (Tb.below U1).cells.2
      clear hb ho hmet
      rw [if_pos (wants rfl rfl s23)]
      go_simp
      exact hK.out (.agg #[.bool nb, .slice ab lb cb]) w' (hF.same hM 19 rfl rfl)
    · intro L U w' b hF hLi hmet hb ho K hK
      have U1 := hF.1
      have s23 := (hb 11 23 rfl).trans (hF.at 11 rfl (hmet.get rfl))
      have r23 := getD_r s23
      have s30 := (hb 18 30 rfl).trans (hF.at 18 rfl (hmet.get rfl))
      have r30 := getD_r s30
      have s31 := (hb 19 31 rfl).trans (hF.at 19 rfl (hmet.get rfl))
      have r31 := getD_r s31
      clear hb ho hmet
      rw [if_pos (wants rfl rfl s23)]
      go_simp
      go_at_call 45
      (with_reducible refine (D1.out _ (by exact (sa.below U1)) (by exact (sb.below U1))).mono ?_)
      rintro e_ wq ⟨ra, rl, rc, rfl, rs, bq⟩
      exact hK.out (.tuple #[.agg #[.bool n1, .slice ra rl rc], .int .i64 e1]) wq (hF.next hM 20 rfl bq ⟨ra, rl, rc, rfl, rs⟩)
    · intro L U w' b hF hLi hmet hb ho K hK
      have U1 := hF.1
      have s23 := (hb 11 23 rfl).trans (hF.at 11 rfl (hmet.get rfl))
      have r23 := getD_r s23
      obtain ⟨pa20, pl20, pc20, pe20, ps20⟩ := hF.at 20 rfl (hmet.get rfl)
      have s32 := (hb 20 32 rfl).trans pe20
      have r32 := getD_r s32
      clear hb ho hmet
      rw [if_pos (wants rfl rfl s23)]
      go_simp
      exact hK.out (.agg #[.bool n1, .slice pa20 pl20 pc20]) w' (hF.same hM 21 rfl ⟨_, _, _, rfl, ps20⟩)
    · intro L U w' b hF hLi hmet hb ho K hK
      have U1 := hF.1
      have s23 := (hb 11 23 rfl).trans (hF.at 11 rfl (hmet.get rfl))
      have r23 := getD_r s23
      obtain ⟨pa20, pl20, pc20, pe20, ps20⟩ := hF.at 20 rfl (hmet.get rfl)
      have s32 := (hb 20 32 rfl).trans pe20
      have r32 := getD_r s32
      clear hb ho hmet
      rw [if_pos (wants rfl rfl s23)]
      go_simp
      exact hK.out (.int .i64 e1) w' (hF.same hM 22 rfl rfl)
    · intro L U w' b hF hLi hmet hb ho K hK
      have U1 := hF.1
      have s23 := (hb 11 23 rfl).trans (hF.at 11 rfl (hmet.get rfl))
      have r23 := getD_r s23
      obtain ⟨pa21, pl21, pc21, pe21, ps21⟩ := hF.at 21 rfl (hmet.get rfl)
      have s33 := (hb 21 33 rfl).trans pe21
      have r33 := getD_r s33
      have s34 := (hb 22 34 rfl).trans (hF.at 22 rfl (hmet.get rfl))
      have r34 := getD_r s34
      clear hb ho hmet
      rw [if_pos (wants rfl rfl s23)]
      go_simp
      go_at_call 28
      (with_reducible refine (lawGotP (by exact ps21)).mono ?_)
      rintro e_ wq ⟨ra, rl, rc, rfl, rs, bq⟩
      exact hK.out (.agg #[.bool n1, .slice ra rl rc, .int .i64 e1]) wq (hF.next hM 23 rfl bq ⟨ra, rl, rc, rfl, rs⟩)
    · intro L U w' b hF hLi hmet hb ho K hK
      have U1 := hF.1
      have s23 := (hb 11 23 rfl).trans (hF.at 11 rfl (hmet.get rfl))
      have r23 := getD_r s23
      obtain ⟨pa17, pl17, pc17, pe17, ps17⟩ := hF.at 17 rfl (hmet.get rfl)
      have s29 := (hb 17 29 rfl).trans pe17
      have r29 := getD_r s29
      obtain ⟨pa23, pl23, pc23, pe23, ps23⟩ := hF.at 23 rfl (hmet.get rfl)
      have s35 := (hb 23 35 rfl).trans pe23
      have r35 := getD_r s35
      clear hb ho hmet
      rw [if_pos (wants rfl rfl s23)]
      go_simp
      go_at_call 27
      (with_reducible refine (S1.out _ _ _ _ _ _ _ (by exact ps17) (by exact ps23)).mono ?_)
      rintro e_ wq ⟨rfl, bq⟩
      exact hK.out (.bool true) wq (hF.next hM 24 rfl bq rfl)
    · intro L U w' b hF hLi hmet hb ho K hK
      have U1 := hF.1
      have s23 := (hb 11 23 rfl).trans (hF.at 11 rfl (hmet.get rfl))
      have r23 := getD_r s23
      have s36 := (hb 24 36 rfl).trans (hF.at 24 rfl (hmet.get rfl))
      have r36 := getD_r s36
      clear hb ho hmet
      rw [if_pos (by rfl)]
      go_simp
      exact hK.out (.bool true) w' (hF.same hM 25 rfl rfl)
    · intro L U w' b hF hLi hmet hb ho K hK
      have U1 := hF.1
      have s37 := (hb 25 37 rfl).trans (hF.at 25 rfl (hmet.get rfl))
      have r37 := getD_r s37
      clear hb ho hmet
      rw [if_pos (by rfl)]
      go_simp
      exact hK.out (.bool true) w' (hF.same hM 26 rfl rfl)
    · intro L U w' b hF hLi hmet hb ho K hK
      have U1 := hF.1
      have s38 := (hb 26 38 rfl).trans (hF.at 26 rfl (hmet.get rfl))
      have r38 := getD_r s38
      have s2 : b.tmps.getD 2 undef = .pointer (some ⟨w.heap.size, 0, none⟩) := (ho 2 rfl).trans rfl
      have r2 := getD_r s2
      have t0_ := (Ta.below U1).cells.1
      have t1_ := (Ta.below U1).cells.2
      clear hb ho hmet
      rw [if_pos (wants rfl rfl s38)]
      go_simp
      exact hK.out (.agg #[.bool na, .slice aa la ca]) w' (hF.same hM 27 rfl rfl)
    · intro L U w' b hF hLi hmet hb ho K hK
      have U1 := hF.1
      have s38 := (hb 26 38 rfl).trans (hF.at 26 rfl (hmet.get rfl))
      have r38 := getD_r s38
      have s3 : b.tmps.getD 3 undef = .pointer (some ⟨w.heap.size + 1, 0, none⟩) := (ho 3 rfl).trans rfl
      have r3 := getD_r s3
      have t0_ := (Tb.below U1).cells.1
      have t1_ := (Tb.below U1).cells.2
      clear hb ho hmet
      rw [if_pos (wants rfl rfl s38)]
      go_simp
      exact hK.out (.agg #[.bool nb, .slice ab lb cb]) w' (hF.same hM 28 rfl rfl)
    · intro L U w' b hF hLi hmet hb ho K hK
      have U1 := hF.1
      have s38 := (hb 26 38 rfl).trans (hF.at 26 rfl (hmet.get rfl))
      have r38 := getD_r s38
      have s39 := (hb 27 39 rfl).trans (hF.at 27 rfl (hmet.get rfl))
      have r39 := getD_r s39
      have s40 := (hb 28 40 rfl).trans (hF.at 28 rfl (hmet.get rfl))
      have r40 := getD_r s40
      clear hb ho hmet
      rw [if_pos (wants rfl rfl s38)]
      go_simp
      go_at_call 46
      (with_reducible refine (C2.out _ (by exact (sa.below U1)) (by exact (sb.below U1))).mono ?_)
      rintro e_ wq ⟨ra, rl, rc, rfl, rs, bq⟩
      exact hK.out (.tuple #[.agg #[.bool n2, .slice ra rl rc], .int .i64 e2]) wq (hF.next hM 29 rfl bq ⟨ra, rl, rc, rfl, rs⟩)
    · intro L U w' b hF hLi hmet hb ho K hK
      have U1 := hF.1
      have s38 := (hb 26 38 rfl).trans (hF.at 26 rfl (hmet.get rfl))
      have r38 := getD_r s38
      obtain ⟨pa29, pl29, pc29, pe29, ps29⟩ := hF.at 29 rfl (hmet.get rfl)
      have s41 := (hb 29 41 rfl).trans pe29
      have r41 := getD_r s41
      clear hb ho hmet
      rw [if_pos (wants rfl rfl s38)]
      go_simp
      exact hK.out (.agg #[.bool n2, .slice pa29 pl29 pc29]) w' (hF.same hM 30 rfl ⟨_, _, _, rfl, ps29⟩)
    · intro L U w' b hF hLi hmet hb ho K hK
      have U1 := hF.1
      have s38 := (hb 26 38 rfl).trans (hF.at 26 rfl (hmet.get rfl))
      have r38 := getD_r s38
      obtain ⟨pa29, pl29, pc29, pe29, ps29⟩ := hF.at 29 rfl (hmet.get rfl)
      have s41 := (hb 29 41 rfl).trans pe29
      have r41 := getD_r s41
      clear hb ho hmet
      rw [if_pos (wants rfl rfl s38)]
      go_simp
      exact hK.out (.int .i64 e2) w' (hF.same hM 31 rfl rfl)
    · intro L U w' b hF hLi hmet hb ho K hK
      have U1 := hF.1
      have s38 := (hb 26 38 rfl).trans (hF.at 26 rfl (hmet.get rfl))
      have r38 := getD_r s38
      obtain ⟨pa30, pl30, pc30, pe30, ps30⟩ := hF.at 30 rfl (hmet.get rfl)
      have s42 := (hb 30 42 rfl).trans pe30
      have r42 := getD_r s42
      have s43 := (hb 31 43 rfl).trans (hF.at 31 rfl (hmet.get rfl))
      have r43 := getD_r s43
      clear hb ho hmet
      rw [if_pos (wants rfl rfl s38)]
      go_simp
      go_at_call 28
      (with_reducible refine (lawGotP (by exact ps30)).mono ?_)
      rintro e_ wq ⟨ra, rl, rc, rfl, rs, bq⟩
      exact hK.out (.agg #[.bool n2, .slice ra rl rc, .int .i64 e2]) wq (hF.next hM 32 rfl bq ⟨ra, rl, rc, rfl, rs⟩)
    · intro L U w' b hF hLi hmet hb ho K hK
      have U1 := hF.1
      have s38 := (hb 26 38 rfl).trans (hF.at 26 rfl (hmet.get rfl))
      have r38 := getD_r s38
      have s2 : b.tmps.getD 2 undef = .pointer (some ⟨w.heap.size, 0, none⟩) := (ho 2 rfl).trans rfl
      have r2 := getD_r s2
      have t0_ := (Ta.below U1).cells.1
      have t1_ := (Ta.below U1).cells.2
      clear hb ho hmet
      rw [if_pos (wants rfl rfl s38)]
      go_simp
      exact hK.out (.agg #[.bool na, .slice aa la ca]) w' (hF.same hM 33 rfl rfl)
    · intro L U w' b hF hLi hmet hb ho K hK
      have U1 := hF.1
      have s38 := (hb 26 38 rfl).trans (hF.at 26 rfl (hmet.get rfl))
      have r38 := getD_r s38
      have s3 : b.tmps.getD 3 undef = .pointer (some ⟨w.heap.size + 1, 0, none⟩) := (ho 3 rfl).trans rfl
      have r3 := getD_r s3
      have t0_ := (Tb.below U1).cells.1
      have t1_ := (Tb.below U1).cells.2
      clear hb ho hmet
      rw [if_pos (wants rfl rfl s38)]
      go_simp
      exact hK.out (.agg #[.bool nb, .slice ab lb cb]) w' (hF.same hM 34 rfl rfl)
    · intro L U w' b hF hLi hmet hb ho K hK
      have U1 := hF.1
      have s38 := (hb 26 38 rfl).trans (hF.at 26 rfl (hmet.get rfl))
      have r38 := getD_r s38
      have s45 := (hb 33 45 rfl).trans (hF.at 33 rfl (hmet.get rfl))
      have r45 := getD_r s45
      have s46 := (hb 34 46 rfl).trans (hF.at 34 rfl (hmet.get rfl))
      have r46 := getD_r s46
      clear hb ho hmet
      rw [if_pos (wants rfl rfl s38)]
      go_simp
      go_at_call 47
      (with_reducible refine (D2.out _ (by exact (sa.below U1)) (by exact (sb.below U1))).mono ?_)
      rintro e_ wq ⟨ra, rl, rc, rfl, rs, bq⟩
      exact hK.out (.tuple #[.agg #[.bool n2, .slice ra rl rc], .int .i64 e2]) wq (hF.next hM 35 rfl bq ⟨ra, rl, rc, rfl, rs⟩)
    · intro L U w' b hF hLi hmet hb ho K hK
      have U1 := hF.1
      have s38 := (hb 26 38 rfl).trans (hF.at 26 rfl (hmet.get rfl))
      have r38 := getD_r s38
      obtain ⟨pa35, pl35, pc35, pe35, ps35⟩ := hF.at 35 rfl (hmet.get rfl)
      have s47 := (hb 35 47 rfl).trans pe35
      have r47 := getD_r s47
      clear hb ho hmet
      rw [if_pos (wants rfl rfl s38)]
      go_simp
      exact hK.out (.agg #[.bool n2, .slice pa35 pl35 pc35]) w' (hF.same hM 36 rfl ⟨_, _, _, rfl, ps35⟩)
    · intro L U w' b hF hLi hmet hb ho K hK
      have U1 := hF.1
      have s38 := (hb 26 38 rfl).trans (hF.at 26 rfl (hmet.get rfl))
      have r38 := getD_r s38
      obtain ⟨pa35, pl35, pc35, pe35, ps35⟩ := hF.at 35 rfl (hmet.get rfl)
      have s47 := (hb 35 47 rfl).trans pe35
      have r47 := getD_r s47
      clear hb ho hmet
      rw [if_pos (wants rfl rfl s38)]
      go_simp
      exact hK.out (.int .i64 e2) w' (hF.same hM 37 rfl rfl)
    · intro L U w' b hF hLi hmet hb ho K hK
      have U1 := hF.1
      have s38 := (hb 26 38 rfl).trans (hF.at 26 rfl (hmet.get rfl))
      have r38 := getD_r s38
      obtain ⟨pa36, pl36, pc36, pe36, ps36⟩ := hF.at 36 rfl (hmet.get rfl)
      have s48 := (hb 36 48 rfl).trans pe36
      have r48 := getD_r s48
      have s49 := (hb 37 49 rfl).trans (hF.at 37 rfl (hmet.get rfl))
      have r49 := getD_r s49
      clear hb ho hmet
      rw [if_pos (wants rfl rfl s38)]
      go_simp
      go_at_call 28
      (with_reducible refine (lawGotP (by exact ps36)).mono ?_)
      rintro e_ wq ⟨ra, rl, rc, rfl, rs, bq⟩
      exact hK.out (.agg #[.bool n2, .slice ra rl rc, .int .i64 e2]) wq (hF.next hM 38 rfl bq ⟨ra, rl, rc, rfl, rs⟩)
    · intro L U w' b hF hLi hmet hb ho K hK
      have U1 := hF.1
      have s38 := (hb 26 38 rfl).trans (hF.at 26 rfl (hmet.get rfl))
      have r38 := getD_r s38
      obtain ⟨pa32, pl32, pc32, pe32, ps32⟩ := hF.at 32 rfl (hmet.get rfl)
      have s44 := (hb 32 44 rfl).trans pe32
      have r44 := getD_r s44
      obtain ⟨pa38, pl38, pc38, pe38, ps38⟩ := hF.at 38 rfl (hmet.get rfl)
      have s50 := (hb 38 50 rfl).trans pe38
      have r50 := getD_r s50
      clear hb ho hmet
      rw [if_pos (wants rfl rfl s38)]
      go_simp
      go_at_call 27
      (with_reducible refine (S2.out _ _ _ _ _ _ _ (by exact ps32) (by exact ps38)).mono ?_)
      rintro e_ wq ⟨rfl, bq⟩
      exact hK.out (.bool true) wq (hF.next hM 39 rfl bq rfl)
    · intro L U w' b hF hLi hmet hb ho K hK
      have U1 := hF.1
      have s38 := (hb 26 38 rfl).trans (hF.at 26 rfl (hmet.get rfl))
      have r38 := getD_r s38
      have s51 := (hb 39 51 rfl).trans (hF.at 39 rfl (hmet.get rfl))
      have r51 := getD_r s51
      clear hb ho hmet
      rw [if_pos (by rfl)]
      go_simp
      exact hK.out (.bool true) w' (hF.same hM 40 rfl rfl)
    · intro L U w' b hF hLi hmet hb ho K hK
      have U1 := hF.1
      have s52 := (hb 40 52 rfl).trans (hF.at 40 rfl (hmet.get rfl))
      have r52 := getD_r s52
      clear hb ho hmet
      rw [if_pos (by rfl)]
      go_simp
      exact hK.out (.bool true) w' (hF.same hM 41 rfl rfl)
    · intro L U w' b hF hLi hmet hb ho K hK
      have U1 := hF.1
      have s53 := (hb 41 53 rfl).trans (hF.at 41 rfl (hmet.get rfl))
      have r53 := getD_r s53
      have s2 : b.tmps.getD 2 undef = .pointer (some ⟨w.heap.size, 0, none⟩) := (ho 2 rfl).trans rfl
      have r2 := getD_r s2
      have t0_ := (Ta.below U1).cells.1
      have t1_ := (Ta.below U1).cells.2
      clear hb ho hmet
      rw [if_pos (wants rfl rfl s53)]
      go_simp
      exact hK.out (.agg #[.bool na, .slice aa la ca]) w' (hF.same hM 42 rfl rfl)
    · intro L U w' b hF hLi hmet hb ho K hK
      have U1 := hF.1
      have s53 := (hb 41 53 rfl).trans (hF.at 41 rfl (hmet.get rfl))
      have r53 := getD_r s53
      have s3 : b.tmps.getD 3 undef = .pointer (some ⟨w.heap.size + 1, 0, none⟩) := (ho 3 rfl).trans rfl
      have r3 := getD_r s3
      have t0_ := (Tb.below U1).cells.1
      have t1_ := (Tb.below U1).cells.2
      clear hb ho hmet
      rw [if_pos (wants rfl rfl s53)]
      go_simp
      exact hK.out (.agg #[.bool nb, .slice ab lb cb]) w' (hF.same hM 43 rfl rfl)
    · intro L U w' b hF hLi hmet hb ho K hK
      have U1 := hF.1
      have s53 := (hb 41 53 rfl).trans (hF.at 41 rfl (hmet.get rfl))
      have r53 := getD_r s53
      have s54 := (hb 42 54 rfl).trans (hF.at 42 rfl (hmet.get rfl))
      have r54 := getD_r s54
      have s55 := (hb 43 55 rfl).trans (hF.at 43 rfl (hmet.get rfl))
      have r55 := getD_r s55
      clear hb ho hmet
      rw [if_pos (wants rfl rfl s53)]
      go_simp
      go_at_call 48
      (with_reducible refine (C3.out _ (by exact (sa.below U1)) (by exact (sb.below U1))).mono ?_)
      rintro e_ wq ⟨ra, rl, rc, rfl, rs, bq⟩
      exact hK.out (.tuple #[.agg #[.bool n3, .slice ra rl rc], .int .i64 e3]) wq (hF.next hM 44 rfl bq ⟨ra, rl, rc, rfl, rs⟩)
    · intro L U w' b hF hLi hmet hb ho K hK
      have U1 := hF.1
      have s53 := (hb 41 53 rfl).trans (hF.at 41 rfl (hmet.get rfl))
      have r53 := getD_r s53
      obtain ⟨pa44, pl44, pc44, pe44, ps44⟩ := hF.at 44 rfl (hmet.get rfl)
      have s56 := (hb 44 56 rfl).trans pe44
      have r56 := getD_r s56
      clear hb ho hmet
      rw [if_pos (wants rfl rfl s53)]
      go_simp
      exact hK.out (.agg #[.bool n3, .slice pa44 pl44 pc44]) w' (hF.same hM 45 rfl ⟨_, _, _, rfl, ps44⟩)
    · intro L U w' b hF hLi hmet hb ho K hK
      have U1 := hF.1
      have s53 := (hb 41 53 rfl).trans (hF.at 41 rfl (hmet.get rfl))
      have r53 := getD_r s53
      obtain ⟨pa44, pl44, pc44, pe44, ps44⟩ := hF.at 44 rfl (hmet.get rfl)
      have s56 := (hb 44 56 rfl).trans pe44
      have r56 := getD_r s56
      clear hb ho hmet
      rw [if_pos (wants rfl rfl s53)]
      go_simp
      exact hK.out (.int .i64 e3) w' (hF.same hM 46 rfl rfl)
    · intro L U w' b hF hLi hmet hb ho K hK
      have U1 := hF.1
      have s53 := (hb 41 53 rfl).trans (hF.at 41 rfl (hmet.get rfl))
      have r53 := getD_r s53
      obtain ⟨pa45, pl45, pc45, pe45, ps45⟩ := hF.at 45 rfl (hmet.get rfl)
      have s57 := (hb 45 57 rfl).trans pe45
      have r57 := getD_r s57
      have s58 := (hb 46 58 rfl).trans (hF.at 46 rfl (hmet.get rfl))
      have r58 := getD_r s58
      clear hb ho hmet
      rw [if_pos (wants rfl rfl s53)]
      go_simp
      go_at_call 28
      (with_reducible refine (lawGotP (by exact ps45)).mono ?_)
      rintro e_ wq ⟨ra, rl, rc, rfl, rs, bq⟩
      exact hK.out (.agg #[.bool n3, .slice ra rl rc, .int .i64 e3]) wq (hF.next hM 47 rfl bq ⟨ra, rl, rc, rfl, rs⟩)
    · intro L U w' b hF hLi hmet hb ho K hK
      have U1 := hF.1
      have s53 := (hb 41 53 rfl).trans (hF.at 41 rfl (hmet.get rfl))
      have r53 := getD_r s53
      have s2 : b.tmps.getD 2 undef = .pointer (some ⟨w.heap.size, 0, none⟩) := (ho 2 rfl).trans rfl
      have r2 := getD_r s2
      have t0_ := (Ta.below U1).cells.1
      have t1_ := (Ta.below U1).cells.2
      clear hb ho hmet
      rw [if_pos (wants rfl rfl s53)]
      go_simp
      exact hK.out (.agg #[.bool na, .slice aa la ca]) w' (hF.same hM 48 rfl rfl)
    · intro L U w' b hF hLi hmet hb ho K hK
      have U1 := hF.1
      have s53 := (hb 41 53 rfl).trans (hF.at 41 rfl (hmet.get rfl))
      have r53 := getD_r s53
      have s3 : b.tmps.getD 3 undef = .pointer (some ⟨w.heap.size + 1, 0, none⟩) := (ho 3 rfl).trans rfl
      have r3 := getD_r s3
      have t0_ := (Tb.below U1).cells.1
      have t1_ := (Tb.below U1).cells.2
      clear hb ho hmet
      rw [if_pos (wants rfl rfl s53)]
      go_simp
      exact hK.out (.agg #[.bool nb, .slice ab lb cb]) w' (hF.same hM 49 rfl rfl)
    · intro L U w' b hF hLi hmet hb ho K hK
      have U1 := hF.1
      have s53 := (hb 41 53 rfl).trans (hF.at 41 rfl (hmet.get rfl))
      have r53 := getD_r s53
      have s60 := (hb 48 60 rfl).trans (hF.at 48 rfl (hmet.get rfl))
      have r60 := getD_r s60
      have s61 := (hb 49 61 rfl).trans (hF.at 49 rfl (hmet.get rfl))
      have r61 := getD_r s61
      clear hb ho hmet
      rw [if_pos (wants rfl rfl s53)]
      go_simp
      go_at_call 49
      (with_reducible refine (D3.out _ (by exact (sa.below U1)) (by exact (sb.below U1))).mono ?_)
      rintro e_ wq ⟨ra, rl, rc, rfl, rs, bq⟩
      exact hK.out (.tuple #[.agg #[.bool n3, .slice ra rl rc], .int .i64 e3]) wq (hF.next hM 50 rfl bq ⟨ra, rl, rc, rfl, rs⟩)
    · intro L U w' b hF hLi hmet hb ho K hK
      have U1 := hF.1
      have s53 := (hb 41 53 rfl).trans (hF.at 41 rfl (hmet.get rfl))
      have r53 := getD_r s53
      obtain ⟨pa50, pl50, pc50, pe50, ps50⟩ := hF.at 50 rfl (hmet.get rfl)
      have s62 := (hb 50 62 rfl).trans pe50
      have r62 := getD_r s62
      clear hb ho hmet
      rw [if_pos (wants rfl rfl s53)]
      go_simp
      exact hK.out (.agg #[.bool n3, .slice pa50 pl50 pc50]) w' (hF.same hM 51 rfl ⟨_, _, _, rfl, ps50⟩)
    · intro L U w' b hF hLi hmet hb ho K hK
      have U1 := hF.1
      have s53 := (hb 41 53 rfl).trans (hF.at 41 rfl (hmet.get rfl))
      have r53 := getD_r s53
      obtain ⟨pa50, pl50, pc50, pe50, ps50⟩ := hF.at 50 rfl (hmet.get rfl)
      have s62 := (hb 50 62 rfl).trans pe50
      have r62 := getD_r s62
      clear hb ho hmet
      rw [if_pos (wants rfl rfl s53)]
      go_simp
      exact hK.out (.int .i64 e3) w' (hF.same hM 52 rfl rfl)
    · intro L U w' b hF hLi hmet hb ho K hK
      have U1 := hF.1
      have s53 := (hb 41 53 rfl).trans (hF.at 41 rfl (hmet.get rfl))
      have r53 := getD_r s53
      obtain ⟨pa51, pl51, pc51, pe51, ps51⟩ := hF.at 51 rfl (hmet.get rfl)
      have s63 := (hb 51 63 rfl).trans pe51
      have r63 := getD_r s63
      have s64 := (hb 52 64 rfl).trans (hF.at 52 rfl (hmet.get rfl))
      have r64 := getD_r s64
      clear hb ho hmet
      rw [if_pos (wants rfl rfl s53)]
      go_simp
      go_at_call 28
      (with_reducible refine (lawGotP (by exact ps51)).mono ?_)
      rintro e_ wq ⟨ra, rl, rc, rfl, rs, bq⟩
      exact hK.out (.agg #[.bool n3, .slice ra rl rc, .int .i64 e3]) wq (hF.next hM 53 rfl bq ⟨ra, rl, rc, rfl, rs⟩)
    · intro L U w' b hF hLi hmet hb ho K hK
      have U1 := hF.1
      have s53 := (hb 41 53 rfl).trans (hF.at 41 rfl (hmet.get rfl))
      have r53 := getD_r s53
      obtain ⟨pa47, pl47, pc47, pe47, ps47⟩ := hF.at 47 rfl (hmet.get rfl)
      have s59 := (hb 47 59 rfl).trans pe47
      have r59 := getD_r s59
      obtain ⟨pa53, pl53, pc53, pe53, ps53⟩ := hF.at 53 rfl (hmet.get rfl)
      have s65 := (hb 53 65 rfl).trans pe53
      have r65 := getD_r s65
      clear hb ho hmet
      rw [if_pos (wants rfl rfl s53)]
      go_simp
      go_at_call 27
      (with_reducible refine (S3.out _ _ _ _ _ _ _ (by exact ps47) (by exact ps53)).mono ?_)
      rintro e_ wq ⟨rfl, bq⟩
      exact hK.out (.bool true) wq (hF.next hM 54 rfl bq rfl)
    · intro L U w' b hF hLi hmet hb ho K hK
      have U1 := hF.1
      have s53 := (hb 41 53 rfl).trans (hF.at 41 rfl (hmet.get rfl))
      have r53 := getD_r s53
      have s66 := (hb 54 66 rfl).trans (hF.at 54 rfl (hmet.get rfl))
      have r66 := getD_r s66
      clear hb ho hmet
      rw [if_pos (by rfl)]
      go_simp
      exact hK.out (.bool true) w' (hF.same hM 55 rfl rfl)
    · intro L U w' b hF hLi hmet hb ho K hK
      have U1 := hF.1
      have s67 := (hb 55 67 rfl).trans (hF.at 55 rfl (hmet.get rfl))
      have r67 := getD_r s67
      clear hb ho hmet
      rw [if_pos (by rfl)]
      go_simp
      exact hK.out (.bool true) w' (hF.same hM 56 rfl rfl)
    · intro L U w' b hF hLi hmet hb ho K hK
      have U1 := hF.1
      have s68 := (hb 56 68 rfl).trans (hF.at 56 rfl (hmet.get rfl))
      have r68 := getD_r s68
      have s2 : b.tmps.getD 2 undef = .pointer (some ⟨w.heap.size, 0, none⟩) := (ho 2 rfl).trans rfl
      have r2 := getD_r s2
      have t0_ := (Ta.below U1).cells.1
      have t1_ := (Ta.below U1).cells.2
      clear hb ho hmet
      rw [if_pos (wants rfl rfl s68)]
      go_simp
      exact hK.out (.agg #[.bool na, .slice aa la ca]) w' (hF.same hM 57 rfl rfl)
    · intro L U w' b hF hLi hmet hb ho K hK
      have U1 := hF.1
      have s68 := (hb 56 68 rfl).trans (hF.at 56 rfl (hmet.get rfl))
      have r68 := getD_r s68
      have s3 : b.tmps.getD 3 undef = .pointer (some ⟨w.heap.size + 1, 0, none⟩) := (ho 3 rfl).trans rfl
      have r3 := getD_r s3
      have t0_ := (Tb.below U1).cells.1
      have t1_ := (Tb.below U1).cells.2
      clear hb ho hmet
      rw [if_pos (wants rfl rfl s68)]
      go_simp
      exact hK.out (.agg #[.bool nb, .slice ab lb cb]) w' (hF.same hM 58 rfl rfl)
    · intro L U w' b hF hLi hmet hb ho K hK
      have U1 := hF.1
      have s68 := (hb 56 68 rfl).trans (hF.at 56 rfl (hmet.get rfl))
      have r68 := getD_r s68
      have s69 := (hb 57 69 rfl).trans (hF.at 57 rfl (hmet.get rfl))
      have r69 := getD_r s69
      have s70 := (hb 58 70 rfl).trans (hF.at 58 rfl (hmet.get rfl))
      have r70 := getD_r s70
      clear hb ho hmet
      rw [if_pos (wants rfl rfl s68)]
      go_simp
      go_at_call 50
      (with_reducible refine (C4.out _ (by exact (sa.below U1)) (by exact (sb.below U1))).mono ?_)
      rintro e_ wq ⟨ra, rl, rc, rfl, rs, bq⟩
      exact hK.out (.tuple #[.agg #[.bool n4, .slice ra rl rc], .int .i64 e4]) wq (hF.next hM 59 rfl bq ⟨ra, rl, rc, rfl, rs⟩)
    · intro L U w' b hF hLi hmet hb ho K hK
      have U1 := hF.1
      have s68 := (hb 56 68 rfl).trans (hF.at 56 rfl (hmet.get rfl))
      have r68 := getD_r s68
      obtain ⟨pa59, pl59, pc59, pe59, ps59⟩ := hF.at 59 rfl (hmet.get rfl)
      have s71 := (hb 59 71 rfl).trans pe59
      have r71 := getD_r s71
      clear hb ho hmet
      rw [if_pos (wants rfl rfl s68)]
      go_simp
      exact hK.out (.agg #[.bool n4, .slice pa59 pl59 pc59]) w' (hF.same hM 60 rfl ⟨_, _, _, rfl, ps59⟩)
    · intro L U w' b hF hLi hmet hb ho K hK
      have U1 := hF.1
      have s68 := (hb 56 68 rfl).trans (hF.at 56 rfl (hmet.get rfl))
      have r68 := getD_r s68
      obtain ⟨pa59, pl59, pc59, pe59, ps59⟩ := hF.at 59 rfl (hmet.get rfl)
      have s71 := (hb 59 71 rfl).trans pe59
      have r71 := getD_r s71
      clear hb ho hmet
      rw [if_pos (wants rfl rfl s68)]
      go_simp
      exact hK.out (.int .i64 e4) w' (hF.same hM 61 rfl rfl)
    · intro L U w' b hF hLi hmet hb ho K hK
      have U1 := hF.1
      have s68 := (hb 56 68 rfl).trans (hF.at 56 rfl (hmet.get rfl))
      have r68 := getD_r s68
      obtain ⟨pa60, pl60, pc60, pe60, ps60⟩ := hF.at 60 rfl (hmet.get rfl)
      have s72 := (hb 60 72 rfl).trans pe60
      have r72 := getD_r s72
      have s73 := (hb 61 73 rfl).trans (hF.at 61 rfl (hmet.get rfl))
      have r73 := getD_r s73
      clear hb ho hmet
      rw [if_pos (wants rfl rfl s68)]
      go_simp
      go_at_call 28
      (with_reducible refine (lawGotP (by exact ps60)).mono ?_)
      rintro e_ wq ⟨ra, rl, rc, rfl, rs, bq⟩
      exact hK.out (.agg #[.bool n4, .slice ra rl rc, .int .i64 e4]) wq (hF.next hM 62 rfl bq ⟨ra, rl, rc, rfl, rs⟩)
    · intro L U w' b hF hLi hmet hb ho K hK
      have U1 := hF.1
      have s68 := (hb 56 68 rfl).trans (hF.at 56 rfl (hmet.get rfl))
      have r68 := getD_r s68
      have s2 : b.tmps.getD 2 undef = .pointer (some ⟨w.heap.size, 0, none⟩) := (ho 2 rfl).trans rfl
      have r2 := getD_r s2
      have t0_ := (Ta.below U1).cells.1
      have t1_ := (Ta.below U1).cells.2
      clear hb ho hmet
      rw [if_pos (wants rfl rfl s68)]
      go_simp
      exact hK.out (.agg #[.bool na, .slice aa la ca]) w' (hF.same hM 63 rfl rfl)
    · intro L U w' b hF hLi hmet hb ho K hK
      have U1 := hF.1
      have s68 := (hb 56 68 rfl).trans (hF.at 56 rfl (hmet.get rfl))
      have r68 := getD_r s68
      have s3 : b.tmps.getD 3 undef = .pointer (some ⟨w.heap.size + 1, 0, none⟩) := (ho 3 rfl).trans rfl
      have r3 := getD_r s3
      have t0_ := (Tb.below U1).cells.1
      have t1_ := (Tb.below U1).cells.2
      clear hb ho hmet
      rw [if_pos (wants rfl rfl s68)]
      go_simp
      exact hK.out (.agg #[.bool nb, .slice ab lb cb]) w' (hF.same hM 64 rfl rfl)
    · intro L U w' b hF hLi hmet hb ho K hK
      have U1 := hF.1
      have s68 := (hb 56 68 rfl).trans (hF.at 56 rfl (hmet.get rfl))
      have r68 := getD_r s68
      have s75 := (hb 63 75 rfl).trans (hF.at 63 rfl (hmet.get rfl))
      have r75 := getD_r s75
      have s76 := (hb 64 76 rfl).trans (hF.at 64 rfl (hmet.get rfl))
      have r76 := getD_r s76
      clear hb ho hmet
      rw [if_pos (wants rfl rfl s68)]
      go_simp
      go_at_call 51
      (with_reducible refine (D4.out _ (by exact (sa.below U1)) (by exact (sb.below U1))).mono ?_)
      rintro e_ wq ⟨ra, rl, rc, rfl, rs, bq⟩
      exact hK.out (.tuple #[.agg #[.bool n4, .slice ra rl rc], .int .i64 e4]) wq (hF.next hM 65 rfl bq ⟨ra, rl, rc, rfl, rs⟩)
    · intro L U w' b hF hLi hmet hb ho K hK
      have U1 := hF.1
      have s68 := (hb 56 68 rfl).trans (hF.at 56 rfl (hmet.get rfl))
      have r68 := getD_r s68
      obtain ⟨pa65, pl65, pc65, pe65, ps65⟩ := hF.at 65 rfl (hmet.get rfl)
      have s77 := (hb 65 77 rfl).trans pe65
      have r77 := getD_r s77
      clear hb ho hmet
      rw [if_pos (wants rfl rfl s68)]
      go_simp
      exact hK.out (.agg #[.bool n4, .slice pa65 pl65 pc65]) w' (hF.same hM 66 rfl ⟨_, _, _, rfl, ps65⟩)
    · intro L U w' b hF hLi hmet hb ho K hK
      have U1 := hF.1
      have s68 := (hb 56 68 rfl).trans (hF.at 56 rfl (hmet.get rfl))
      have r68 := getD_r s68
      obtain ⟨pa65, pl65, pc65, pe65, ps65⟩ := hF.at 65 rfl (hmet.get rfl)
      have s77 := (hb 65 77 rfl).trans pe65
      have r77 := getD_r s77
      clear hb ho hmet
      rw [if_pos (wants rfl rfl s68)]
      go_simp
      exact hK.out (.int .i64 e4) w' (hF.same hM 67 rfl rfl)
    · intro L U w' b hF hLi hmet hb ho K hK
      have U1 := hF.1
      have s68 := (hb 56 68 rfl).trans (hF.at 56 rfl (hmet.get rfl))
      have r68 := getD_r s68
      obtain ⟨pa66, pl66, pc66, pe66, ps66⟩ := hF.at 66 rfl (hmet.get rfl)
      have s78 := (hb 66 78 rfl).trans pe66
      have r78 := getD_r s78
      have s79 := (hb 67 79 rfl).trans (hF.at 67 rfl (hmet.get rfl))
      have r79 := getD_r s79
      clear hb ho hmet
      rw [if_pos (wants rfl rfl s68)]
      go_simp
      go_at_call 28
      (with_reducible refine (lawGotP (by exact ps66)).mono ?_)
      rintro e_ wq ⟨ra, rl, rc, rfl, rs, bq⟩
      exact hK.out (.agg #[.bool n4, .slice ra rl rc, .int .i64 e4]) wq (hF.next hM 68 rfl bq ⟨ra, rl, rc, rfl, rs⟩)
    · intro L U w' b hF hLi hmet hb ho K hK
      have U1 := hF.1
      have s68 := (hb 56 68 rfl).trans (hF.at 56 rfl (hmet.get rfl))
      have r68 := getD_r s68
      obtain ⟨pa62, pl62, pc62, pe62, ps62⟩ := hF.at 62 rfl (hmet.get rfl)
      have s74 := (hb 62 74 rfl).trans pe62
      have r74 := getD_r s74
      obtain ⟨pa68, pl68, pc68, pe68, ps68⟩ := hF.at 68 rfl (hmet.get rfl)
      have s80 := (hb 68 80 rfl).trans pe68
      have r80 := getD_r s80
      clear hb ho hmet
      rw [if_pos (wants rfl rfl s68)]
      go_simp
      go_at_call 27
      (with_reducible refine (S4.out _ _ _ _ _ _ _ (by exact ps62) (by exact ps68)).mono ?_)
      rintro e_ wq ⟨rfl, bq⟩
      exact hK.out (.bool true) wq (hF.next hM 69 rfl bq rfl)
    · intro L U w' b hF hLi hmet hb ho K hK
      have U1 := hF.1
      have s68 := (hb 56 68 rfl).trans (hF.at 56 rfl (hmet.get rfl))
      have r68 := getD_r s68
      have s81 := (hb 69 81 rfl).trans (hF.at 69 rfl (hmet.get rfl))
      have r81 := getD_r s81
      clear hb ho hmet
      rw [if_pos (by rfl)]
      go_simp
      exact hK.out (.bool true) w' (hF.same hM 70 rfl rfl)
    · intro L U w' b hF hLi hmet hb ho K hK
      have U1 := hF.1
      have s82 := (hb 70 82 rfl).trans (hF.at 70 rfl (hmet.get rfl))
      have r82 := getD_r s82
      clear hb ho hmet
      rw [if_pos (by rfl)]
      go_simp
      exact hK.out (.bool true) w' (hF.same hM 71 rfl rfl)
    · intro L U w' b hF hLi hmet hb ho K hK
      have U1 := hF.1
      have s83 := (hb 71 83 rfl).trans (hF.at 71 rfl (hmet.get rfl))
      have r83 := getD_r s83
      have s2 : b.tmps.getD 2 undef = .pointer (some ⟨w.heap.size, 0, none⟩) := (ho 2 rfl).trans rfl
      have r2 := getD_r s2
      have t0_ := (Ta.below U1).cells.1
      have t1_ := (Ta.below U1).cells.2
      clear hb ho hmet
      rw [if_pos (wants rfl rfl s83)]
      go_simp
      exact hK.out (.agg #[.bool na, .slice aa la ca]) w' (hF.same hM 72 rfl rfl)
    · intro L U w' b hF hLi hmet hb ho K hK
      have U1 := hF.1
      have s83 := (hb 71 83 rfl).trans (hF.at 71 rfl (hmet.get rfl))
      have r83 := getD_r s83
      have s3 : b.tmps.getD 3 undef = .pointer (some ⟨w.heap.size + 1, 0, none⟩) := (ho 3 rfl).trans rfl
      have r3 := getD_r s3
      have t0_ := (Tb.below U1).cells.1
      have t1_ := (Tb.below U1).cells.2
      clear hb ho hmet
      rw [if_pos (wants rfl rfl s83)]
      go_simp
      exact hK.out (.agg #[.bool nb, .slice ab lb cb]) w' (hF.same hM 73 rfl rfl)
    · intro L U w' b hF hLi hmet hb ho K hK
      have U1 := hF.1
      have s83 := (hb 71 83 rfl).trans (hF.at 71 rfl (hmet.get rfl))
      have r83 := getD_r s83
      have s84 := (hb 72 84 rfl).trans (hF.at 72 rfl (hmet.get rfl))
      have r84 := getD_r s84
      have s85 := (hb 73 85 rfl).trans (hF.at 73 rfl (hmet.get rfl))
      have r85 := getD_r s85
      clear hb ho hmet
      rw [if_pos (wants rfl rfl s83)]
      go_simp
      go_at_call 52
      (with_reducible refine (C5.out _ (by exact (sa.below U1)) (by exact (sb.below U1))).mono ?_)
      rintro e_ wq ⟨ra, rl, rc, rfl, rs, bq⟩
      exact hK.out (.tuple #[.agg #[.bool n5, .slice ra rl rc], .int .i64 e5]) wq (hF.next hM 74 rfl bq ⟨ra, rl, rc, rfl, rs⟩)
    · intro L U w' b hF hLi hmet hb ho K hK
      have U1 := hF.1
      have s83 := (hb 71 83 rfl).trans (hF.at 71 rfl (hmet.get rfl))
      have r83 := getD_r s83
      obtain ⟨pa74, pl74, pc74, pe74, ps74⟩ := hF.at 74 rfl (hmet.get rfl)
      have s86 := (hb 74 86 rfl).trans pe74
      have r86 := getD_r s86
      clear hb ho hmet
      rw [if_pos (wants rfl rfl s83)]
      go_simp
      exact hK.out (.agg #[.bool n5, .slice pa74 pl74 pc74]) w' (hF.same hM 75 rfl ⟨_, _, _, rfl, ps74⟩)
    · intro L U w' b hF hLi hmet hb ho K hK
      have U1 := hF.1
      have s83 := (hb 71 83 rfl).trans (hF.at 71 rfl (hmet.get rfl))
      have r83 := getD_r s83
      obtain ⟨pa74, pl74, pc74, pe74, ps74⟩ := hF.at 74 rfl (hmet.get rfl)
      have s86 := (hb 74 86 rfl).trans pe74
      have r86 := getD_r s86
      clear hb ho hmet
      rw [if_pos (wants rfl rfl s83)]
      go_simp
      exact hK.out (.int .i64 e5) w' (hF.same hM 76 rfl rfl)
    · intro L U w' b hF hLi hmet hb ho K hK
      have U1 := hF.1
      have s83 := (hb 71 83 rfl).trans (hF.at 71 rfl (hmet.get rfl))
      have r83 := getD_r s83
      obtain ⟨pa75, pl75, pc75, pe75, ps75⟩ := hF.at 75 rfl (hmet.get rfl)
      have s87 := (hb 75 87 rfl).trans pe75
      have r87 := getD_r s87
      have s88 := (hb 76 88 rfl).trans (hF.at 76 rfl (hmet.get rfl))
      have r88 := getD_r s88
      clear hb ho hmet
      rw [if_pos (wants rfl rfl s83)]
      go_simp
      go_at_call 28
      (with_reducible refine (lawGotP (by exact ps75)).mono ?_)
      rintro e_ wq ⟨ra, rl, rc, rfl, rs, bq⟩
      exact hK.out (.agg #[.bool n5, .slice ra rl rc, .int .i64 e5]) wq (hF.next hM 77 rfl bq ⟨ra, rl, rc, rfl, rs⟩)
    · intro L U w' b hF hLi hmet hb ho K hK
      have U1 := hF.1
      have s83 := (hb 71 83 rfl).trans (hF.at 71 rfl (hmet.get rfl))
      have r83 := getD_r s83
      have s2 : b.tmps.getD 2 undef = .pointer (some ⟨w.heap.size, 0, none⟩) := (ho 2 rfl).trans rfl
      have r2 := getD_r s2
      have t0_ := (Ta.below U1).cells.1
      have t1_ := (Ta.below U1).cells.2
      clear hb ho hmet
      rw [if_pos (wants rfl rfl s83)]
      go_simp
      exact hK.out (.agg #[.bool na, .slice aa la ca]) w' (hF.same hM 78 rfl rfl)
    · intro L U w' b hF hLi hmet hb ho K hK
      have U1 := hF.1
      have s83 := (hb 71 83 rfl).trans (hF.at 71 rfl (hmet.get rfl))
      have r83 := getD_r s83
      have s3 : b.tmps.getD 3 undef = .pointer (some ⟨w.heap.size + 1, 0, none⟩) := (ho 3 rfl).trans rfl
      have r3 := getD_r s3
      have t0_ := (Tb.below U1).cells.1
      have t1_ := (Tb.below U1).cells.2
      clear hb ho hmet
      rw [if_pos (wants rfl rfl s83)]
      go_simp
      exact hK.out (.agg #[.bool nb, .slice ab lb cb]) w' (hF.same hM 79 rfl rfl)
    · intro L U w' b hF hLi hmet hb ho K hK
      have U1 := hF.1
      have s83 := (hb 71 83 rfl).trans (hF.at 71 rfl (hmet.get rfl))
      have r83 := getD_r s83
      have s90 := (hb 78 90 rfl).trans (hF.at 78 rfl (hmet.get rfl))
      have r90 := getD_r s90
      have s91 := (hb 79 91 rfl).trans (hF.at 79 rfl (hmet.get rfl))
      have r91 := getD_r s91
      clear hb ho hmet
      rw [if_pos (wants rfl rfl s83)]
      go_simp
      go_at_call 53
      (with_reducible refine (D5.out _ (by exact (sa.below U1)) (by exact (sb.below U1))).mono ?_)
      rintro e_ wq ⟨ra, rl, rc, rfl, rs, bq⟩
      exact hK.out (.tuple #[.agg #[.bool n5, .slice ra rl rc], .int .i64 e5]) wq (hF.next hM 80 rfl bq ⟨ra, rl, rc, rfl, rs⟩)
    · intro L U w' b hF hLi hmet hb ho K hK
      have U1 := hF.1
      have s83 := (hb 71 83 rfl).trans (hF.at 71 rfl (hmet.get rfl))
      have r83 := getD_r s83
      obtain ⟨pa80, pl80, pc80, pe80, ps80⟩ := hF.at 80 rfl (hmet.get rfl)
      have s92 := (hb 80 92 rfl).trans pe80
      have r92 := getD_r s92
      clear hb ho hmet
      rw [if_pos (wants rfl rfl s83)]
      go_simp
      exact hK.out (.agg #[.bool n5, .slice pa80 pl80 pc80]) w' (hF.same hM 81 rfl ⟨_, _, _, rfl, ps80⟩)
    · intro L U w' b hF hLi hmet hb ho K hK
      have U1 := hF.1
      have s83 := (hb 71 83 rfl).trans (hF.at 71 rfl (hmet.get rfl))
      have r83 := getD_r s83
      obtain ⟨pa80, pl80, pc80, pe80, ps80⟩ := hF.at 80 rfl (hmet.get rfl)
      have s92 := (hb 80 92 rfl).trans pe80
      have r92 := getD_r s92
      clear hb ho hmet
      rw [if_pos (wants rfl rfl s83)]
      go_simp
      exact hK.out (.int .i64 e5) w' (hF.same hM 82 rfl rfl)
    · intro L U w' b hF hLi hmet hb ho K hK
      have U1 := hF.1
      have s83 := (hb 71 83 rfl).trans (hF.at 71 rfl (hmet.get rfl))
      have r83 := getD_r s83
      obtain ⟨pa81, pl81, pc81, pe81, ps81⟩ := hF.at 81 rfl (hmet.get rfl)
      have s93 := (hb 81 93 rfl).trans pe81
      have r93 := getD_r s93
      have s94 := (hb 82 94 rfl).trans (hF.at 82 rfl (hmet.get rfl))
      have r94 := getD_r s94
      clear hb ho hmet
      rw [if_pos (wants rfl rfl s83)]
      go_simp
      go_at_call 28
      (with_reducible refine (lawGotP (by exact ps81)).mono ?_)
      rintro e_ wq ⟨ra, rl, rc, rfl, rs, bq⟩
      exact hK.out (.agg #[.bool n5, .slice ra rl rc, .int .i64 e5]) wq (hF.next hM 83 rfl bq ⟨ra, rl, rc, rfl, rs⟩)
    · intro L U w' b hF hLi hmet hb ho K hK
      have U1 := hF.1
      have s83 := (hb 71 83 rfl).trans (hF.at 71 rfl (hmet.get rfl))
      have r83 := getD_r s83
      obtain ⟨pa77, pl77, pc77, pe77, ps77⟩ := hF.at 77 rfl (hmet.get rfl)
      have s89 := (hb 77 89 rfl).trans pe77
      have r89 := getD_r s89
      obtain ⟨pa83, pl83, pc83, pe83, ps83⟩ := hF.at 83 rfl (hmet.get rfl)
      have s95 := (hb 83 95 rfl).trans pe83
      have r95 := getD_r s95
      clear hb ho hmet
      rw [if_pos (wants rfl rfl s83)]
      go_simp
      go_at_call 27
      (with_reducible refine (S5.out _ _ _ _ _ _ _ (by exact ps77) (by exact ps83)).mono ?_)
      rintro e_ wq ⟨rfl, bq⟩
      exact hK.out (.bool true) wq (hF.next hM 84 rfl bq rfl)
    · intro L U w' b hF hLi hmet hb ho K hK
      have U1 := hF.1
      have s83 := (hb 71 83 rfl).trans (hF.at 71 rfl (hmet.get rfl))
      have r83 := getD_r s83
      have s96 := (hb 84 96 rfl).trans (hF.at 84 rfl (hmet.get rfl))
      have r96 := getD_r s96
      clear hb ho hmet
      rw [if_pos (by rfl)]
      go_simp
      exact hK.out (.bool true) w' (hF.same hM 85 rfl rfl)
    · intro L U w' b hF hLi hmet hb ho K hK
      have U1 := hF.1
      have s97 := (hb 85 97 rfl).trans (hF.at 85 rfl (hmet.get rfl))
      have r97 := getD_r s97
      clear hb ho hmet
      rw [if_pos (by rfl)]
      go_simp
      exact hK.out (.bool true) w' (hF.same hM 86 rfl rfl)
    · intro L U w' b hF hLi hmet hb ho K hK
      have U1 := hF.1
      have s98 := (hb 86 98 rfl).trans (hF.at 86 rfl (hmet.get rfl))
      have r98 := getD_r s98
      have s2 : b.tmps.getD 2 undef = .pointer (some ⟨w.heap.size, 0, none⟩) := (ho 2 rfl).trans rfl
      have r2 := getD_r s2
      have t0_ := (Ta.below U1).cells.1
      have t1_ := (Ta.below U1).cells.2
      clear hb ho hmet
      rw [if_pos (wants rfl rfl s98)]
      go_simp
      exact hK.out (.agg #[.bool na, .slice aa la ca]) w' (hF.same hM 87 rfl rfl)
    · intro L U w' b hF hLi hmet hb ho K hK
      have U1 := hF.1
      have s98 := (hb 86 98 rfl).trans (hF.at 86 rfl (hmet.get rfl))
      have r98 := getD_r s98
      have s3 : b.tmps.getD 3 undef = .pointer (some ⟨w.heap.size + 1, 0, none⟩) := (ho 3 rfl).trans rfl
      have r3 := getD_r s3
      have t0_ := (Tb.below U1).cells.1
      have t1_ := (Tb.below U1).cells.2
      clear hb ho hmet
      rw [if_pos (wants rfl rfl s98)]
      go_simp
      exact hK.out (.agg #[.bool nb, .slice ab lb cb]) w' (hF.same hM 88 rfl rfl)
    · intro L U w' b hF hLi hmet hb ho K hK
      have U1 := hF.1
      have s98 := (hb 86 98 rfl).trans (hF.at 86 rfl (hmet.get rfl))
      have r98 := getD_r s98
      have s99 := (hb 87 99 rfl).trans (hF.at 87 rfl (hmet.get rfl))
      have r99 := getD_r s99
      have s100 := (hb 88 100 rfl).trans (hF.at 88 rfl (hmet.get rfl))
      have r100 := getD_r s100
      clear hb ho hmet
      rw [if_pos (wants rfl rfl s98)]
      go_simp
      go_at_call 54
      (with_reducible refine (C6.out _ (by exact (sa.below U1)) (by exact (sb.below U1))).mono ?_)
      rintro e_ wq ⟨ra, rl, rc, rfl, rs, bq⟩
      exact hK.out (.tuple #[.agg #[.bool n6, .slice ra rl rc], .int .i64 e6]) wq (hF.next hM 89 rfl bq ⟨ra, rl, rc, rfl, rs⟩)
    · intro L U w' b hF hLi hmet hb ho K hK
      have U1 := hF.1
      have s98 := (hb 86 98 rfl).trans (hF.at 86 rfl (hmet.get rfl))
      have r98 := getD_r s98
      obtain ⟨pa89, pl89, pc89, pe89, ps89⟩ := hF.at 89 rfl (hmet.get rfl)
      have s101 := (hb 89 101 rfl).trans pe89
      have r101 := getD_r s101
      clear hb ho hmet
      rw [if_pos (wants rfl rfl s98)]
      go_simp
      exact hK.out (.agg #[.bool n6, .slice pa89 pl89 pc89]) w' (hF.same hM 90 rfl ⟨_, _, _, rfl, ps89⟩)
    · intro L U w' b hF hLi hmet hb ho K hK
      have U1 := hF.1
      have s98 := (hb 86 98 rfl).trans (hF.at 86 rfl (hmet.get rfl))
      have r98 := getD_r s98
      obtain ⟨pa89, pl89, pc89, pe89, ps89⟩ := hF.at 89 rfl (hmet.get rfl)
      have s101 := (hb 89 101 rfl).trans pe89
      have r101 := getD_r s101
      clear hb ho hmet
      rw [if_pos (wants rfl rfl s98)]
      go_simp
      exact hK.out (.int .i64 e6) w' (hF.same hM 91 rfl rfl)
    · intro L U w' b hF hLi hmet hb ho K hK
      have U1 := hF.1
      have s98 := (hb 86 98 rfl).trans (hF.at 86 rfl (hmet.get rfl))
      have r98 := getD_r s98
      obtain ⟨pa90, pl90, pc90, pe90, ps90⟩ := hF.at 90 rfl (hmet.get rfl)
      have s102 := (hb 90 102 rfl).trans pe90
      have r102 := getD_r s102
      have s103 := (hb 91 103 rfl).trans (hF.at 91 rfl (hmet.get rfl))
      have r103 := getD_r s103
      clear hb ho hmet
      rw [if_pos (wants rfl rfl s98)]
      go_simp
      go_at_call 28
      (with_reducible refine (lawGotP (by exact ps90)).mono ?_)
      rintro e_ wq ⟨ra, rl, rc, rfl, rs, bq⟩
      exact hK.out (.agg #[.bool n6, .slice ra rl rc, .int .i64 e6]) wq (hF.next hM 92 rfl bq ⟨ra, rl, rc, rfl, rs⟩)
    · intro L U w' b hF hLi hmet hb ho K hK
      have U1 := hF.1
      have s98 := (hb 86 98 rfl).trans (hF.at 86 rfl (hmet.get rfl))
      have r98 := getD_r s98
      have s2 : b.tmps.getD 2 undef = .pointer (some ⟨w.heap.size, 0, none⟩) := (ho 2 rfl).trans rfl
      have r2 := getD_r s2
      have t0_ := (Ta.below U1).cells.1
      have t1_ := (Ta.below U1).cells.2
      clear hb ho hmet
      rw [if_pos (wants rfl rfl s98)]
      go_simp
      exact hK.out (.agg #[.bool na, .slice aa la ca]) w' (hF.same hM 93 rfl rfl)
    · intro L U w' b hF hLi hmet hb ho K hK
      have U1 := hF.1
      have s98 := (hb 86 98 rfl).trans (hF.at 86 rfl (hmet.get rfl))
      have r98 := getD_r s98
      have s3 : b.tmps.getD 3 undef = .pointer (some ⟨w.heap.size + 1, 0, none⟩) := (ho 3 rfl).trans rfl
      have r3 := getD_r s3
      have t0_ := (Tb.below U1).cells.1
      have t1_ := (Tb.below U1).cells.2
      clear hb ho hmet
      rw [if_pos (wants rfl rfl s98)]
      go_simp
      exact hK.out (.agg #[.bool nb, .slice ab lb cb]) w' (hF.same hM 94 rfl rfl)
    · intro L U w' b hF hLi hmet hb ho K hK
      have U1 := hF.1
      have s98 := (hb 86 98 rfl).trans (hF.at 86 rfl (hmet.get rfl))
      have r98 := getD_r s98
      have s105 := (hb 93 105 rfl).trans (hF.at 93 rfl (hmet.get rfl))
      have r105 := getD_r s105
      have s106 := (hb 94 106 rfl).trans (hF.at 94 rfl (hmet.get rfl))
      have r106 := getD_r s106
      clear hb ho hmet
      rw [if_pos (wants rfl rfl s98)]
      go_simp
      go_at_call 55
      (with_reducible refine (D6.out _ (by exact (sa.below U1)) (by exact (sb.below U1))).mono ?_)
      rintro e_ wq ⟨ra, rl, rc, rfl, rs, bq⟩
      exact hK.out (.tuple #[.agg #[.bool n6, .slice ra rl rc], .int .i64 e6]) wq (hF.next hM 95 rfl bq ⟨ra, rl, rc, rfl, rs⟩)
    · intro L U w' b hF hLi hmet hb ho K hK
      have U1 := hF.1
      have s98 := (hb 86 98 rfl).trans (hF.at 86 rfl (hmet.get rfl))
      have r98 := getD_r s98
      obtain ⟨pa95, pl95, pc95, pe95, ps95⟩ := hF.at 95 rfl (hmet.get rfl)
      have s107 := (hb 95 107 rfl).trans pe95
      have r107 := getD_r s107
      clear hb ho hmet
      rw [if_pos (wants rfl rfl s98)]
      go_simp
      exact hK.out (.agg #[.bool n6, .slice pa95 pl95 pc95]) w' (hF.same hM 96 rfl ⟨_, _, _, rfl, ps95⟩)
    · intro L U w' b hF hLi hmet hb ho K hK
      have U1 := hF.1
      have s98 := (hb 86 98 rfl).trans (hF.at 86 rfl (hmet.get rfl))
      have r98 := getD_r s98
      obtain ⟨pa95, pl95, pc95, pe95, ps95⟩ := hF.at 95 rfl (hmet.get rfl)
      have s107 := (hb 95 107 rfl).trans pe95
      have r107 := getD_r s107
      clear hb ho hmet
      rw [if_pos (wants rfl rfl s98)]
      go_simp
      exact hK.out (.int .i64 e6) w' (hF.same hM 97 rfl rfl)
    · intro L U w' b hF hLi hmet hb ho K hK
      have U1 := hF.1
      have s98 := (hb 86 98 rfl).trans (hF.at 86 rfl (hmet.get rfl))
      have r98 := getD_r s98
      obtain ⟨pa96, pl96, pc96, pe96, ps96⟩ := hF.at 96 rfl (hmet.get rfl)
      have s108 := (hb 96 108 rfl).trans pe96
      have r108 := getD_r s108
      have s109 := (hb 97 109 rfl).trans (hF.at 97 rfl (hmet.get rfl))
      have r109 := getD_r s109
      clear hb ho hmet
      rw [if_pos (wants rfl rfl s98)]
      go_simp
      go_at_call 28
      (with_reducible refine (lawGotP (by exact ps96)).mono ?_)
      rintro e_ wq ⟨ra, rl, rc, rfl, rs, bq⟩
      exact hK.out (.agg #[.bool n6, .slice ra rl rc, .int .i64 e6]) wq (hF.next hM 98 rfl bq ⟨ra, rl, rc, rfl, rs⟩)
    · intro L U w' b hF hLi hmet hb ho K hK
      have U1 := hF.1
      have s98 := (hb 86 98 rfl).trans (hF.at 86 rfl (hmet.get rfl))
      have r98 := getD_r s98
      obtain ⟨pa92, pl92, pc92, pe92, ps92⟩ := hF.at 92 rfl (hmet.get rfl)
      have s104 := (hb 92 104 rfl).trans pe92
      have r104 := getD_r s104
      obtain ⟨pa98, pl98, pc98, pe98, ps98⟩ := hF.at 98 rfl (hmet.get rfl)
      have s110 := (hb 98 110 rfl).trans pe98
      have r110 := getD_r s110
      clear hb ho hmet
      rw [if_pos (wants rfl rfl s98)]
      go_simp
      go_at_call 27
      (with_reducible refine (S6.out _ _ _ _ _ _ _ (by exact ps92) (by exact ps98)).mono ?_)
      rintro e_ wq ⟨rfl, bq⟩
      exact hK.out (.bool true) wq (hF.next hM 99 rfl bq rfl)
    · intro L U w' b hF hLi hmet hb ho K hK
      have U1 := hF.1
      have s98 := (hb 86 98 rfl).trans (hF.at 86 rfl (hmet.get rfl))
      have r98 := getD_r s98
      have s111 := (hb 99 111 rfl).trans (hF.at 99 rfl (hmet.get rfl))
      have r111 := getD_r s111
      clear hb ho hmet
      rw [if_pos (by rfl)]
      go_simp
      exact hK.out (.bool true) w' (hF.same hM 100 rfl rfl)
    · intro L U w' b hF hLi hmet hb ho K hK
      have U1 := hF.1
      have s112 := (hb 100 112 rfl).trans (hF.at 100 rfl (hmet.get rfl))
      have r112 := getD_r s112
      clear hb ho hmet
      rw [if_pos (by rfl)]
      go_simp
      exact hK.out (.bool true) w' (hF.same hM 101 rfl rfl)
  case fin =>
    intro L U wx hF hall
    have U1 := hF.1
    have kl := hF.at 101 rfl (hall 101 (by decide))
    clear hF hall hM
    generalize hfr : fillA _ _ _ = fr
    have hs : fr.tmps.getD 4 undef = .bool true := by rw [← hfr]; exact fillA_get _ _ _ 101 4 _ (by kernel_rfl) rfl (congrArg some kl) (Nat.lt_of_lt_of_eq (by decide : 4 < 113) rfl)
    have hdf : fr.defers = [] := by rw [← hfr]; exact (fillA_defers _ _ _).trans rfl
    clear hfr kl
    have hs2 := getD_r hs
    go_wp2_with fail
    refine bodyPost_ret (v := .bool true) (by simp [results, Tryz.results5, go_sem, hs2]) hdf ?_
    exact ⟨rfl, U0.trans (U1.mono U0.size)⟩

theorem numSums_any (na : Bool) (aa : Option Addr) (la ca : Nat) (xa : List Int) (nb : Bool) (ab : Option Addr) (lb cb : Nat) (xb : List Int) (w : World) (ht : Tab w) (sa : Sl w aa la ca xa) (sb : Sl w ab lb cb xb) : Calls Tryz.prog 5 #[.agg #[.bool na, .slice aa la ca], .agg #[.bool nb, .slice ab lb cb]] w (RetBool true w) := by
  cases hr : (!(decide (100 < la) || decide (100 < lb)))
  · exact sums_long na aa la ca xa nb ab lb cb xb w ht sa sb hr
  · exact sums_few na aa la ca xa nb ab lb cb xb w ht sa sb hr
end Go.Proofs.YtfjnplhhgdfepaaGreatDoor

/- NumSums: for every input the law answers true, and each argument reads afterwards as it read before. Condition: the table of the powers of ten lies as the program's text lays it (tied by the card). -/
namespace Go.Proofs.YtfjnplhhgdfepaaGreatDoor.lawNumSums
open Go.ChangeShapes Go.WideShapes Go.ChangeAt Go.RowKit

theorem door_met (os : Os) (args : Array Value) : laidMetH Tryz.prog Rows.numSumsRow.laid ((World.doorLaid Tryz.prog 24 os).forCall (fun _ _ => 0) ⟨#[], args, []⟩).memory :=
  laidMetH_of_parts3 (fuel := 8) (laidMet_of_run' 8 (by kernel_rfl) (by kernel_rfl)) (by kernel_rfl) (by kernel_rfl)

set_option maxRecDepth 100000 in
theorem lifted (os : Os) (started : os.Started) (H : Type) (enc : TypeId × Value → H) :
    ReturnsInHanded {} Tryz.checked os 5 .any (fun w args => (Rows.numSumsSpec.pre enc Tryz.prog Tryz.f5 [] false w args ∧ laidMetH Tryz.prog Rows.numSumsRow.laid w) ∧ sizedMet enc Tryz.prog Tryz.f5 (OpenSpec.ofChange Rows.numSumsSpec) false w args)
      (Rows.numSumsSpec.post enc Tryz.prog Tryz.f5 false true false false) := by
  refine returnsInHanded_of_change_and (C := Tryz.checked) (X := fun w _ => laidMetH Tryz.prog Rows.numSumsRow.laid w) (fun _ _ _ hh h => h.of_heap hh) lift_own started (by kernel_rfl) Tryz.func5
    (ChangeSpec.witness_shaped (enc := enc) (C := Tryz.checked) (os := os) (X := fun w _ => laidMetH Tryz.prog Rows.numSumsRow.laid w) false (World.doorLaid Tryz.prog 24 os) #[.agg #[.bool false, .slice none 0 0], .agg #[.bool false, .slice none 0 0]] 8 rfl (World.shaped_of_RefB (by kernel_rfl) (by kernel_rfl)) (by kernel_rfl) (by kernel_rfl) (by kernel_rfl) (door_met os _)) ?_
  intro W base args ds gs before hval0 hW _ _ hL _
  have hval : ∀ (j : Nat) t v, Tryz.f5.params[j]? = some t → args[j]? = some v → Value.okWide Tryz.prog W .any base t v := hval0
  have hW' := hW
  obtain ⟨p, q, hA0, hV, rfl, hfz, hnd⟩ := hW
  have hA : DataW.TrodAll enc Tryz.prog W 0 (fun _ => true) true Tryz.f5.params.toList args.toList ds p := hA0
  rw [Tryz.params5] at hA hval
  clear hA0 hval0
  obtain ⟨v0, vs0, d0, ds0, p0, q0, hargs, rfl, rfl, h0, r0⟩ := trodAll_cons hA
  obtain ⟨v1, vs1, d1, ds1, p1, q1, rfl, rfl, rfl, h1, r1⟩ := trodAll_cons r0
  obtain ⟨rfl, rfl, rfl⟩ := trodAll_nil r1
  obtain rfl : args = #[v0, v1] := by cases args; simp_all
  obtain ⟨rfl, rfl⟩ := trodVars_none hV
  obtain ⟨n0, ao0, len0, cap0, xs0, rfl, s0⟩ := open_I (hval 0 24 v0 rfl rfl) h0
  obtain ⟨n1, ao1, len1, cap1, xs1, rfl, s1⟩ := open_I (hval 1 24 v1 rfl rfl) h1
  simp only [List.append_nil] at hW'
  refine (numSums_any n0 ao0 len0 cap0 xs0 n1 ao1 len1 cap1 xs1 W (lift_tab hL) s0 s1).mono fun e W' ⟨he, hg⟩ => ?_
  subst he
  have hlt : ∀ x ∈ p0 ++ (p1), x.block < W.heap.size := fun x hx => hW'.lt x hx
  have in0 : ∀ x ∈ p0, x ∈ p0 ++ (p1) := fun x hx => by simp [hx]
  have in1 : ∀ x ∈ p1, x ∈ p0 ++ (p1) := fun x hx => by simp [hx]
  exact ⟨_, rfl, post_of_below (pv := []) hW' (fun _ _ _ => (trodAll_cons_mk (shut_bool Tryz.underlying4 _) trodAll_mk0)) (fun sp hsp => (trodAll_cons_mk (again_I h0 hg (fun x hx => hlt x (in0 x hx)) (fun x hx => hsp x (in0 x hx))) (trodAll_cons_mk (again_I h1 hg (fun x hx => hlt x (in1 x hx)) (fun x hx => hsp x (in1 x hx))) trodAll_mk0))) (fun _ _ => rfl) (by simp)
    hg (ok_one (by kernel_rfl) rfl (okWide_bool_mk Tryz.underlying4 _))⟩

theorem over : Rows.numSumsRow.holds Tryz.pinned (OpenSpec.ofChange Rows.numSumsSpec) :=
  OpenClaim.holds_of_wide 5 Tryz.f5 rfl rfl rfl rfl rfl rfl rfl ⟨rfl, rfl, rfl, rfl, rfl⟩ rfl rfl rfl rfl rfl (by kernel_rfl) Tryz.func5 (by kernel_rfl)
    (of_decide_eq_true (by kernel_rfl)) (by unfold Func.isWrapper; first | (rw [if_pos (by decide +kernel)]; kernel_rfl) | (rw [if_neg (by decide +kernel)]; exact ⟨rfl, rfl⟩))
    (fun os started H enc _ => lifted os started H enc)

theorem plain (f : FuncId) (fn : Func) (hf : Tryz.pinned.checked.prog.funcNamed "foregone/foregonelaw01.NumSums" = some f) (hfn : Tryz.pinned.checked.prog.funcs[f]? = some fn) :
    false = Tryz.pinned.checked.prog.looks [] ∧ ∀ (j : Nat) t, fn.params[j]? = some t → Tryz.pinned.checked.prog.wantsStandIn t = false := by
  obtain rfl : f = 5 := Option.some.inj ((show Tryz.prog.funcNamed "foregone/foregonelaw01.NumSums" = some 5 by kernel_rfl).symm.trans hf) |>.symm
  obtain rfl : fn = Tryz.f5 := (Option.some.inj (Tryz.func5.symm.trans hfn)).symm
  refine ⟨by kernel_rfl, fun j t ht => ?_⟩
  rw [Tryz.params5] at ht
  have hm : t ∈ [24] := by simpa using Array.mem_of_getElem? ht
  have hall : ([24].all fun u => !Tryz.prog.wantsStandIn u) = true := by kernel_rfl
  exact (show Tryz.prog.wantsStandIn t = false by simpa using List.all_eq_true.1 hall t hm)

theorem card : Rows.NumSumsCardSaid :=
  Claim7.holds_tied_plain_at .later [] _ _ _ _ over (fun _ h => by cases h) (by kernel_rfl) (fun _ h => by cases h) numSums_row_tie rfl ⟨rfl, rfl⟩ (by kernel_rfl) rfl plain (by kernel_rfl)
end Go.Proofs.YtfjnplhhgdfepaaGreatDoor.lawNumSums

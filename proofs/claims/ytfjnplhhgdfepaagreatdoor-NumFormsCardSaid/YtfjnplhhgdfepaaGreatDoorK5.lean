/- Contracts of the functions of package num and of the law's helpers, part 5: each call ends and hands back what its contract says, for all arguments within the contract's premises. -/
import Derived.WalkSpells
import Derived.Maps.Own
import Derived.Laws.EntriesVeiled
import Derived.Test.YtfjnplhhgdfepaaGreatDoorK4
set_option linter.all false

/- checkAll. -/
namespace Go.Proofs.YtfjnplhhgdfepaaGreatDoor
open Go.RowKit

/-- An integer's data in memory: its sign, the three parts of its slice, and what that reads as. -/
structure Dat where
  neg : Bool
  ao : Option Addr
  len : Nat
  cap : Nat
  xs : List Int
def Dat.v (d : Dat) : Value := .agg #[.bool d.neg, .slice d.ao d.len d.cap]
def Dat.In (d : Dat) (w : World) : Prop := Sl w d.ao d.len d.cap d.xs
def Dat.ok (d : Dat) : Bool := okInt d.neg d.xs
def Dat.cells (L : List Dat) : List Value := L.flatMap fun d => [.bool d.neg, .slice d.ao d.len d.cap]
theorem Dat.cells_at (L : List Dat) (k : Nat) (h : k < L.length) : (Dat.cells L)[k * 2]? = some (.bool L[k].neg) ∧ (Dat.cells L)[k * 2 + 1]? = some (.slice L[k].ao L[k].len L[k].cap) := by
  induction L generalizing k with
  | nil => simp at h
  | cons d L ih =>
    cases k with
    | zero => exact ⟨rfl, rfl⟩
    | succ k =>
      have := ih k (by simpa using h)
      rw [show (k + 1) * 2 = k * 2 + 1 + 1 by omega]
      simpa [Dat.cells] using this

set_option maxHeartbeats 1000000 in
theorem all_any (g : Nat) (L : List Dat) (w : World) (hg : w.heap[g]? = some (.cells (Dat.cells L).toArray 24 (0, 0))) (hin : ∀ d ∈ L, d.In w) (hL : L.length ≤ 100) :
    Calls Tryz.prog 103 #[.slice (some ⟨g, 0, none⟩) L.length L.length] w (RetB (errOf (L.all Dat.ok)) w) := by
  have Hin := Lib.hid hin
  generalize hn : L.length = n at *
  have Hn := Lib.hid hn
  have Hg := Lib.hid hg
  have hgl : g < w.heap.size := (Array.getElem?_eq_some_iff.1 hg).1
  clear hin hn hg
  go_enter Tryz.func103, Tryz.ntmps103
  go_wp2
  go_loopw [8] (fun i wr => ∃ k : Nat, k ≤ n ∧ i = .int .i64 k ∧ (∀ d ∈ L.take k, Dat.ok d = true) ∧ Below w.heap.size w wr) (fun i _ => n - (intOf i).toNat)
  case atStart => exact ⟨0, Nat.zero_le _, rfl, fun d hd => by simp at hd, Below.refl _ _⟩
  case round =>
    obtain ⟨k, hk, rfl, hall, hbel⟩ := hrel
    have Hall := Lib.hid hall
    clear hall
    by_cases hlt : k < n
    · have hgr : wr.heap[g]? = some (.cells (Dat.cells L).toArray 24 (0, 0)) := by rw [hbel.block g hgl]; exact Hg.out
      have hlk : k < L.length := by rw [Hn.out]; exact hlt
      obtain ⟨c1, c2⟩ := Dat.cells_at L k hlk
      have hmem : L[k] ∈ L := List.getElem_mem hlk
      have hdin := (Hin.out _ hmem)
      have hfst : ∀ d ∈ L.take (k + 1), d.ok = true ∨ d = L[k] := by
        intro d hd
        rw [List.take_succ_eq_append_getElem hlk] at hd
        rcases List.mem_append.1 hd with h | h
        · exact .inl (Hall.out d h)
        · exact .inr (by simpa using h)
      have Hfst := Lib.hid hfst
      generalize hd : L[k] = d at *
      have h1 : wr.cell? ⟨g, k * 2, none⟩ = some (.bool d.neg) := by simp only [World.cell?, hgr]; simpa using c1
      have h2 : wr.cell? ⟨g, k * 2 + 1, none⟩ = some (.slice d.ao d.len d.cap) := by simp only [World.cell?, hgr]; simpa using c2
      obtain ⟨dn, da, dl, dc, dx⟩ := d
      have hsl : Sl wr da dl dc dx := Sl.below hdin hbel
      simp only at h1 h2
      clear c1 c2 hgr hfst hd hdin
      go_wp2_with fail
      refine (check_any _ _ _ _ _ _ (hsl.alloc _)).mono ?_
      rintro e w1 ⟨rfl, hb1⟩
      obtain ⟨_, _, hbb⟩ := kept1 _ _ hb1
      by_cases hok : okInt dn dx = true
      · have hv : errOf (okInt dn dx) = 0 := by rw [hok]; rfl
        rw [hv]
        have Hok := Lib.hid hok
        clear hv hok hb1
        go_wp2
        go_roundw
        case rel => exact ⟨k + 1, hlt, by go_num, fun d hd => by rcases Hfst.out d hd with h | h; exact h; rw [h]; exact Hok.out, hbel.trans (hbb.mono hbel.size)⟩
        case measure => simp [intOf]; omega
      · have hv : errOf (okInt dn dx) = 10 := by rw [Bool.not_eq_true] at hok; rw [hok]; rfl
        rw [hv]
        have Hok := Lib.hid hok
        clear hv hok hb1
        go_wp2
        go_ret
        have hall : L.all Dat.ok = false := by
          rw [Bool.eq_false_iff]
          intro h
          exact Hok.out (List.all_eq_true.1 h _ hmem)
        exact ⟨by rw [hall]; rfl, hbel.trans (hbb.mono hbel.size)⟩
    · obtain rfl : k = n := by omega
      go_wp2
      go_ret
      have hall : L.all Dat.ok = true := by
        rw [List.all_eq_true]
        intro d hd
        exact Hall.out d (by rw [List.take_of_length_le (by rw [Hn.out]; exact Nat.le_refl _)]; exact hd)
      exact ⟨by rw [hall]; rfl, hbel⟩
end Go.Proofs.YtfjnplhhgdfepaaGreatDoor

/- Cross. -/
namespace Go.Proofs.YtfjnplhhgdfepaaGreatDoor
open Go.RowKit

theorem cmpI_num (x y : Int) : cmpI (decide (x < 0)) (parts x.natAbs) (decide (y < 0)) (parts y.natAbs) = cmp3 x y := by
  unfold cmpI
  rw [cmpL_parts, cmpL_parts]
  by_cases hx : x < 0 <;> by_cases hy : y < 0 <;> simp [hx, hy] <;> unfold cmp3 <;> (repeat' split) <;> omega
theorem sign_num (y : Int) (len : Nat) (h : (parts y.natAbs).length = len) : signOf (decide (y < 0)) len = cmp3 y 0 := by
  unfold signOf cmp3
  have h0 := parts_nil_iff y.natAbs
  by_cases hy : y = 0
  · subst hy
    simp [parts_zero] at h
    simp [← h]
  · have : len ≠ 0 := fun e => by
      rw [e] at h
      have := h0.1 (List.eq_nil_of_length_eq_zero h)
      omega
    rw [if_neg this]
    by_cases hn : y < 0
    · simp [hn]
    · simp [hn, hy]

/-- A call that hands back two numbers. -/
def RetII (n m : Int) (w : World) (e : Ending) (w' : World) : Prop := e = .returned (.tuple #[.int .i64 n, .int .i64 m]) ∧ Below w.heap.size w w'

theorem heap5_4 (w : World) (o p q r s : Obj) : (((((w.alloc o).alloc p).alloc q).alloc r).alloc s).heap[w.heap.size + 4]? = some s := by
  have := heap_new ((((w.alloc o).alloc p).alloc q).alloc r) s
  simpa using this
theorem kept5 (w : World) (o p q r s : Obj) {w0 : World} (hb : Below (((((w.alloc o).alloc p).alloc q).alloc r).alloc s).heap.size (((((w.alloc o).alloc p).alloc q).alloc r).alloc s) w0) :
    w0.heap[w.heap.size]? = some o ∧ w0.heap[w.heap.size + 1]? = some p ∧ w0.heap[w.heap.size + 2]? = some q ∧ w0.heap[w.heap.size + 3]? = some r ∧ w.heap.size + 4 < w0.heap.size ∧ Below w.heap.size w w0 := by
  have hs := hb.size
  simp at hs
  have h4 := kept4 w o p q r (w0 := (((((w.alloc o).alloc p).alloc q).alloc r).alloc s)) ((Below.refl _ _).alloc (Nat.le_refl _) s)
  refine ⟨?_, ?_, ?_, ?_, by omega, h4.2.2.2.2.2.trans (hb.mono (by simp; omega))⟩
  · rw [hb.block _ (by simp <;> omega)]; exact h4.1
  · rw [hb.block _ (by simp <;> omega)]; exact h4.2.1
  · rw [hb.block _ (by simp <;> omega)]; exact h4.2.2.1
  · rw [hb.block _ (by simp <;> omega)]; exact h4.2.2.2.1

set_option maxRecDepth 100000 in
set_option maxHeartbeats 2000000 in
theorem cross_bad (n1 : Bool) (a1 : Option Addr) (l1 c1 : Nat) (x1 : List Int) (n2 : Bool) (a2 : Option Addr) (l2 c2 : Nat) (x2 : List Int) (n3 : Bool) (a3 : Option Addr) (l3 c3 : Nat) (x3 : List Int) (n4 : Bool) (a4 : Option Addr) (l4 c4 : Nat) (x4 : List Int) (w : World)
    (h1 : Sl w a1 l1 c1 x1) (h2 : Sl w a2 l2 c2 x2) (h3 : Sl w a3 l3 c3 x3) (h4 : Sl w a4 l4 c4 x4) (hno : (okInt n1 x1 && (okInt n2 x2 && (okInt n3 x3 && okInt n4 x4))) = false) :
    Calls Tryz.prog 58 #[.agg #[.bool n1, .slice a1 l1 c1], .agg #[.bool n2, .slice a2 l2 c2], .agg #[.bool n3, .slice a3 l3 c3], .agg #[.bool n4, .slice a4 l4 c4]] w (RetII 0 10 w) := by
  have hall' := all_any (w.heap.size + 4) [⟨n1, a1, l1, c1, x1⟩, ⟨n2, a2, l2, c2, x2⟩, ⟨n3, a3, l3, c3, x3⟩, ⟨n4, a4, l4, c4, x4⟩] _ (heap5_4 w (.cells #[.bool n1, .slice a1 l1 c1] 24) (.cells #[.bool n2, .slice a2 l2 c2] 24) (.cells #[.bool n3, .slice a3 l3 c3] 24) (.cells #[.bool n4, .slice a4 l4 c4] 24) _) (by
    intro d hd
    simp only [List.mem_cons, List.not_mem_nil, or_false] at hd
    rcases hd with rfl | rfl | rfl | rfl
    · exact ((((h1.alloc _).alloc _).alloc _).alloc _).alloc _
    · exact ((((h2.alloc _).alloc _).alloc _).alloc _).alloc _
    · exact ((((h3.alloc _).alloc _).alloc _).alloc _).alloc _
    · exact ((((h4.alloc _).alloc _).alloc _).alloc _).alloc _) (by simp)
  have he : errOf (List.all [(⟨n1, a1, l1, c1, x1⟩ : Dat), ⟨n2, a2, l2, c2, x2⟩, ⟨n3, a3, l3, c3, x3⟩, ⟨n4, a4, l4, c4, x4⟩] Dat.ok) = 10 := by
    have : List.all [(⟨n1, a1, l1, c1, x1⟩ : Dat), ⟨n2, a2, l2, c2, x2⟩, ⟨n3, a3, l3, c3, x3⟩, ⟨n4, a4, l4, c4, x4⟩] Dat.ok = (okInt n1 x1 && (okInt n2 x2 && (okInt n3 x3 && okInt n4 x4))) := by simp [Dat.ok]
    rw [this, hno]; rfl
  rw [he] at hall'
  have Hall := Lib.hid hall'
  clear hall' he
  go_enter Tryz.func58, Tryz.ntmps58
  go_wp2_with fail
  refine (Hall.out).mono ?_
  rintro e w1 ⟨rfl, hb⟩
  have hbb := (kept5 _ _ _ _ _ _ hb).2.2.2.2.2
  clear hb
  go_wp2
  go_ret2
  exact ⟨rfl, hbb⟩
end Go.Proofs.YtfjnplhhgdfepaaGreatDoor

/- The ways to combine: refuse.., and the map of ways. -/
namespace Go.Proofs.YtfjnplhhgdfepaaGreatDoor
open Go.RowKit Go.Maps

theorem refuseNone_any (neg : Bool) (ao : Option Addr) (len cap : Nat) (w : World) :
    Calls Tryz.prog 146 #[.agg #[.bool neg, .slice ao len cap]] w (RetB 0 w) := by
  go_enter Tryz.func146, Tryz.ntmps146
  go_wp2
  go_ret
  exact ⟨rfl, (Below.refl _ w).alloc (Nat.le_refl _) _⟩
set_option maxRecDepth 100000 in
set_option maxHeartbeats 400000 in
theorem refuseZero_any (neg : Bool) (ao : Option Addr) (len cap : Nat) (w : World) (hm : len ≤ 9223372036854775807) :
    Calls Tryz.prog 148 #[.agg #[.bool neg, .slice ao len cap]] w (RetB (if len = 0 then 11 else 0) w) := by
  have hs := fun w => sign_any neg ao len cap w hm
  by_cases h : len = 0
  · subst h
    have he : signOf neg 0 = 0 := by unfold signOf; rw [if_pos rfl]
    rw [he] at hs
    rw [if_pos rfl]
    have Hs := Lib.hid hs
    clear hs he
    go_enter Tryz.func148, Tryz.ntmps148
    go_wp2_with fail
    refine (Hs.out _).mono ?_
    rintro e w1 ⟨rfl, hb⟩
    go_wp2
    go_ret
    exact ⟨rfl, (kept1 _ _ hb).2.2⟩
  · have he : signOf neg len ≠ 0 := by unfold signOf; rw [if_neg h]; split <;> omega
    rw [if_neg h]
    generalize signOf neg len = s at he hs
    have he' : (s == 0) = false := by simpa using he
    have Hs := Lib.hid hs
    clear hs he
    go_enter Tryz.func148, Tryz.ntmps148
    go_wp2_with fail
    refine (Hs.out _).mono ?_
    rintro e w1 ⟨rfl, hb⟩
    go_wp2
    go_ret
    exact ⟨rfl, (kept1 _ _ hb).2.2⟩
set_option maxRecDepth 100000 in
set_option maxHeartbeats 400000 in
theorem refuseNegative_any (neg : Bool) (ao : Option Addr) (len cap : Nat) (w : World) (hm : len ≤ 9223372036854775807) :
    Calls Tryz.prog 150 #[.agg #[.bool neg, .slice ao len cap]] w (RetB (if signOf neg len < 0 then 1 else 0) w) := by
  have hs := fun w => sign_any neg ao len cap w hm
  generalize signOf neg len = s at hs
  have Hs := Lib.hid hs
  clear hs
  by_cases h : s < 0
  · rw [if_pos h]
    go_enter Tryz.func150, Tryz.ntmps150
    go_wp2_with fail
    refine (Hs.out _).mono ?_
    rintro e w1 ⟨rfl, hb⟩
    go_wp2
    go_ret
    exact ⟨rfl, (kept1 _ _ hb).2.2⟩
  · rw [if_neg h]
    go_enter Tryz.func150, Tryz.ntmps150
    go_wp2_with fail
    refine (Hs.out _).mono ?_
    rintro e w1 ⟨rfl, hb⟩
    go_wp2
    go_ret
    exact ⟨rfl, (kept1 _ _ hb).2.2⟩

def wayV (a b : Nat) : Value := .agg #[.func (.func a) #[] #[], .func (.func b) #[] #[]]
def wayD (a b : Nat) : DataW Unit := .agg [.lit (.int .i64 a), .lit (.int .i64 b)]
theorem wayV_inj {a b c d : Nat} (h : wayV a b = wayV c d) : a = c ∧ b = d := by
  unfold wayV at h
  injection h with h
  have h1 := congrArg (fun x : Array Value => x[0]?) h
  have h2 := congrArg (fun x : Array Value => x[1]?) h
  simp at h1 h2
  exact ⟨h1, h2⟩
theorem wayD_inj {a b c d : Nat} (h : wayD a b = wayD c d) : a = c ∧ b = d := by
  unfold wayD at h
  injection h with h
  simp at h
  omega
open Classical in
/-- How a way reads: as the numbers of its two functions. -/
noncomputable def wayR (v : Value) : Option (DataW Unit × List MemPlace) :=
  if h : ∃ p : Nat × Nat, v = wayV p.1 p.2 then some (wayD h.choose.1 h.choose.2, []) else some (.lit (.bool false), [])
theorem wayR_mk (a b : Nat) : wayR (wayV a b) = some (wayD a b, []) := by
  have h : ∃ p : Nat × Nat, wayV a b = wayV p.1 p.2 := ⟨(a, b), rfl⟩
  unfold wayR
  rw [dif_pos h]
  obtain ⟨h1, h2⟩ := wayV_inj h.choose_spec
  rw [← h1, ← h2]
theorem wayR_inv {v : Value} {a b : Nat} {ps : List MemPlace} (h : wayR v = some (wayD a b, ps)) : v = wayV a b := by
  unfold wayR at h
  split at h
  · rename_i hh
    injection h with h
    injection h with h _
    obtain ⟨h1, h2⟩ := wayD_inj h
    rw [← h1, ← h2]
    exact hh.choose_spec
  · injection h with h
    injection h with h _
    cases h
def K (n : Int) : Lit := .int .u8 n
/-- What the map of ways reads as. -/
def waysD : DataW Unit := ((((((DataW.map []).put (K 43) (wayD 146 147)).put (K 45) (wayD 146 130)).put (K 42) (wayD 146 109)).put (K 47) (wayD 148 106)).put (K 37) (wayD 148 149)).put (K 94) (wayD 150 151)

theorem keyed : Keyed Tryz.prog 5 := int_keyed (q := .u8) Tryz.underlying5
theorem key43 : keyOf Tryz.prog 5 (.int .u8 43) = some (K 43) := by kernel_rfl
theorem key45 : keyOf Tryz.prog 5 (.int .u8 45) = some (K 45) := by kernel_rfl
theorem key42 : keyOf Tryz.prog 5 (.int .u8 42) = some (K 42) := by kernel_rfl
theorem key47 : keyOf Tryz.prog 5 (.int .u8 47) = some (K 47) := by kernel_rfl
theorem key37 : keyOf Tryz.prog 5 (.int .u8 37) = some (K 37) := by kernel_rfl
theorem key94 : keyOf Tryz.prog 5 (.int .u8 94) = some (K 94) := by kernel_rfl
set_option maxRecDepth 100000 in
set_option maxHeartbeats 2000000 in
theorem ways_any (w : World) : Calls Tryz.prog 127 #[] w fun e w' => ∃ b, e = .returned (.map (some b)) ∧ w.heap.size ≤ b ∧ w'.ownsMap Tryz.prog 5 wayR b 6 waysD ∧ Below w.heap.size w w' := by
  have hmm := @run_makeMap Tryz.prog
  obtain ⟨w1, hr1, ho1, hg1⟩ := (World.ownsMap_made w Tryz.prog 5 wayR).update keyed Tryz.underlying123 (by unfold maxLen; omega) (val := wayV 146 147) key43 (wayR_mk _ _)
  obtain ⟨w2, hr2, ho2, hg2⟩ := ho1.update keyed Tryz.underlying123 (by unfold maxLen; omega) (val := wayV 146 130) key45 (wayR_mk _ _)
  obtain ⟨w3, hr3, ho3, hg3⟩ := ho2.update keyed Tryz.underlying123 (by unfold maxLen; omega) (val := wayV 146 109) key42 (wayR_mk _ _)
  obtain ⟨w4, hr4, ho4, hg4⟩ := ho3.update keyed Tryz.underlying123 (by unfold maxLen; omega) (val := wayV 148 106) key47 (wayR_mk _ _)
  obtain ⟨w5, hr5, ho5, hg5⟩ := ho4.update keyed Tryz.underlying123 (by unfold maxLen; omega) (val := wayV 148 149) key37 (wayR_mk _ _)
  obtain ⟨w6, hr6, ho6, hg6⟩ := ho5.update keyed Tryz.underlying123 (by unfold maxLen; omega) (val := wayV 150 151) key94 (wayR_mk _ _)
  have hb1 := ((Below.refl w.heap.size w).alloc (Nat.le_refl _) (.map #[] 0)).grown hg1 (by simp) (by simp)
  have hz1 : w.heap.size + 1 ≤ w1.heap.size := by have := hg1.size; simpa using this
  have hb2 := hb1.grown hg2 (by omega) (by simp)
  have hb3 := hb2.grown hg3 (by have := hg2.size; omega) (by simp)
  have hb4 := hb3.grown hg4 (by have := hg2.size; have := hg3.size; omega) (by simp)
  have hb5 := hb4.grown hg5 (by have := hg2.size; have := hg3.size; have := hg4.size; omega) (by simp)
  have hB := Lib.hid (hb5.grown hg6 (by have := hg2.size; have := hg3.size; have := hg4.size; have := hg5.size; omega) (by simp))
  clear hb1 hb2 hb3 hb4 hb5 hz1
  have HO := Lib.hid ho6
  clear ho1 ho2 ho3 ho4 ho5 ho6 hg1 hg2 hg3 hg4 hg5 hg6
  unfold wayV at hr1 hr2 hr3 hr4 hr5 hr6
  go_enter Tryz.func127, Tryz.ntmps127
  go_wp2
  go_ret
  exact ⟨w.heap.size, rfl, Nat.le_refl _, HO.out, hB.out⟩
end Go.Proofs.YtfjnplhhgdfepaaGreatDoor

/- combine. -/
namespace Go.Proofs.YtfjnplhhgdfepaaGreatDoor
open Go.RowKit Go.Maps

set_option maxHeartbeats 1000000 in
theorem comb1_any (fr fa gw ga gb : Nat) (sx : Bool) (ax : Option Addr) (la ca : Nat) (sy : Bool) (ay : Option Addr) (lb cb : Nat) (z : Int) (w : World)
    (hcf : ∀ x y w, (callFunc fa #[x, y]).run Tryz.prog w = .ok (.enter fa #[x, y]) w)
    (hW : w.heap[gw]? = some (.cells #[.func (.func fr) #[] #[], .func (.func fa) #[] #[]] 122 (0, 0)))
    (hA : w.heap[ga]? = some (.cells #[.bool sx, .slice ax la ca] 24 (0, 0))) (hB : w.heap[gb]? = some (.cells #[.bool sy, .slice ay lb cb] 24 (0, 0)))
    (hap : ∀ w1, Below w.heap.size w w1 → Calls Tryz.prog fa #[.agg #[.bool sx, .slice ax la ca], .agg #[.bool sy, .slice ay lb cb]] w1 (Calc z w1)) :
    Calls Tryz.prog 128 #[.pointer (some ⟨gw, 0, none⟩), .pointer (some ⟨ga, 0, none⟩), .pointer (some ⟨gb, 0, none⟩)] w (Calc z w) := by
  obtain ⟨w1, w2, w3, w4, w5⟩ := box2 hW
  obtain ⟨k1, k2, k3, k4, k5⟩ := box2 hA
  obtain ⟨l1, l2, l3, l4, l5⟩ := box2 hB
  have Hap := Lib.hid hap
  clear hap hW hA hB
  go_enter Tryz.func128, Tryz.ntmps128
  go_wp2_with fail
  refine (Hap.out _ ((Below.refl _ w).alloc (Nat.le_refl _) _)).mono ?_
  rintro e w6 h
  rcases h with ⟨ao, len, c2, rfl, hs, hb⟩ | ⟨⟨u, pv, rfl⟩, hb, hl⟩
  · obtain ⟨hR, hsz, hbb⟩ := kept1 _ _ hb
    obtain ⟨f1, f2, f3, f4, f5⟩ := box2 hR
    generalize hdz : decide (z < 0) = dz
    have Hdz := Lib.hid hdz
    clear hR hb hdz
    go_wp2
    refine bodyPost_ret (v := .agg #[.bool dz, .slice ao len c2]) (by simp [results, Tryz.results128, go_sem, f1, f2]) rfl ?_
    exact .inl ⟨ao, len, c2, by rw [Hdz.out], hs.store2 f1 f2 _ _, (hbb.setCell (by simp) _).setCell (by simp) _⟩
  · obtain ⟨_, _, hbb⟩ := kept1 _ _ hb
    have Hl := Lib.hid hl
    clear hl hb
    go_wp2
    exact ⟨rfl, .inr ⟨⟨u, pv, rfl⟩, hbb, Hl.out⟩⟩

/-- A way that is in the map: its sign, the numbers of its functions. -/
structure Way (sg : Int) (fr fa : Nat) : Prop where
  key : keyOf Tryz.prog 5 (.int .u8 sg) = some (K sg)
  at_ : ∀ zd, waysD.atKey (K sg) zd = wayD fr fa
  cr : ∀ x w, (callFunc fr #[x]).run Tryz.prog w = .ok (.enter fr #[x]) w
  ca : ∀ x y w, (callFunc fa #[x, y]).run Tryz.prog w = .ok (.enter fa #[x, y]) w

theorem zeroWay (w : World) : (zeroValue 122).run Tryz.prog w = .ok (.agg #[.nilFunc, .nilFunc]) w := by kernel_rfl
theorem wayR_some (v : Value) : ∃ d ps, wayR v = some (d, ps) := by
  unfold wayR
  split
  · exact ⟨_, _, rfl⟩
  · exact ⟨_, _, rfl⟩

theorem heap4 (w : World) (o p q r : Obj) : ((((w.alloc o).alloc p).alloc q).alloc r).heap[w.heap.size + 3]? = some r := heap4_3 w o p q r

set_option maxRecDepth 100000 in
set_option maxHeartbeats 2000000 in
/-- combine, at what are not two integers. -/
theorem combine_bad (sg : Int) (n1 : Bool) (ax : Option Addr) (la ca : Nat) (xs : List Int) (n2 : Bool) (ay : Option Addr) (lb cb : Nat) (ys : List Int) (w : World) (hx : Sl w ax la ca xs) (hy : Sl w ay lb cb ys) (hno : (okInt n1 xs && okInt n2 ys) = false) :
    Calls Tryz.prog 97 #[.int .u8 sg, .agg #[.bool n1, .slice ax la ca], .agg #[.bool n2, .slice ay lb cb]] w (RetE 0 10 w) := by
  have hall' : Calls Tryz.prog 103 #[.slice (some ⟨w.heap.size + 3, 0, none⟩) 2 2] ((((w.alloc (.cells #[.bool n1, .slice ax la ca] 24)).alloc (.cells #[.bool n2, .slice ay lb cb] 24)).alloc (.cells #[.bool false, .slice none 0 0] 24)).alloc (.cells #[.bool n1, .slice ax la ca, .bool n2, .slice ay lb cb] 24)) _ :=
    all_any (w.heap.size + 3) [⟨n1, ax, la, ca, xs⟩, ⟨n2, ay, lb, cb, ys⟩] _ (heap4 w _ _ _ _) (by
    intro d hd
    rcases List.mem_cons.1 hd with rfl | hd
    · exact (((hx.alloc _).alloc _).alloc _).alloc _
    · obtain rfl := List.mem_singleton.1 hd
      exact (((hy.alloc _).alloc _).alloc _).alloc _) (by simp)
  have he : errOf (List.all [(⟨n1, ax, la, ca, xs⟩ : Dat), ⟨n2, ay, lb, cb, ys⟩] Dat.ok) = 10 := by
    have : List.all [(⟨n1, ax, la, ca, xs⟩ : Dat), ⟨n2, ay, lb, cb, ys⟩] Dat.ok = (okInt n1 xs && okInt n2 ys) := by simp [Dat.ok]
    rw [this, hno]; rfl
  rw [he] at hall'
  have Hall := Lib.hid hall'
  clear hall' he
  go_enter Tryz.func97, Tryz.ntmps97
  go_wp2_with fail
  refine (Hall.out).mono ?_
  rintro e w1 ⟨rfl, hb⟩
  obtain ⟨hA, hB, hR, hS, hsz, hbb⟩ := kept4 _ _ _ _ _ hb
  obtain ⟨f1, f2, f3, f4, f5⟩ := box2 hR
  clear hA hB hR hS hb
  go_wp2
  refine bodyPost_ret (v := .tuple #[.agg #[.bool false, .slice none 0 0], .int .i64 10]) (by simp [results, Tryz.results97, go_sem, f1, f2]) rfl ?_
  exact ⟨none, 0, 0, rfl, by simp only [Int.natAbs_zero]; rw [parts_zero]; exact Sl.nil _, (hbb.setCell (by simp; omega) _).setCell (by simp; omega) _⟩
end Go.Proofs.YtfjnplhhgdfepaaGreatDoor

/- combine, at two integers. -/
namespace Go.Proofs.YtfjnplhhgdfepaaGreatDoor
open Go.RowKit Go.Maps

set_option maxRecDepth 100000 in
set_option maxHeartbeats 4000000 in
/-- combine, where the second integer is refused. -/
theorem combine_refused (sg : Int) (fr fa : Nat) (c : Int) (hc : c ≠ 0) (hway : Way sg fr fa) (n1 : Bool) (ax : Option Addr) (la ca : Nat) (xs : List Int) (n2 : Bool) (ay : Option Addr) (lb cb : Nat) (ys : List Int) (w : World) (hx : Sl w ax la ca xs) (hy : Sl w ay lb cb ys) (hno : (okInt n1 xs && okInt n2 ys) = true)
    (hr : ∀ w1, Calls Tryz.prog fr #[.agg #[.bool n2, .slice ay lb cb]] w1 (RetB c w1)) :
    Calls Tryz.prog 97 #[.int .u8 sg, .agg #[.bool n1, .slice ax la ca], .agg #[.bool n2, .slice ay lb cb]] w (RetE 0 c w) := by
  have Hr := Lib.hid hr
  have hc' : (c == 0) = false := by simpa using hc
  clear hr
  have hall' : Calls Tryz.prog 103 #[.slice (some ⟨w.heap.size + 3, 0, none⟩) 2 2] ((((w.alloc (.cells #[.bool n1, .slice ax la ca] 24)).alloc (.cells #[.bool n2, .slice ay lb cb] 24)).alloc (.cells #[.bool false, .slice none 0 0] 24)).alloc (.cells #[.bool n1, .slice ax la ca, .bool n2, .slice ay lb cb] 24)) _ :=
    all_any (w.heap.size + 3) [⟨n1, ax, la, ca, xs⟩, ⟨n2, ay, lb, cb, ys⟩] _ (heap4 w _ _ _ _) (by
    intro d hd
    rcases List.mem_cons.1 hd with rfl | hd
    · exact (((hx.alloc _).alloc _).alloc _).alloc _
    · obtain rfl := List.mem_singleton.1 hd
      exact (((hy.alloc _).alloc _).alloc _).alloc _) (by simp)
  have he : errOf (List.all [(⟨n1, ax, la, ca, xs⟩ : Dat), ⟨n2, ay, lb, cb, ys⟩] Dat.ok) = 0 := by
    have : List.all [(⟨n1, ax, la, ca, xs⟩ : Dat), ⟨n2, ay, lb, cb, ys⟩] Dat.ok = (okInt n1 xs && okInt n2 ys) := by simp [Dat.ok]
    rw [this, hno]; rfl
  rw [he] at hall'
  have Hall := Lib.hid hall'
  have hcr := hway.cr
  have hca := hway.ca
  clear hall' he
  go_enter Tryz.func97, Tryz.ntmps97
  go_wp2_with fail
  refine (Hall.out).mono ?_
  rintro e w1 ⟨rfl, hb⟩
  obtain ⟨hA, hB, hR, hS, hsz, hbb⟩ := kept4 _ _ _ _ _ hb
  have HA := Lib.hid hA; have HB := Lib.hid hB; have HR := Lib.hid hR
  have hy1 := ((((hy.alloc (.cells #[.bool n1, .slice ax la ca] 24)).alloc (.cells #[.bool n2, .slice ay lb cb] 24)).alloc (.cells #[.bool false, .slice none 0 0] 24)).alloc (.cells #[.bool n1, .slice ax la ca, .bool n2, .slice ay lb cb] 24)).below hb
  have hx1 := ((((hx.alloc (.cells #[.bool n1, .slice ax la ca] 24)).alloc (.cells #[.bool n2, .slice ay lb cb] 24)).alloc (.cells #[.bool false, .slice none 0 0] 24)).alloc (.cells #[.bool n1, .slice ax la ca, .bool n2, .slice ay lb cb] 24)).below hb
  clear hA hB hR hS hb
  go_wp2_with fail
  refine (ways_any _).mono ?_
  rintro e w2 ⟨bm, rfl, hbm, ho, hb2⟩
  obtain ⟨zd, zp, hzd⟩ := wayR_some (.agg #[.nilFunc, .nilFunc])
  obtain ⟨v, ps, hrun, hRv⟩ := ho.lookup keyed Tryz.underlying123 (zeroWay w2) hzd hway.key
  rw [hway.at_ zd] at hRv
  obtain rfl := wayR_inv hRv
  unfold wayV at hrun
  have hy2 := hy1.below hb2
  have hx2 := hx1.below hb2
  have hbb2 := hbb.trans (hb2.mono (by omega))
  have hz2 := hb2.size
  have HA2 := Lib.hid ((hb2.block _ (by omega)).trans HA.out)
  have HB2 := Lib.hid ((hb2.block _ (by omega)).trans HB.out)
  have HR2 := Lib.hid ((hb2.block _ (by omega)).trans HR.out)
  have hsz2 : w.heap.size + 3 < w2.heap.size := by omega
  obtain ⟨l1, l2, l3, l4, l5⟩ := box2 HB2.out
  obtain ⟨f1, f2, f3, f4, f5⟩ := box2 HR2.out
  clear HA HB HR hb2 hzd hRv ho hbm hy1 hx1 hbb hz2 hsz
  clear hx2 hy2
  go_wp2_with fail
  refine (Hr.out _).mono ?_
  rintro e w3 ⟨rfl, hb3⟩
  obtain ⟨hWb, hsz3, hbb3⟩ := kept1 _ _ hb3
  obtain ⟨f1, f2, f3, f4, f5⟩ := box2 ((hbb3.block _ (by omega)).trans HR2.out)
  have hbx := hbb2.trans (hbb3.mono (by omega))
  clear hWb hb3 hbb3
  go_wp2
  refine bodyPost_ret (v := .tuple #[.agg #[.bool false, .slice none 0 0], .int .i64 c]) (by simp [results, Tryz.results97, go_sem, f1, f2]) rfl ?_
  exact ⟨none, 0, 0, rfl, by simp only [Int.natAbs_zero]; rw [parts_zero]; exact Sl.nil _, (hbx.setCell (by simp; omega) _).setCell (by simp; omega) _⟩

set_option maxRecDepth 100000 in
set_option maxHeartbeats 4000000 in
/-- combine, where nothing is refused. -/
theorem combine_calc (sg : Int) (fr fa : Nat) (z : Int) (hway : Way sg fr fa) (n1 : Bool) (ax : Option Addr) (la ca : Nat) (xs : List Int) (n2 : Bool) (ay : Option Addr) (lb cb : Nat) (ys : List Int) (w : World) (hx : Sl w ax la ca xs) (hy : Sl w ay lb cb ys) (hno : (okInt n1 xs && okInt n2 ys) = true)
    (hr : ∀ w1, Calls Tryz.prog fr #[.agg #[.bool n2, .slice ay lb cb]] w1 (RetB 0 w1))
    (hap : ∀ w1, Sl w1 ax la ca xs → Sl w1 ay lb cb ys → Calls Tryz.prog fa #[.agg #[.bool n1, .slice ax la ca], .agg #[.bool n2, .slice ay lb cb]] w1 (Calc z w1)) :
    Calls Tryz.prog 97 #[.int .u8 sg, .agg #[.bool n1, .slice ax la ca], .agg #[.bool n2, .slice ay lb cb]] w fun e w' => (Lim z → RetE z 0 w e w') ∧ (¬ Lim z → RetE 0 2 w e w') := by
  have Hr := Lib.hid hr
  have Hap := Lib.hid hap
  clear hr hap
  have hall' : Calls Tryz.prog 103 #[.slice (some ⟨w.heap.size + 3, 0, none⟩) 2 2] ((((w.alloc (.cells #[.bool n1, .slice ax la ca] 24)).alloc (.cells #[.bool n2, .slice ay lb cb] 24)).alloc (.cells #[.bool false, .slice none 0 0] 24)).alloc (.cells #[.bool n1, .slice ax la ca, .bool n2, .slice ay lb cb] 24)) _ :=
    all_any (w.heap.size + 3) [⟨n1, ax, la, ca, xs⟩, ⟨n2, ay, lb, cb, ys⟩] _ (heap4 w _ _ _ _) (by
    intro d hd
    rcases List.mem_cons.1 hd with rfl | hd
    · exact (((hx.alloc _).alloc _).alloc _).alloc _
    · obtain rfl := List.mem_singleton.1 hd
      exact (((hy.alloc _).alloc _).alloc _).alloc _) (by simp)
  have he : errOf (List.all [(⟨n1, ax, la, ca, xs⟩ : Dat), ⟨n2, ay, lb, cb, ys⟩] Dat.ok) = 0 := by
    have : List.all [(⟨n1, ax, la, ca, xs⟩ : Dat), ⟨n2, ay, lb, cb, ys⟩] Dat.ok = (okInt n1 xs && okInt n2 ys) := by simp [Dat.ok]
    rw [this, hno]; rfl
  rw [he] at hall'
  have Hall := Lib.hid hall'
  have hcr := hway.cr
  have hca := hway.ca
  clear hall' he
  go_enter Tryz.func97, Tryz.ntmps97
  go_wp2_with fail
  refine (Hall.out).mono ?_
  rintro e w1 ⟨rfl, hb⟩
  obtain ⟨hA, hB, hR, hS, hsz, hbb⟩ := kept4 _ _ _ _ _ hb
  have HA := Lib.hid hA; have HB := Lib.hid hB; have HR := Lib.hid hR
  have hy1 := ((((hy.alloc (.cells #[.bool n1, .slice ax la ca] 24)).alloc (.cells #[.bool n2, .slice ay lb cb] 24)).alloc (.cells #[.bool false, .slice none 0 0] 24)).alloc (.cells #[.bool n1, .slice ax la ca, .bool n2, .slice ay lb cb] 24)).below hb
  have hx1 := ((((hx.alloc (.cells #[.bool n1, .slice ax la ca] 24)).alloc (.cells #[.bool n2, .slice ay lb cb] 24)).alloc (.cells #[.bool false, .slice none 0 0] 24)).alloc (.cells #[.bool n1, .slice ax la ca, .bool n2, .slice ay lb cb] 24)).below hb
  clear hA hB hR hS hb
  go_wp2_with fail
  refine (ways_any _).mono ?_
  rintro e w2 ⟨bm, rfl, hbm, ho, hb2⟩
  obtain ⟨zd, zp, hzd⟩ := wayR_some (.agg #[.nilFunc, .nilFunc])
  obtain ⟨v, ps, hrun, hRv⟩ := ho.lookup keyed Tryz.underlying123 (zeroWay w2) hzd hway.key
  rw [hway.at_ zd] at hRv
  obtain rfl := wayR_inv hRv
  unfold wayV at hrun
  have hy2 := hy1.below hb2
  have hx2 := hx1.below hb2
  have hbb2 := hbb.trans (hb2.mono (by omega))
  have hz2 := hb2.size
  have HA2 := Lib.hid ((hb2.block _ (by omega)).trans HA.out)
  have HB2 := Lib.hid ((hb2.block _ (by omega)).trans HB.out)
  have HR2 := Lib.hid ((hb2.block _ (by omega)).trans HR.out)
  have hsz2 : w.heap.size + 3 < w2.heap.size := by omega
  obtain ⟨l1, l2, l3, l4, l5⟩ := box2 HB2.out
  obtain ⟨f1, f2, f3, f4, f5⟩ := box2 HR2.out
  clear HA HB HR hb2 hzd hRv ho hbm hy1 hx1 hbb hz2 hsz
  go_wp2_with fail
  refine (Hr.out _).mono ?_
  rintro e w3 ⟨rfl, hb3⟩
  obtain ⟨hWb, hsz3, hbb3⟩ := kept1 _ _ hb3
  have hx3 := hx2.below hbb3
  have hy3 := hy2.below hbb3
  have HA3 := Lib.hid ((hbb3.block _ (by omega)).trans HA2.out)
  have HB3 := Lib.hid ((hbb3.block _ (by omega)).trans HB2.out)
  have HR3 := Lib.hid ((hbb3.block _ (by omega)).trans HR2.out)
  have HW3 := Lib.hid hWb
  have hbx := hbb2.trans (hbb3.mono (by omega))
  have hz3 := hbb3.size
  clear hWb hb3 hbb3 hx2 hy2 f1 f2 f3 f4 f5 l1 l2 l3 l4 l5 HA2 HB2 HR2 hbb2
  have hmf : ∀ (fn : Fn) (first cap : Array Value) (w : World), (Instr.makeFunc fn first cap).run Tryz.prog w = .ok (.func fn first cap) w := fun _ _ _ _ => rfl
  have hin := within_any z 128 #[.pointer (some ⟨w2.heap.size, 0, none⟩), .pointer (some ⟨w.heap.size, 0, none⟩), .pointer (some ⟨w.heap.size + 1, 0, none⟩)] w3 (fun w => by kernel_rfl) (fun w4 hb4 =>
    comb1_any fr fa w2.heap.size w.heap.size (w.heap.size + 1) n1 ax la ca n2 ay lb cb z w4 hca ((hb4.block _ hsz3).trans HW3.out) ((hb4.block _ (by omega)).trans HA3.out) ((hb4.block _ (by omega)).trans HB3.out)
      (fun w5 hb5 => Hap.out w5 ((hx3.below hb4).below hb5) ((hy3.below hb4).below hb5)))
  have Hin := Lib.hid hin
  clear hin
  go_wp2_with fail
  by_cases hlim : Lim z
  · have Hlim := Lib.hid hlim
    clear hlim
    refine (Hin.out.1 Hlim.out).mono ?_
    rintro e w4 ⟨ao, len, c2, rfl, hs, hb4⟩
    obtain ⟨f1, f2, f3, f4, f5⟩ := box2 ((hb4.block _ (by omega)).trans HR3.out)
    generalize hdz : decide (z < 0) = dz
    have Hdz := Lib.hid hdz
    clear hdz
    go_wp2
    refine bodyPost_ret (v := .tuple #[.agg #[.bool dz, .slice ao len c2], .int .i64 0]) (by simp [results, Tryz.results97, go_sem, f1, f2]) rfl ?_
    exact ⟨fun _ => ⟨ao, len, c2, by rw [Hdz.out], hs.store2 f1 f2 _ _, ((hbx.trans (hb4.mono (by omega))).setCell (by simp; omega) _).setCell (by simp; omega) _⟩, fun h => absurd Hlim.out h⟩
  · have Hlim := Lib.hid hlim
    clear hlim
    refine (Hin.out.2 Hlim.out).mono ?_
    rintro e w4 ⟨ao, len, c2, rfl, hs, hb4⟩
    obtain ⟨f1, f2, f3, f4, f5⟩ := box2 ((hb4.block _ (by omega)).trans HR3.out)
    go_wp2
    refine bodyPost_ret (v := .tuple #[.agg #[.bool (decide ((0 : Int) < 0)), .slice ao len c2], .int .i64 2]) (by simp [results, Tryz.results97, go_sem, f1, f2]) rfl ?_
    exact ⟨fun h => absurd h Hlim.out, fun _ => ⟨ao, len, c2, rfl, hs.store2 f1 f2 _ _, ((hbx.trans (hb4.mono (by omega))).setCell (by simp; omega) _).setCell (by simp; omega) _⟩⟩
end Go.Proofs.YtfjnplhhgdfepaaGreatDoor

/- plus. -/
namespace Go.Proofs.YtfjnplhhgdfepaaGreatDoor
open Go.RowKit

set_option maxHeartbeats 2000000 in
/-- plus, where the signs are different and the first number is smaller in size. -/
theorem plus_lt (x y : Int) (ax : Option Addr) (la ca : Nat) (ay : Option Addr) (lb cb : Nat) (w : World) (hx : Sl w ax la ca (parts x.natAbs)) (hy : Sl w ay lb cb (parts y.natAbs)) (hn : lb ≤ 1000000)
    (hs : decide (x < 0) ≠ decide (y < 0)) (hl : x.natAbs < y.natAbs) :
    Calls Tryz.prog 147 #[.agg #[.bool (decide (x < 0)), .slice ax la ca], .agg #[.bool (decide (y < 0)), .slice ay lb cb]] w (RetN (x + y) w) := by
  have hfin := Lib.hid (num_sub y x hs.symm (Nat.le_of_lt hl))
  rw [Int.add_comm y x] at hfin
  generalize hsx : decide (x < 0) = sx at *
  generalize hsy : decide (y < 0) = sy at *
  have hq : (sx == sy) = false := by simpa using hs
  have hc : decide (cmpL (parts x.natAbs) (parts y.natAbs) < 0) = true := by
    rw [cmpL_parts]; unfold cmp3; rw [if_pos (by omega)]; rfl
  generalize hcv : cmpL (parts x.natAbs) (parts y.natAbs) = cv at hc
  clear hsx hsy hs
  go_enter Tryz.func147, Tryz.ntmps147
  go_wp2_with fail
  refine (comp_below _ _ _ _ _ _ _ _ _ (((hx.alloc _).alloc _).alloc _) (((hy.alloc _).alloc _).alloc _)).mono ?_
  rintro e w0 ⟨rfl, hb0⟩
  rw [hcv]
  have hx0 := (((hx.alloc (.cells #[.bool sx, .slice ax la ca] 24)).alloc (.cells #[.bool sy, .slice ay lb cb] 24)).alloc (.cells #[.bool false, .slice none 0 0] 24)).below hb0
  have hy0 := (((hy.alloc (.cells #[.bool sx, .slice ax la ca] 24)).alloc (.cells #[.bool sy, .slice ay lb cb] 24)).alloc (.cells #[.bool false, .slice none 0 0] 24)).below hb0
  obtain ⟨hA, hB, hR, hsz, hbb⟩ := kept3 _ _ _ _ hb0
  have HA := Lib.hid hA; have HB := Lib.hid hB; have HR := Lib.hid hR
  obtain ⟨k1, k2, k3, k4, k5⟩ := box2 hA
  obtain ⟨l1, l2, l3, l4, l5⟩ := box2 hB
  clear hA hB hR hb0 hcv
  go_wp2
  have hn1 : w.heap.size + 1 ≠ w.heap.size := by omega
  have hA3 := (heap_set2_ne (w := (w0.setCell ⟨w.heap.size, 0, none⟩ (.bool sy)).setCell ⟨w.heap.size, 1, none⟩ (.slice ay lb cb)) (g := w.heap.size + 1) (u := .bool sx) (v := .slice ax la ca) hn1.symm).trans (heap_set2 (u := .bool sy) (v := .slice ay lb cb) HA.out)
  have hB3 := heap_set2 (u := .bool sx) (v := .slice ax la ca) ((heap_set2_ne (w := w0) (g := w.heap.size) (u := .bool sy) (v := .slice ay lb cb) hn1).trans HB.out)
  have hR3 := (heap_set2_ne (w := (w0.setCell ⟨w.heap.size, 0, none⟩ (.bool sy)).setCell ⟨w.heap.size, 1, none⟩ (.slice ay lb cb)) (g := w.heap.size + 1) (k := w.heap.size + 2) (u := .bool sx) (v := .slice ax la ca) (by omega)).trans ((heap_set2_ne (w := w0) (g := w.heap.size) (k := w.heap.size + 2) (u := .bool sy) (v := .slice ay lb cb) (by omega)).trans HR.out)
  have l1' : ((w0.setCell ⟨w.heap.size, 0, none⟩ (.bool sy)).setCell ⟨w.heap.size, 1, none⟩ (.slice ay lb cb)).cell? ⟨w.heap.size + 1, 0, none⟩ = _ := set2_other l1 (by simp)
  have l2' : ((w0.setCell ⟨w.heap.size, 0, none⟩ (.bool sy)).setCell ⟨w.heap.size, 1, none⟩ (.slice ay lb cb)).cell? ⟨w.heap.size + 1, 1, none⟩ = _ := set2_other l2 (by simp)
  have hx3 := (hx0.store2 k1 k2 (.bool sy) (.slice ay lb cb)).store2 l1' l2' (.bool sx) (.slice ax la ca)
  have hy3 := (hy0.store2 k1 k2 (.bool sy) (.slice ay lb cb)).store2 l1' l2' (.bool sx) (.slice ax la ca)
  have hb3 := (((hbb.setCell (p := ⟨w.heap.size, 0, none⟩) (Nat.le_refl _) (.bool sy)).setCell (p := ⟨w.heap.size, 1, none⟩) (Nat.le_refl _) (.slice ay lb cb)).setCell (p := ⟨w.heap.size + 1, 0, none⟩) (by simp) (.bool sx)).setCell (p := ⟨w.heap.size + 1, 1, none⟩) (by simp) (.slice ax la ca)
  clear k1 k2 k3 k4 k5 l1 l2 l3 l4 l5 l1' l2' HA HB HR
  obtain ⟨w3, hw3⟩ : ∃ w3, w3 = (((w0.setCell ⟨w.heap.size, 0, none⟩ (.bool sy)).setCell ⟨w.heap.size, 1, none⟩ (.slice ay lb cb)).setCell ⟨w.heap.size + 1, 0, none⟩ (.bool sx)).setCell ⟨w.heap.size + 1, 1, none⟩ (.slice ax la ca) := ⟨_, rfl⟩
  rw [← hw3] at hA3 hB3 hR3 hx3 hy3 hb3 ⊢
  clear hw3 hx0 hy0 hbb
  obtain ⟨k1, k2, k3, k4, k5⟩ := box2 hA3
  obtain ⟨l1, l2, l3, l4, l5⟩ := box2 hB3
  have hsz3 : w.heap.size + 2 < w3.heap.size := (box2 hR3).2.2.2.2
  have HA := Lib.hid hA3; have HB := Lib.hid hB3; have HR := Lib.hid hR3
  clear hA3 hB3 hR3 hsz
  go_region_held3 (fun w' => w'.cell? ⟨w.heap.size, 0, none⟩ = some (.bool sy) ∧ w'.cell? ⟨w.heap.size, 1, none⟩ = some (.slice ay lb cb) ∧ w'.cell? ⟨w.heap.size + 1, 0, none⟩ = some (.bool sx) ∧ w'.cell? ⟨w.heap.size + 1, 1, none⟩ = some (.slice ax la ca)) (first | exact ⟨set2_other m1 (by simp; omega), set2_other m2 (by simp; omega), set2_other n1 (by simp), set2_other n2 (by simp)⟩ | exact ⟨m1, m2, n1, n2⟩ | exact ⟨p1, p2, q1, q2⟩ | exact ⟨k1, k2, l1, l2⟩) (first | (go_at_call 152; (refine (sub_parts _ _ _ _ _ _ _ _ _ (by exact hy3.drew) (by exact hx3.drew) hn (Nat.le_of_lt hl)).mono ?_); rintro e w1 ⟨ao1, len1, cap1, rfl, hs1, hb1⟩; obtain ⟨p1, p2, p3, p4, p5⟩ := box2 (w := w1) (g := w.heap.size) (by rw [hb1.block _ (by show _ < w3.heap.size; omega)]; exact HA.out); obtain ⟨q1, q2, q3, q4, q5⟩ := box2 (w := w1) (g := w.heap.size + 1) (by rw [hb1.block _ (by show _ < w3.heap.size; omega)]; exact HB.out)) | (go_at_call 79; (refine (signed_any _ _ _ _ _ _ hs1 (parts_dig _)).mono ?_); rintro e w2 ⟨ao2, len2, cap2, rfl, hs2, hb2⟩; have hz1 : w3.heap.size ≤ w1.heap.size := hb1.size; obtain ⟨f1, f2, f3, f4, f5⟩ := box2 (w := w2) (g := w.heap.size + 2) (by rw [hb2.block _ (by omega), hb1.block _ (by show _ < w3.heap.size; omega)]; exact HR.out); obtain ⟨m1, m2, m3, m4, m5⟩ := box2 (w := w2) (g := w.heap.size) (by rw [hb2.block _ (by omega), hb1.block _ (by show _ < w3.heap.size; omega)]; exact HA.out); obtain ⟨n1, n2, n3, n4, n5⟩ := box2 (w := w2) (g := w.heap.size + 1) (by rw [hb2.block _ (by omega), hb1.block _ (by show _ < w3.heap.size; omega)]; exact HB.out)))
  all_goals go_wp2
  all_goals (refine bodyPost_ret (v := .agg #[.bool (decide (num sy (val (parts (y.natAbs - x.natAbs))) < 0)), .slice ao2 len2 cap2]) (by simp [results, Tryz.results147, go_sem, f1, f2]) rfl ?_)
  all_goals (rw [hfin.out] at hs2 ⊢; exact ⟨ao2, len2, cap2, rfl, hs2.store2 f1 f2 _ _, ((((hb3.trans ((Below.undrew hb1).mono (by show _ ≤ w3.heap.size; omega))).trans (hb2.mono (by omega))).setCell (by simp; omega) _).setCell (by simp; omega) _)⟩)

/-- plus. -/
theorem plus_any (x y : Int) (ax : Option Addr) (la ca : Nat) (ay : Option Addr) (lb cb : Nat) (w : World) (hx : Sl w ax la ca (parts x.natAbs)) (hy : Sl w ay lb cb (parts y.natAbs)) (hm : la ≤ 1000000) (hn : lb ≤ 1000000) :
    Calls Tryz.prog 147 #[.agg #[.bool (decide (x < 0)), .slice ax la ca], .agg #[.bool (decide (y < 0)), .slice ay lb cb]] w (RetN (x + y) w) := by
  by_cases hs : decide (x < 0) = decide (y < 0)
  · exact plus_same x y ax la ca ay lb cb w hx hy hm hn hs
  · by_cases hl : x.natAbs < y.natAbs
    · exact plus_lt x y ax la ca ay lb cb w hx hy hn hs hl
    · exact plus_ge x y ax la ca ay lb cb w hx hy hm hs (by omega)
end Go.Proofs.YtfjnplhhgdfepaaGreatDoor

/- minus. -/
namespace Go.Proofs.YtfjnplhhgdfepaaGreatDoor
open Go.RowKit

theorem num_id (z : Int) (neg : Bool) (h : decide (z < 0) = neg) : num neg (val (parts z.natAbs)) = z := by rw [← h]; exact num_same z

set_option maxHeartbeats 2000000 in
theorem minus_any (x y : Int) (ax : Option Addr) (la ca : Nat) (ay : Option Addr) (lb cb : Nat) (w : World) (hx : Sl w ax la ca (parts x.natAbs)) (hy : Sl w ay lb cb (parts y.natAbs)) (hm : la ≤ 1000000) (hn : lb ≤ 1000000) :
    Calls Tryz.prog 130 #[.agg #[.bool (decide (x < 0)), .slice ax la ca], .agg #[.bool (decide (y < 0)), .slice ay lb cb]] w (RetN (x - y) w) := by
  have hpl := fun a n c w h1 h2 h3 => plus_any x (-y) ax la ca a n c w h1 (by rw [Int.natAbs_neg]; exact h2) hm h3
  rw [← Int.sub_eq_add_neg] at hpl
  have hop := fun w h => opp_any y ay lb cb w h hn
  generalize hsx : decide (x < 0) = sx at *
  generalize hsy : decide (y < 0) = sy at *
  generalize hsz : decide (-y < 0) = sz at *
  generalize hsv : decide (x - y < 0) = sv at *
  have Hpl := Lib.hid hpl
  have Hop := Lib.hid hop
  have Hsz := Lib.hid hsz
  have Hsv := Lib.hid hsv
  have hlen := Lib.hid hy.length
  clear hpl hop hsx hsy hsz hsv
  go_enter Tryz.func130, Tryz.ntmps130
  go_wp2_with fail
  go_region_held3 (fun w' => w'.cell? ⟨w.heap.size, 0, none⟩ = some (.bool sx) ∧ w'.cell? ⟨w.heap.size, 1, none⟩ = some (.slice ax la ca) ∧ w'.cell? ⟨w.heap.size + 1, 0, none⟩ = some (.bool sy) ∧ w'.cell? ⟨w.heap.size + 1, 1, none⟩ = some (.slice ay lb cb)) (first | exact ⟨set2_other m1 (by simp; omega), set2_other m2 (by simp; omega), set2_other n1 (by simp), set2_other n2 (by simp)⟩ | exact ⟨m1, m2, n1, n2⟩ | exact ⟨k1, k2, l1, l2⟩ | go_keep) (first | (go_at_call 95; (refine (Hop.out _ (by exact (((hy.alloc _).alloc _).alloc _).drew)).mono ?_); rintro e w1 ⟨ao1, len1, cap1, rfl, hs1, hb1⟩; rw [Hsz.out]; have hx1 := ((((hx.alloc _).alloc _).alloc _).drew).below hb1; obtain ⟨hA, hB, hR, hsz1, hbb⟩ := kept3 _ _ _ _ (Below.undrew hb1); obtain ⟨k1, k2, k3, k4, k5⟩ := box2 hA; obtain ⟨l1, l2, l3, l4, l5⟩ := box2 hB; have HA := Lib.hid hA; have HB := Lib.hid hB; have HR := Lib.hid hR; clear hA hB hR hb1) | (go_at_call 147; (refine (Hpl.out _ _ _ _ hx1 (by rwa [Int.natAbs_neg] at hs1) (by have h1 := hs1.length; have h2 := hlen.out; rw [Int.natAbs_neg] at h1; omega)).mono ?_); rintro e w2 ⟨ao2, len2, cap2, rfl, hs2, hb2⟩; rw [Hsv.out]; obtain ⟨f1, f2, f3, f4, f5⟩ := box2 (w := w2) (g := w.heap.size + 2) (by rw [hb2.block _ (by omega)]; exact HR.out); obtain ⟨m1, m2, m3, m4, m5⟩ := box2 (w := w2) (g := w.heap.size) (by rw [hb2.block _ (by omega)]; exact HA.out); obtain ⟨n1, n2, n3, n4, n5⟩ := box2 (w := w2) (g := w.heap.size + 1) (by rw [hb2.block _ (by omega)]; exact HB.out)))
  all_goals go_wp2
  all_goals (refine bodyPost_ret (v := .agg #[.bool sv, .slice ao2 len2 cap2]) (by simp [results, Tryz.results130, go_sem, f1, f2]) rfl ?_)
  all_goals (exact ⟨ao2, len2, cap2, by rw [Hsv.out], hs2.store2 f1 f2 _ _, (((hbb.trans (hb2.mono (by omega))).setCell (by simp; omega) _).setCell (by simp; omega) _)⟩)
end Go.Proofs.YtfjnplhhgdfepaaGreatDoor

/- Add, Sub, Mul, Div, Mod: what combine hands back. -/
namespace Go.Proofs.YtfjnplhhgdfepaaGreatDoor
open Go.RowKit Go.Maps

theorem way_add : Way 43 146 147 := ⟨key43, fun _ => rfl, fun _ _ => by kernel_rfl, fun _ _ _ => by kernel_rfl⟩
theorem way_sub : Way 45 146 130 := ⟨key45, fun _ => rfl, fun _ _ => by kernel_rfl, fun _ _ _ => by kernel_rfl⟩
theorem way_mul : Way 42 146 109 := ⟨key42, fun _ => rfl, fun _ _ => by kernel_rfl, fun _ _ _ => by kernel_rfl⟩
theorem way_div : Way 47 148 106 := ⟨key47, fun _ => rfl, fun _ _ => by kernel_rfl, fun _ _ _ => by kernel_rfl⟩
theorem way_mod : Way 37 148 149 := ⟨key37, fun _ => rfl, fun _ _ => by kernel_rfl, fun _ _ _ => by kernel_rfl⟩
theorem way_pow : Way 94 150 151 := ⟨key94, fun _ => rfl, fun _ _ => by kernel_rfl, fun _ _ _ => by kernel_rfl⟩

set_option maxHeartbeats 1000000 in
theorem wrap_Add (z n : Int) (n1 : Bool) (ax : Option Addr) (la ca : Nat) (xs : List Int) (n2 : Bool) (ay : Option Addr) (lb cb : Nat) (ys : List Int) (w : World) (hx : Sl w ax la ca xs) (hy : Sl w ay lb cb ys)
    (hc : ∀ w, Sl w ax la ca xs → Sl w ay lb cb ys → Calls Tryz.prog 97 #[.int .u8 43, .agg #[.bool n1, .slice ax la ca], .agg #[.bool n2, .slice ay lb cb]] w (RetE z n w)) :
    Calls Tryz.prog 44 #[.agg #[.bool n1, .slice ax la ca], .agg #[.bool n2, .slice ay lb cb]] w (RetE z n w) := by
  have Hc := Lib.hid hc
  clear hc
  go_enter Tryz.func44, Tryz.ntmps44
  go_wp2_with fail
  refine (Hc.out _ (((hx.alloc _).alloc _).alloc _) (((hy.alloc _).alloc _).alloc _)).mono ?_
  rintro e w0 ⟨aq, lq, cq, rfl, hsq, hb0⟩
  obtain ⟨hA, hB, hR, hsz, hbb⟩ := kept3 _ _ _ _ hb0
  obtain ⟨f1, f2, f3, f4, f5⟩ := box2 hR
  clear hA hB hR hb0
  generalize hdq : decide (z < 0) = dq at *
  have Hdq := Lib.hid hdq
  clear hdq
  go_wp2
  refine bodyPost_ret (v := .tuple #[.agg #[.bool dq, .slice aq lq cq], .int .i64 n]) (by simp [results, Tryz.results44, go_sem, f1, f2]) rfl ?_
  exact ⟨aq, lq, cq, by rw [Hdq.out], hsq.store2 f1 f2 _ _, (hbb.setCell (by simp; omega) _).setCell (by simp; omega) _⟩

set_option maxHeartbeats 1000000 in
theorem wrap_Sub (z n : Int) (n1 : Bool) (ax : Option Addr) (la ca : Nat) (xs : List Int) (n2 : Bool) (ay : Option Addr) (lb cb : Nat) (ys : List Int) (w : World) (hx : Sl w ax la ca xs) (hy : Sl w ay lb cb ys)
    (hc : ∀ w, Sl w ax la ca xs → Sl w ay lb cb ys → Calls Tryz.prog 97 #[.int .u8 45, .agg #[.bool n1, .slice ax la ca], .agg #[.bool n2, .slice ay lb cb]] w (RetE z n w)) :
    Calls Tryz.prog 46 #[.agg #[.bool n1, .slice ax la ca], .agg #[.bool n2, .slice ay lb cb]] w (RetE z n w) := by
  have Hc := Lib.hid hc
  clear hc
  go_enter Tryz.func46, Tryz.ntmps46
  go_wp2_with fail
  refine (Hc.out _ (((hx.alloc _).alloc _).alloc _) (((hy.alloc _).alloc _).alloc _)).mono ?_
  rintro e w0 ⟨aq, lq, cq, rfl, hsq, hb0⟩
  obtain ⟨hA, hB, hR, hsz, hbb⟩ := kept3 _ _ _ _ hb0
  obtain ⟨f1, f2, f3, f4, f5⟩ := box2 hR
  clear hA hB hR hb0
  generalize hdq : decide (z < 0) = dq at *
  have Hdq := Lib.hid hdq
  clear hdq
  go_wp2
  refine bodyPost_ret (v := .tuple #[.agg #[.bool dq, .slice aq lq cq], .int .i64 n]) (by simp [results, Tryz.results46, go_sem, f1, f2]) rfl ?_
  exact ⟨aq, lq, cq, by rw [Hdq.out], hsq.store2 f1 f2 _ _, (hbb.setCell (by simp; omega) _).setCell (by simp; omega) _⟩

set_option maxHeartbeats 1000000 in
theorem wrap_Mul (z n : Int) (n1 : Bool) (ax : Option Addr) (la ca : Nat) (xs : List Int) (n2 : Bool) (ay : Option Addr) (lb cb : Nat) (ys : List Int) (w : World) (hx : Sl w ax la ca xs) (hy : Sl w ay lb cb ys)
    (hc : ∀ w, Sl w ax la ca xs → Sl w ay lb cb ys → Calls Tryz.prog 97 #[.int .u8 42, .agg #[.bool n1, .slice ax la ca], .agg #[.bool n2, .slice ay lb cb]] w (RetE z n w)) :
    Calls Tryz.prog 48 #[.agg #[.bool n1, .slice ax la ca], .agg #[.bool n2, .slice ay lb cb]] w (RetE z n w) := by
  have Hc := Lib.hid hc
  clear hc
  go_enter Tryz.func48, Tryz.ntmps48
  go_wp2_with fail
  refine (Hc.out _ (((hx.alloc _).alloc _).alloc _) (((hy.alloc _).alloc _).alloc _)).mono ?_
  rintro e w0 ⟨aq, lq, cq, rfl, hsq, hb0⟩
  obtain ⟨hA, hB, hR, hsz, hbb⟩ := kept3 _ _ _ _ hb0
  obtain ⟨f1, f2, f3, f4, f5⟩ := box2 hR
  clear hA hB hR hb0
  generalize hdq : decide (z < 0) = dq at *
  have Hdq := Lib.hid hdq
  clear hdq
  go_wp2
  refine bodyPost_ret (v := .tuple #[.agg #[.bool dq, .slice aq lq cq], .int .i64 n]) (by simp [results, Tryz.results48, go_sem, f1, f2]) rfl ?_
  exact ⟨aq, lq, cq, by rw [Hdq.out], hsq.store2 f1 f2 _ _, (hbb.setCell (by simp; omega) _).setCell (by simp; omega) _⟩

set_option maxHeartbeats 1000000 in
theorem wrap_Div (z n : Int) (n1 : Bool) (ax : Option Addr) (la ca : Nat) (xs : List Int) (n2 : Bool) (ay : Option Addr) (lb cb : Nat) (ys : List Int) (w : World) (hx : Sl w ax la ca xs) (hy : Sl w ay lb cb ys)
    (hc : ∀ w, Sl w ax la ca xs → Sl w ay lb cb ys → Calls Tryz.prog 97 #[.int .u8 47, .agg #[.bool n1, .slice ax la ca], .agg #[.bool n2, .slice ay lb cb]] w (RetE z n w)) :
    Calls Tryz.prog 50 #[.agg #[.bool n1, .slice ax la ca], .agg #[.bool n2, .slice ay lb cb]] w (RetE z n w) := by
  have Hc := Lib.hid hc
  clear hc
  go_enter Tryz.func50, Tryz.ntmps50
  go_wp2_with fail
  refine (Hc.out _ (((hx.alloc _).alloc _).alloc _) (((hy.alloc _).alloc _).alloc _)).mono ?_
  rintro e w0 ⟨aq, lq, cq, rfl, hsq, hb0⟩
  obtain ⟨hA, hB, hR, hsz, hbb⟩ := kept3 _ _ _ _ hb0
  obtain ⟨f1, f2, f3, f4, f5⟩ := box2 hR
  clear hA hB hR hb0
  generalize hdq : decide (z < 0) = dq at *
  have Hdq := Lib.hid hdq
  clear hdq
  go_wp2
  refine bodyPost_ret (v := .tuple #[.agg #[.bool dq, .slice aq lq cq], .int .i64 n]) (by simp [results, Tryz.results50, go_sem, f1, f2]) rfl ?_
  exact ⟨aq, lq, cq, by rw [Hdq.out], hsq.store2 f1 f2 _ _, (hbb.setCell (by simp; omega) _).setCell (by simp; omega) _⟩

set_option maxHeartbeats 1000000 in
theorem wrap_Mod (z n : Int) (n1 : Bool) (ax : Option Addr) (la ca : Nat) (xs : List Int) (n2 : Bool) (ay : Option Addr) (lb cb : Nat) (ys : List Int) (w : World) (hx : Sl w ax la ca xs) (hy : Sl w ay lb cb ys)
    (hc : ∀ w, Sl w ax la ca xs → Sl w ay lb cb ys → Calls Tryz.prog 97 #[.int .u8 37, .agg #[.bool n1, .slice ax la ca], .agg #[.bool n2, .slice ay lb cb]] w (RetE z n w)) :
    Calls Tryz.prog 52 #[.agg #[.bool n1, .slice ax la ca], .agg #[.bool n2, .slice ay lb cb]] w (RetE z n w) := by
  have Hc := Lib.hid hc
  clear hc
  go_enter Tryz.func52, Tryz.ntmps52
  go_wp2_with fail
  refine (Hc.out _ (((hx.alloc _).alloc _).alloc _) (((hy.alloc _).alloc _).alloc _)).mono ?_
  rintro e w0 ⟨aq, lq, cq, rfl, hsq, hb0⟩
  obtain ⟨hA, hB, hR, hsz, hbb⟩ := kept3 _ _ _ _ hb0
  obtain ⟨f1, f2, f3, f4, f5⟩ := box2 hR
  clear hA hB hR hb0
  generalize hdq : decide (z < 0) = dq at *
  have Hdq := Lib.hid hdq
  clear hdq
  go_wp2
  refine bodyPost_ret (v := .tuple #[.agg #[.bool dq, .slice aq lq cq], .int .i64 n]) (by simp [results, Tryz.results52, go_sem, f1, f2]) rfl ?_
  exact ⟨aq, lq, cq, by rw [Hdq.out], hsq.store2 f1 f2 _ _, (hbb.setCell (by simp; omega) _).setCell (by simp; omega) _⟩

set_option maxHeartbeats 1000000 in
theorem wrap_Pow (z n : Int) (n1 : Bool) (ax : Option Addr) (la ca : Nat) (xs : List Int) (n2 : Bool) (ay : Option Addr) (lb cb : Nat) (ys : List Int) (w : World) (hx : Sl w ax la ca xs) (hy : Sl w ay lb cb ys)
    (hc : ∀ w, Sl w ax la ca xs → Sl w ay lb cb ys → Calls Tryz.prog 97 #[.int .u8 94, .agg #[.bool n1, .slice ax la ca], .agg #[.bool n2, .slice ay lb cb]] w (RetE z n w)) :
    Calls Tryz.prog 54 #[.agg #[.bool n1, .slice ax la ca], .agg #[.bool n2, .slice ay lb cb]] w (RetE z n w) := by
  have Hc := Lib.hid hc
  clear hc
  go_enter Tryz.func54, Tryz.ntmps54
  go_wp2_with fail
  refine (Hc.out _ (((hx.alloc _).alloc _).alloc _) (((hy.alloc _).alloc _).alloc _)).mono ?_
  rintro e w0 ⟨aq, lq, cq, rfl, hsq, hb0⟩
  obtain ⟨hA, hB, hR, hsz, hbb⟩ := kept3 _ _ _ _ hb0
  obtain ⟨f1, f2, f3, f4, f5⟩ := box2 hR
  clear hA hB hR hb0
  generalize hdq : decide (z < 0) = dq at *
  have Hdq := Lib.hid hdq
  clear hdq
  go_wp2
  refine bodyPost_ret (v := .tuple #[.agg #[.bool dq, .slice aq lq cq], .int .i64 n]) (by simp [results, Tryz.results54, go_sem, f1, f2]) rfl ?_
  exact ⟨aq, lq, cq, by rw [Hdq.out], hsq.store2 f1 f2 _ _, (hbb.setCell (by simp; omega) _).setCell (by simp; omega) _⟩

/-- Two integers. -/
structure Two (n1 : Bool) (xs : List Int) (n2 : Bool) (ys : List Int) (x y : Int) : Prop where
  lx : Lim x
  ly : Lim y
  nx : n1 = decide (x < 0)
  ny : n2 = decide (y < 0)
  ex : xs = parts x.natAbs
  ey : ys = parts y.natAbs
theorem two_ok {n1 : Bool} {xs : List Int} {n2 : Bool} {ys : List Int} {x y : Int} (h : Two n1 xs n2 ys x y) : (okInt n1 xs && okInt n2 ys) = true := by
  rw [Bool.and_eq_true, okInt_iff, okInt_iff]
  exact ⟨⟨x, h.lx, h.nx, h.ex⟩, ⟨y, h.ly, h.ny, h.ey⟩⟩
/-- The outcome of a calculation. -/
def Out (z : Int) (w : World) (e : Ending) (w' : World) : Prop := (Lim z → RetE z 0 w e w') ∧ (¬ Lim z → RetE 0 2 w e w')

theorem Add_bad (n1 : Bool) (ax : Option Addr) (la ca : Nat) (xs : List Int) (n2 : Bool) (ay : Option Addr) (lb cb : Nat) (ys : List Int) (w : World) (hx : Sl w ax la ca xs) (hy : Sl w ay lb cb ys) (hno : (okInt n1 xs && okInt n2 ys) = false) :
    Calls Tryz.prog 44 #[.agg #[.bool n1, .slice ax la ca], .agg #[.bool n2, .slice ay lb cb]] w (RetE 0 10 w) :=
  wrap_Add 0 10 n1 ax la ca xs n2 ay lb cb ys w hx hy fun w h1 h2 => combine_bad 43 n1 ax la ca xs n2 ay lb cb ys w h1 h2 hno
theorem Add_ok (x y : Int) (hlx : Lim x) (hly : Lim y) (ax : Option Addr) (la ca : Nat) (ay : Option Addr) (lb cb : Nat) (w : World) (hx : Sl w ax la ca (parts x.natAbs)) (hy : Sl w ay lb cb (parts y.natAbs)) :
    Calls Tryz.prog 44 #[.agg #[.bool (decide (x < 0)), .slice ax la ca], .agg #[.bool (decide (y < 0)), .slice ay lb cb]] w (Out (x + y) w) := by
  have hok := two_ok ⟨hlx, hly, rfl, rfl, rfl, rfl⟩
  have h1 : la ≤ 40 := by have := hlx; unfold Lim at this; rwa [hx.length] at this
  have h2 : lb ≤ 40 := by have := hly; unfold Lim at this; rwa [hy.length] at this
  have hc := fun w hx hy => combine_calc 43 _ _ (x + y) way_add _ ax la ca _ _ ay lb cb _ w hx hy hok (fun w1 => by exact refuseNone_any _ _ _ _ _) (fun w1 hx hy => (plus_any x y _ _ _ _ _ _ w1 hx hy (by omega) (by omega)).mono fun _ _ h => .inl h)
  by_cases hl : Lim (x + y)
  · exact (wrap_Add _ _ _ ax la ca _ _ ay lb cb _ w hx hy fun w hx hy => (hc w hx hy).mono fun _ _ h => h.1 hl).mono fun _ _ h => ⟨fun _ => h, fun n => absurd hl n⟩
  · exact (wrap_Add _ _ _ ax la ca _ _ ay lb cb _ w hx hy fun w hx hy => (hc w hx hy).mono fun _ _ h => h.2 hl).mono fun _ _ h => ⟨fun n => absurd n hl, fun _ => h⟩

theorem Sub_bad (n1 : Bool) (ax : Option Addr) (la ca : Nat) (xs : List Int) (n2 : Bool) (ay : Option Addr) (lb cb : Nat) (ys : List Int) (w : World) (hx : Sl w ax la ca xs) (hy : Sl w ay lb cb ys) (hno : (okInt n1 xs && okInt n2 ys) = false) :
    Calls Tryz.prog 46 #[.agg #[.bool n1, .slice ax la ca], .agg #[.bool n2, .slice ay lb cb]] w (RetE 0 10 w) :=
  wrap_Sub 0 10 n1 ax la ca xs n2 ay lb cb ys w hx hy fun w h1 h2 => combine_bad 45 n1 ax la ca xs n2 ay lb cb ys w h1 h2 hno
theorem Sub_ok (x y : Int) (hlx : Lim x) (hly : Lim y) (ax : Option Addr) (la ca : Nat) (ay : Option Addr) (lb cb : Nat) (w : World) (hx : Sl w ax la ca (parts x.natAbs)) (hy : Sl w ay lb cb (parts y.natAbs)) :
    Calls Tryz.prog 46 #[.agg #[.bool (decide (x < 0)), .slice ax la ca], .agg #[.bool (decide (y < 0)), .slice ay lb cb]] w (Out (x - y) w) := by
  have hok := two_ok ⟨hlx, hly, rfl, rfl, rfl, rfl⟩
  have h1 : la ≤ 40 := by have := hlx; unfold Lim at this; rwa [hx.length] at this
  have h2 : lb ≤ 40 := by have := hly; unfold Lim at this; rwa [hy.length] at this
  have hc := fun w hx hy => combine_calc 45 _ _ (x - y) way_sub _ ax la ca _ _ ay lb cb _ w hx hy hok (fun w1 => by exact refuseNone_any _ _ _ _ _) (fun w1 hx hy => (minus_any x y _ _ _ _ _ _ w1 hx hy (by omega) (by omega)).mono fun _ _ h => .inl h)
  by_cases hl : Lim (x - y)
  · exact (wrap_Sub _ _ _ ax la ca _ _ ay lb cb _ w hx hy fun w hx hy => (hc w hx hy).mono fun _ _ h => h.1 hl).mono fun _ _ h => ⟨fun _ => h, fun n => absurd hl n⟩
  · exact (wrap_Sub _ _ _ ax la ca _ _ ay lb cb _ w hx hy fun w hx hy => (hc w hx hy).mono fun _ _ h => h.2 hl).mono fun _ _ h => ⟨fun n => absurd n hl, fun _ => h⟩

theorem Mul_bad (n1 : Bool) (ax : Option Addr) (la ca : Nat) (xs : List Int) (n2 : Bool) (ay : Option Addr) (lb cb : Nat) (ys : List Int) (w : World) (hx : Sl w ax la ca xs) (hy : Sl w ay lb cb ys) (hno : (okInt n1 xs && okInt n2 ys) = false) :
    Calls Tryz.prog 48 #[.agg #[.bool n1, .slice ax la ca], .agg #[.bool n2, .slice ay lb cb]] w (RetE 0 10 w) :=
  wrap_Mul 0 10 n1 ax la ca xs n2 ay lb cb ys w hx hy fun w h1 h2 => combine_bad 42 n1 ax la ca xs n2 ay lb cb ys w h1 h2 hno
theorem Mul_ok (x y : Int) (hlx : Lim x) (hly : Lim y) (ax : Option Addr) (la ca : Nat) (ay : Option Addr) (lb cb : Nat) (w : World) (hx : Sl w ax la ca (parts x.natAbs)) (hy : Sl w ay lb cb (parts y.natAbs)) :
    Calls Tryz.prog 48 #[.agg #[.bool (decide (x < 0)), .slice ax la ca], .agg #[.bool (decide (y < 0)), .slice ay lb cb]] w (Out (x * y) w) := by
  have hok := two_ok ⟨hlx, hly, rfl, rfl, rfl, rfl⟩
  have h1 : la ≤ 40 := by have := hlx; unfold Lim at this; rwa [hx.length] at this
  have h2 : lb ≤ 40 := by have := hly; unfold Lim at this; rwa [hy.length] at this
  have hc := fun w hx hy => combine_calc 42 _ _ (x * y) way_mul _ ax la ca _ _ ay lb cb _ w hx hy hok (fun w1 => by exact refuseNone_any _ _ _ _ _) (fun w1 hx hy => (times_any x y _ _ _ _ _ _ w1 hx hy (by omega) (by omega)).mono fun _ _ h => .inl h)
  by_cases hl : Lim (x * y)
  · exact (wrap_Mul _ _ _ ax la ca _ _ ay lb cb _ w hx hy fun w hx hy => (hc w hx hy).mono fun _ _ h => h.1 hl).mono fun _ _ h => ⟨fun _ => h, fun n => absurd hl n⟩
  · exact (wrap_Mul _ _ _ ax la ca _ _ ay lb cb _ w hx hy fun w hx hy => (hc w hx hy).mono fun _ _ h => h.2 hl).mono fun _ _ h => ⟨fun n => absurd n hl, fun _ => h⟩

theorem Div_bad (n1 : Bool) (ax : Option Addr) (la ca : Nat) (xs : List Int) (n2 : Bool) (ay : Option Addr) (lb cb : Nat) (ys : List Int) (w : World) (hx : Sl w ax la ca xs) (hy : Sl w ay lb cb ys) (hno : (okInt n1 xs && okInt n2 ys) = false) :
    Calls Tryz.prog 50 #[.agg #[.bool n1, .slice ax la ca], .agg #[.bool n2, .slice ay lb cb]] w (RetE 0 10 w) :=
  wrap_Div 0 10 n1 ax la ca xs n2 ay lb cb ys w hx hy fun w h1 h2 => combine_bad 47 n1 ax la ca xs n2 ay lb cb ys w h1 h2 hno
theorem Div_ok (x y : Int) (hlx : Lim x) (hly : Lim y) (hy0 : y ≠ 0) (ax : Option Addr) (la ca : Nat) (ay : Option Addr) (lb cb : Nat) (w : World) (hx : Sl w ax la ca (parts x.natAbs)) (hy : Sl w ay lb cb (parts y.natAbs)) :
    Calls Tryz.prog 50 #[.agg #[.bool (decide (x < 0)), .slice ax la ca], .agg #[.bool (decide (y < 0)), .slice ay lb cb]] w (Out (flq x y) w) := by
  have hok := two_ok ⟨hlx, hly, rfl, rfl, rfl, rfl⟩
  have h1 : la ≤ 40 := by have := hlx; unfold Lim at this; rwa [hx.length] at this
  have h2 : lb ≤ 40 := by have := hly; unfold Lim at this; rwa [hy.length] at this
  have hc := fun w hx hy => combine_calc 47 _ _ (flq x y) way_div _ ax la ca _ _ ay lb cb _ w hx hy hok (fun w1 => by have := refuseZero_any (decide (y < 0)) ay lb cb w1 (by omega); rwa [if_neg (by have := hy.length; have h3 := parts_nil_iff y.natAbs; intro e; rw [e] at this; exact hy0 (by have := h3.1 (List.eq_nil_of_length_eq_zero this); omega))] at this) (fun w1 hx hy => (quotient_any x y _ _ _ _ _ _ w1 hx hy (by omega) (by omega) hy0).mono fun _ _ h => .inl h)
  by_cases hl : Lim (flq x y)
  · exact (wrap_Div _ _ _ ax la ca _ _ ay lb cb _ w hx hy fun w hx hy => (hc w hx hy).mono fun _ _ h => h.1 hl).mono fun _ _ h => ⟨fun _ => h, fun n => absurd hl n⟩
  · exact (wrap_Div _ _ _ ax la ca _ _ ay lb cb _ w hx hy fun w hx hy => (hc w hx hy).mono fun _ _ h => h.2 hl).mono fun _ _ h => ⟨fun n => absurd n hl, fun _ => h⟩

theorem Mod_bad (n1 : Bool) (ax : Option Addr) (la ca : Nat) (xs : List Int) (n2 : Bool) (ay : Option Addr) (lb cb : Nat) (ys : List Int) (w : World) (hx : Sl w ax la ca xs) (hy : Sl w ay lb cb ys) (hno : (okInt n1 xs && okInt n2 ys) = false) :
    Calls Tryz.prog 52 #[.agg #[.bool n1, .slice ax la ca], .agg #[.bool n2, .slice ay lb cb]] w (RetE 0 10 w) :=
  wrap_Mod 0 10 n1 ax la ca xs n2 ay lb cb ys w hx hy fun w h1 h2 => combine_bad 37 n1 ax la ca xs n2 ay lb cb ys w h1 h2 hno
theorem Mod_ok (x y : Int) (hlx : Lim x) (hly : Lim y) (hy0 : y ≠ 0) (ax : Option Addr) (la ca : Nat) (ay : Option Addr) (lb cb : Nat) (w : World) (hx : Sl w ax la ca (parts x.natAbs)) (hy : Sl w ay lb cb (parts y.natAbs)) :
    Calls Tryz.prog 52 #[.agg #[.bool (decide (x < 0)), .slice ax la ca], .agg #[.bool (decide (y < 0)), .slice ay lb cb]] w (Out (flr x y) w) := by
  have hok := two_ok ⟨hlx, hly, rfl, rfl, rfl, rfl⟩
  have h1 : la ≤ 40 := by have := hlx; unfold Lim at this; rwa [hx.length] at this
  have h2 : lb ≤ 40 := by have := hly; unfold Lim at this; rwa [hy.length] at this
  have hc := fun w hx hy => combine_calc 37 _ _ (flr x y) way_mod _ ax la ca _ _ ay lb cb _ w hx hy hok (fun w1 => by have := refuseZero_any (decide (y < 0)) ay lb cb w1 (by omega); rwa [if_neg (by have := hy.length; have h3 := parts_nil_iff y.natAbs; intro e; rw [e] at this; exact hy0 (by have := h3.1 (List.eq_nil_of_length_eq_zero this); omega))] at this) (fun w1 hx hy => (remainder_any x y _ _ _ _ _ _ w1 hx hy (by omega) (by omega) hy0).mono fun _ _ h => .inl h)
  by_cases hl : Lim (flr x y)
  · exact (wrap_Mod _ _ _ ax la ca _ _ ay lb cb _ w hx hy fun w hx hy => (hc w hx hy).mono fun _ _ h => h.1 hl).mono fun _ _ h => ⟨fun _ => h, fun n => absurd hl n⟩
  · exact (wrap_Mod _ _ _ ax la ca _ _ ay lb cb _ w hx hy fun w hx hy => (hc w hx hy).mono fun _ _ h => h.2 hl).mono fun _ _ h => ⟨fun n => absurd n hl, fun _ => h⟩

theorem Div_zero (x y : Int) (hlx : Lim x) (hly : Lim y) (hy0 : y = 0) (ax : Option Addr) (la ca : Nat) (ay : Option Addr) (lb cb : Nat) (w : World) (hx : Sl w ax la ca (parts x.natAbs)) (hy : Sl w ay lb cb (parts y.natAbs)) :
    Calls Tryz.prog 50 #[.agg #[.bool (decide (x < 0)), .slice ax la ca], .agg #[.bool (decide (y < 0)), .slice ay lb cb]] w (RetE 0 11 w) := by
  have hok := two_ok ⟨hlx, hly, rfl, rfl, rfl, rfl⟩
  have hlb : lb = 0 := by have := hy.length; rw [hy0] at this; simp [parts_zero] at this; omega
  exact wrap_Div 0 11 _ ax la ca _ _ ay lb cb _ w hx hy fun w hx hy => combine_refused 47 _ _ 11 (by omega) way_div _ ax la ca _ _ ay lb cb _ w hx hy hok (fun w1 => by have := refuseZero_any (decide (y < 0)) ay lb cb w1 (by omega); rwa [if_pos hlb] at this)

theorem Mod_zero (x y : Int) (hlx : Lim x) (hly : Lim y) (hy0 : y = 0) (ax : Option Addr) (la ca : Nat) (ay : Option Addr) (lb cb : Nat) (w : World) (hx : Sl w ax la ca (parts x.natAbs)) (hy : Sl w ay lb cb (parts y.natAbs)) :
    Calls Tryz.prog 52 #[.agg #[.bool (decide (x < 0)), .slice ax la ca], .agg #[.bool (decide (y < 0)), .slice ay lb cb]] w (RetE 0 11 w) := by
  have hok := two_ok ⟨hlx, hly, rfl, rfl, rfl, rfl⟩
  have hlb : lb = 0 := by have := hy.length; rw [hy0] at this; simp [parts_zero] at this; omega
  exact wrap_Mod 0 11 _ ax la ca _ _ ay lb cb _ w hx hy fun w hx hy => combine_refused 37 _ _ 11 (by omega) way_mod _ ax la ca _ _ ay lb cb _ w hx hy hok (fun w1 => by have := refuseZero_any (decide (y < 0)) ay lb cb w1 (by omega); rwa [if_pos hlb] at this)
end Go.Proofs.YtfjnplhhgdfepaaGreatDoor

/- Cross, at integers. -/
namespace Go.Proofs.YtfjnplhhgdfepaaGreatDoor
open Go.RowKit

theorem held8 {w3 w4 : World} {g : Nat} {s1 s2 s3 s4 : Bool} {a1 a2 a3 a4 : Option Addr} {l1 c1 l2 c2 l3 c3 l4 c4 : Nat} {t : TypeId}
    (hA : w3.heap[g]? = some (.cells #[.bool s1, .slice a1 l1 c1] t (0, 0))) (hB : w3.heap[g + 1]? = some (.cells #[.bool s2, .slice a2 l2 c2] t (0, 0)))
    (hC : w3.heap[g + 2]? = some (.cells #[.bool s3, .slice a3 l3 c3] t (0, 0))) (hD : w3.heap[g + 3]? = some (.cells #[.bool s4, .slice a4 l4 c4] t (0, 0))) (hb : Below w3.heap.size w3 w4) :
    w4.cell? ⟨g, 0, none⟩ = some (.bool s1) ∧ w4.cell? ⟨g, 1, none⟩ = some (.slice a1 l1 c1) ∧ w4.cell? ⟨g + 1, 0, none⟩ = some (.bool s2) ∧ w4.cell? ⟨g + 1, 1, none⟩ = some (.slice a2 l2 c2) ∧
    w4.cell? ⟨g + 1 + 1, 0, none⟩ = some (.bool s3) ∧ w4.cell? ⟨g + 1 + 1, 1, none⟩ = some (.slice a3 l3 c3) ∧ w4.cell? ⟨g + 1 + 1 + 1, 0, none⟩ = some (.bool s4) ∧ w4.cell? ⟨g + 1 + 1 + 1, 1, none⟩ = some (.slice a4 l4 c4) := by
  obtain ⟨p1, p2, _, _, p5⟩ := box2 hA
  obtain ⟨q1, q2, _, _, q5⟩ := box2 hB
  obtain ⟨r1, r2, _, _, r5⟩ := box2 hC
  obtain ⟨t1, t2, _, _, t5⟩ := box2 hD
  exact ⟨(hb.cell p5).trans p1, (hb.cell p5).trans p2, (hb.cell q5).trans q1, (hb.cell q5).trans q2, (hb.cell r5).trans r1, (hb.cell r5).trans r2, (hb.cell t5).trans t1, (hb.cell t5).trans t2⟩
theorem held8b {w4 w5 : World} {g : Nat} {s1 s2 s3 s4 : Bool} {a1 a2 a3 a4 : Option Addr} {l1 c1 l2 c2 l3 c3 l4 c4 : Nat}
    (h : w4.cell? ⟨g, 0, none⟩ = some (.bool s1) ∧ w4.cell? ⟨g, 1, none⟩ = some (.slice a1 l1 c1) ∧ w4.cell? ⟨g + 1, 0, none⟩ = some (.bool s2) ∧ w4.cell? ⟨g + 1, 1, none⟩ = some (.slice a2 l2 c2) ∧
    w4.cell? ⟨g + 1 + 1, 0, none⟩ = some (.bool s3) ∧ w4.cell? ⟨g + 1 + 1, 1, none⟩ = some (.slice a3 l3 c3) ∧ w4.cell? ⟨g + 1 + 1 + 1, 0, none⟩ = some (.bool s4) ∧ w4.cell? ⟨g + 1 + 1 + 1, 1, none⟩ = some (.slice a4 l4 c4))
    (hg : g + 4 < w4.heap.size) (hb : Below w4.heap.size w4 w5) :
    w5.cell? ⟨g, 0, none⟩ = some (.bool s1) ∧ w5.cell? ⟨g, 1, none⟩ = some (.slice a1 l1 c1) ∧ w5.cell? ⟨g + 1, 0, none⟩ = some (.bool s2) ∧ w5.cell? ⟨g + 1, 1, none⟩ = some (.slice a2 l2 c2) ∧
    w5.cell? ⟨g + 1 + 1, 0, none⟩ = some (.bool s3) ∧ w5.cell? ⟨g + 1 + 1, 1, none⟩ = some (.slice a3 l3 c3) ∧ w5.cell? ⟨g + 1 + 1 + 1, 0, none⟩ = some (.bool s4) ∧ w5.cell? ⟨g + 1 + 1 + 1, 1, none⟩ = some (.slice a4 l4 c4) := by
  obtain ⟨p1, p2, p3, p4, p5, p6, p7, p8⟩ := h
  exact ⟨(hb.cell (by show g < _; omega)).trans p1, (hb.cell (by show g < _; omega)).trans p2, (hb.cell (by show g + 1 < _; omega)).trans p3, (hb.cell (by show g + 1 < _; omega)).trans p4, (hb.cell (by show g + 1 + 1 < _; omega)).trans p5, (hb.cell (by show g + 1 + 1 < _; omega)).trans p6, (hb.cell (by show g + 1 + 1 + 1 < _; omega)).trans p7, (hb.cell (by show g + 1 + 1 + 1 < _; omega)).trans p8⟩

set_option maxRecDepth 100000 in
set_option maxHeartbeats 2000000 in
theorem cross_arg2 (z1 z2 z3 z4 : Int) (L1 : Lim z1) (L2 : Lim z2) (L3 : Lim z3) (L4 : Lim z4) (a1 : Option Addr) (l1 c1 : Nat) (a2 : Option Addr) (l2 c2 : Nat) (a3 : Option Addr) (l3 c3 : Nat) (a4 : Option Addr) (l4 c4 : Nat) (w : World)
    (h1 : Sl w a1 l1 c1 (parts z1.natAbs)) (h2 : Sl w a2 l2 c2 (parts z2.natAbs)) (h3 : Sl w a3 l3 c3 (parts z3.natAbs)) (h4 : Sl w a4 l4 c4 (parts z4.natAbs)) (hy : z2 ≤ 0) :
    Calls Tryz.prog 58 #[.agg #[.bool (decide (z1 < 0)), .slice a1 l1 c1], .agg #[.bool (decide (z2 < 0)), .slice a2 l2 c2], .agg #[.bool (decide (z3 < 0)), .slice a3 l3 c3], .agg #[.bool (decide (z4 < 0)), .slice a4 l4 c4]] w (RetII 0 1 w) := by
  have hall' := all_any (w.heap.size + 4) [⟨decide (z1 < 0), a1, l1, c1, parts z1.natAbs⟩, ⟨decide (z2 < 0), a2, l2, c2, parts z2.natAbs⟩, ⟨decide (z3 < 0), a3, l3, c3, parts z3.natAbs⟩, ⟨decide (z4 < 0), a4, l4, c4, parts z4.natAbs⟩] _ (heap5_4 w (.cells #[.bool (decide (z1 < 0)), .slice a1 l1 c1] 24) (.cells #[.bool (decide (z2 < 0)), .slice a2 l2 c2] 24) (.cells #[.bool (decide (z3 < 0)), .slice a3 l3 c3] 24) (.cells #[.bool (decide (z4 < 0)), .slice a4 l4 c4] 24) _) (by
    intro d hd
    simp only [List.mem_cons, List.not_mem_nil, or_false] at hd
    rcases hd with rfl | rfl | rfl | rfl
    · exact ((((h1.alloc _).alloc _).alloc _).alloc _).alloc _
    · exact ((((h2.alloc _).alloc _).alloc _).alloc _).alloc _
    · exact ((((h3.alloc _).alloc _).alloc _).alloc _).alloc _
    · exact ((((h4.alloc _).alloc _).alloc _).alloc _).alloc _) (by simp)
  have he : errOf (List.all [(⟨decide (z1 < 0), a1, l1, c1, parts z1.natAbs⟩ : Dat), ⟨decide (z2 < 0), a2, l2, c2, parts z2.natAbs⟩, ⟨decide (z3 < 0), a3, l3, c3, parts z3.natAbs⟩, ⟨decide (z4 < 0), a4, l4, c4, parts z4.natAbs⟩] Dat.ok) = 0 := by
    have : List.all [(⟨decide (z1 < 0), a1, l1, c1, parts z1.natAbs⟩ : Dat), ⟨decide (z2 < 0), a2, l2, c2, parts z2.natAbs⟩, ⟨decide (z3 < 0), a3, l3, c3, parts z3.natAbs⟩, ⟨decide (z4 < 0), a4, l4, c4, parts z4.natAbs⟩] Dat.ok = true := by
      simp only [List.all_cons, List.all_nil, Bool.and_true, Bool.and_eq_true, Dat.ok]
      exact ⟨(okInt_iff _ _).2 ⟨z1, L1, rfl, rfl⟩, (okInt_iff _ _).2 ⟨z2, L2, rfl, rfl⟩, (okInt_iff _ _).2 ⟨z3, L3, rfl, rfl⟩, (okInt_iff _ _).2 ⟨z4, L4, rfl, rfl⟩⟩
    rw [this]; rfl
  rw [he] at hall'
  have Hall := Lib.hid hall'
  have hm1 : l1 ≤ 40 := by have := L1; unfold Lim at this; rwa [h1.length] at this
  have hm2 : l2 ≤ 40 := by have := L2; unfold Lim at this; rwa [h2.length] at this
  have hm3 : l3 ≤ 40 := by have := L3; unfold Lim at this; rwa [h3.length] at this
  have hm4 : l4 ≤ 40 := by have := L4; unfold Lim at this; rwa [h4.length] at this
  have hsg2 := fun w => sign_any (decide (z2 < 0)) a2 l2 c2 w (by omega)
  rw [sign_num z2 l2 h2.length] at hsg2
  have hsg4 := fun w => sign_any (decide (z4 < 0)) a4 l4 c4 w (by omega)
  rw [sign_num z4 l4 h4.length] at hsg4
  have hr2 : cmp3 z2 0 ≤ 0 := by unfold cmp3; (repeat' split) <;> omega
  generalize hd1 : decide (z1 < 0) = s1 at *
  generalize hd2 : decide (z2 < 0) = s2 at *
  generalize hd3 : decide (z3 < 0) = s3 at *
  generalize hd4 : decide (z4 < 0) = s4 at *
  generalize cmp3 z2 0 = r2 at *
  generalize cmp3 z4 0 = r4 at *
  have Hs2 := Lib.hid hsg2
  have Hs4 := Lib.hid hsg4
  clear hall' he hsg2 hsg4 hd1 hd2 hd3 hd4
  go_enter Tryz.func58, Tryz.ntmps58
  go_wp2_with fail
  refine (Hall.out).mono ?_
  rintro e w1 ⟨rfl, hb⟩
  obtain ⟨hA, hB, hC, hD, hsz, hbb⟩ := kept5 _ _ _ _ _ _ hb
  have HA := Lib.hid hA; have HB := Lib.hid hB; have HC := Lib.hid hC; have HD := Lib.hid hD
  obtain ⟨b1, b2, b3, b4, b5⟩ := box2 hB
  have g1 := h1.below hbb; have g2 := h2.below hbb; have g3 := h3.below hbb; have g4 := h4.below hbb
  clear hA hB hC hD hb
  go_wp2_with fail
  refine (Hs2.out _).mono ?_
  rintro e w2 ⟨rfl, hb2⟩
  have hz2 := hb2.size
  have HA2 := Lib.hid ((hb2.block _ (by omega)).trans HA.out); have HB2 := Lib.hid ((hb2.block _ (by omega)).trans HB.out); have HC2 := Lib.hid ((hb2.block _ (by omega)).trans HC.out); have HD2 := Lib.hid ((hb2.block _ (by omega)).trans HD.out)
  have k1 := g1.below hb2; have k2 := g2.below hb2; have k3 := g3.below hb2; have k4 := g4.below hb2
  have hbb2 := hbb.trans (hb2.mono (by omega))
  obtain ⟨d1, d2, d3, d4, d5⟩ := box2 HD2.out
  clear hb2 HA HB HC HD b1 b2 b3 b4 b5 g1 g2 g3 g4 hbb
  go_wp2
  go_ret2
  exact ⟨rfl, hbb2⟩

set_option maxRecDepth 100000 in
set_option maxHeartbeats 2000000 in
theorem cross_arg4 (z1 z2 z3 z4 : Int) (L1 : Lim z1) (L2 : Lim z2) (L3 : Lim z3) (L4 : Lim z4) (a1 : Option Addr) (l1 c1 : Nat) (a2 : Option Addr) (l2 c2 : Nat) (a3 : Option Addr) (l3 c3 : Nat) (a4 : Option Addr) (l4 c4 : Nat) (w : World)
    (h1 : Sl w a1 l1 c1 (parts z1.natAbs)) (h2 : Sl w a2 l2 c2 (parts z2.natAbs)) (h3 : Sl w a3 l3 c3 (parts z3.natAbs)) (h4 : Sl w a4 l4 c4 (parts z4.natAbs)) (hy2 : 0 < z2) (hy : z4 ≤ 0) :
    Calls Tryz.prog 58 #[.agg #[.bool (decide (z1 < 0)), .slice a1 l1 c1], .agg #[.bool (decide (z2 < 0)), .slice a2 l2 c2], .agg #[.bool (decide (z3 < 0)), .slice a3 l3 c3], .agg #[.bool (decide (z4 < 0)), .slice a4 l4 c4]] w (RetII 0 1 w) := by
  have hall' := all_any (w.heap.size + 4) [⟨decide (z1 < 0), a1, l1, c1, parts z1.natAbs⟩, ⟨decide (z2 < 0), a2, l2, c2, parts z2.natAbs⟩, ⟨decide (z3 < 0), a3, l3, c3, parts z3.natAbs⟩, ⟨decide (z4 < 0), a4, l4, c4, parts z4.natAbs⟩] _ (heap5_4 w (.cells #[.bool (decide (z1 < 0)), .slice a1 l1 c1] 24) (.cells #[.bool (decide (z2 < 0)), .slice a2 l2 c2] 24) (.cells #[.bool (decide (z3 < 0)), .slice a3 l3 c3] 24) (.cells #[.bool (decide (z4 < 0)), .slice a4 l4 c4] 24) _) (by
    intro d hd
    simp only [List.mem_cons, List.not_mem_nil, or_false] at hd
    rcases hd with rfl | rfl | rfl | rfl
    · exact ((((h1.alloc _).alloc _).alloc _).alloc _).alloc _
    · exact ((((h2.alloc _).alloc _).alloc _).alloc _).alloc _
    · exact ((((h3.alloc _).alloc _).alloc _).alloc _).alloc _
    · exact ((((h4.alloc _).alloc _).alloc _).alloc _).alloc _) (by simp)
  have he : errOf (List.all [(⟨decide (z1 < 0), a1, l1, c1, parts z1.natAbs⟩ : Dat), ⟨decide (z2 < 0), a2, l2, c2, parts z2.natAbs⟩, ⟨decide (z3 < 0), a3, l3, c3, parts z3.natAbs⟩, ⟨decide (z4 < 0), a4, l4, c4, parts z4.natAbs⟩] Dat.ok) = 0 := by
    have : List.all [(⟨decide (z1 < 0), a1, l1, c1, parts z1.natAbs⟩ : Dat), ⟨decide (z2 < 0), a2, l2, c2, parts z2.natAbs⟩, ⟨decide (z3 < 0), a3, l3, c3, parts z3.natAbs⟩, ⟨decide (z4 < 0), a4, l4, c4, parts z4.natAbs⟩] Dat.ok = true := by
      simp only [List.all_cons, List.all_nil, Bool.and_true, Bool.and_eq_true, Dat.ok]
      exact ⟨(okInt_iff _ _).2 ⟨z1, L1, rfl, rfl⟩, (okInt_iff _ _).2 ⟨z2, L2, rfl, rfl⟩, (okInt_iff _ _).2 ⟨z3, L3, rfl, rfl⟩, (okInt_iff _ _).2 ⟨z4, L4, rfl, rfl⟩⟩
    rw [this]; rfl
  rw [he] at hall'
  have Hall := Lib.hid hall'
  have hm1 : l1 ≤ 40 := by have := L1; unfold Lim at this; rwa [h1.length] at this
  have hm2 : l2 ≤ 40 := by have := L2; unfold Lim at this; rwa [h2.length] at this
  have hm3 : l3 ≤ 40 := by have := L3; unfold Lim at this; rwa [h3.length] at this
  have hm4 : l4 ≤ 40 := by have := L4; unfold Lim at this; rwa [h4.length] at this
  have hsg2 := fun w => sign_any (decide (z2 < 0)) a2 l2 c2 w (by omega)
  rw [sign_num z2 l2 h2.length] at hsg2
  have hsg4 := fun w => sign_any (decide (z4 < 0)) a4 l4 c4 w (by omega)
  rw [sign_num z4 l4 h4.length] at hsg4
  have hr2 : 0 < cmp3 z2 0 := by unfold cmp3; (repeat' split) <;> omega
  have hr4 : cmp3 z4 0 ≤ 0 := by unfold cmp3; (repeat' split) <;> omega
  generalize hd1 : decide (z1 < 0) = s1 at *
  generalize hd2 : decide (z2 < 0) = s2 at *
  generalize hd3 : decide (z3 < 0) = s3 at *
  generalize hd4 : decide (z4 < 0) = s4 at *
  generalize cmp3 z2 0 = r2 at *
  generalize cmp3 z4 0 = r4 at *
  have Hs2 := Lib.hid hsg2
  have Hs4 := Lib.hid hsg4
  clear hall' he hsg2 hsg4 hd1 hd2 hd3 hd4
  go_enter Tryz.func58, Tryz.ntmps58
  go_wp2_with fail
  refine (Hall.out).mono ?_
  rintro e w1 ⟨rfl, hb⟩
  obtain ⟨hA, hB, hC, hD, hsz, hbb⟩ := kept5 _ _ _ _ _ _ hb
  have HA := Lib.hid hA; have HB := Lib.hid hB; have HC := Lib.hid hC; have HD := Lib.hid hD
  obtain ⟨b1, b2, b3, b4, b5⟩ := box2 hB
  have g1 := h1.below hbb; have g2 := h2.below hbb; have g3 := h3.below hbb; have g4 := h4.below hbb
  clear hA hB hC hD hb
  go_wp2_with fail
  refine (Hs2.out _).mono ?_
  rintro e w2 ⟨rfl, hb2⟩
  have hz2 := hb2.size
  have HA2 := Lib.hid ((hb2.block _ (by omega)).trans HA.out); have HB2 := Lib.hid ((hb2.block _ (by omega)).trans HB.out); have HC2 := Lib.hid ((hb2.block _ (by omega)).trans HC.out); have HD2 := Lib.hid ((hb2.block _ (by omega)).trans HD.out)
  have k1 := g1.below hb2; have k2 := g2.below hb2; have k3 := g3.below hb2; have k4 := g4.below hb2
  have hbb2 := hbb.trans (hb2.mono (by omega))
  obtain ⟨d1, d2, d3, d4, d5⟩ := box2 HD2.out
  clear hb2 HA HB HC HD b1 b2 b3 b4 b5 g1 g2 g3 g4 hbb
  go_wp2_with fail
  refine (Hs4.out _).mono ?_
  rintro e w3 ⟨rfl, hb3⟩
  have hz3 := hb3.size
  have HA3 := Lib.hid ((hb3.block _ (by omega)).trans HA2.out); have HB3 := Lib.hid ((hb3.block _ (by omega)).trans HB2.out); have HC3 := Lib.hid ((hb3.block _ (by omega)).trans HC2.out); have HD3 := Lib.hid ((hb3.block _ (by omega)).trans HD2.out)
  have m1 := k1.below hb3; have m2 := k2.below hb3; have m3 := k3.below hb3; have m4 := k4.below hb3
  have hbb3 := hbb2.trans (hb3.mono (by omega))
  clear hb3 HA2 HB2 HC2 HD2 d1 d2 d3 d4 d5 k1 k2 k3 k4 hbb2
  go_wp2
  go_ret2
  exact ⟨rfl, hbb3⟩

set_option maxRecDepth 100000 in
set_option maxHeartbeats 4000000 in
theorem cross_ok (z1 z2 z3 z4 : Int) (L1 : Lim z1) (L2 : Lim z2) (L3 : Lim z3) (L4 : Lim z4) (a1 : Option Addr) (l1 c1 : Nat) (a2 : Option Addr) (l2 c2 : Nat) (a3 : Option Addr) (l3 c3 : Nat) (a4 : Option Addr) (l4 c4 : Nat) (w : World)
    (h1 : Sl w a1 l1 c1 (parts z1.natAbs)) (h2 : Sl w a2 l2 c2 (parts z2.natAbs)) (h3 : Sl w a3 l3 c3 (parts z3.natAbs)) (h4 : Sl w a4 l4 c4 (parts z4.natAbs)) (hy2 : 0 < z2) (hy : 0 < z4) :
    Calls Tryz.prog 58 #[.agg #[.bool (decide (z1 < 0)), .slice a1 l1 c1], .agg #[.bool (decide (z2 < 0)), .slice a2 l2 c2], .agg #[.bool (decide (z3 < 0)), .slice a3 l3 c3], .agg #[.bool (decide (z4 < 0)), .slice a4 l4 c4]] w (RetII (cmp3 (z1 * z4) (z3 * z2)) 0 w) := by
  have hall' := all_any (w.heap.size + 4) [⟨decide (z1 < 0), a1, l1, c1, parts z1.natAbs⟩, ⟨decide (z2 < 0), a2, l2, c2, parts z2.natAbs⟩, ⟨decide (z3 < 0), a3, l3, c3, parts z3.natAbs⟩, ⟨decide (z4 < 0), a4, l4, c4, parts z4.natAbs⟩] _ (heap5_4 w (.cells #[.bool (decide (z1 < 0)), .slice a1 l1 c1] 24) (.cells #[.bool (decide (z2 < 0)), .slice a2 l2 c2] 24) (.cells #[.bool (decide (z3 < 0)), .slice a3 l3 c3] 24) (.cells #[.bool (decide (z4 < 0)), .slice a4 l4 c4] 24) _) (by
    intro d hd
    simp only [List.mem_cons, List.not_mem_nil, or_false] at hd
    rcases hd with rfl | rfl | rfl | rfl
    · exact ((((h1.alloc _).alloc _).alloc _).alloc _).alloc _
    · exact ((((h2.alloc _).alloc _).alloc _).alloc _).alloc _
    · exact ((((h3.alloc _).alloc _).alloc _).alloc _).alloc _
    · exact ((((h4.alloc _).alloc _).alloc _).alloc _).alloc _) (by simp)
  have he : errOf (List.all [(⟨decide (z1 < 0), a1, l1, c1, parts z1.natAbs⟩ : Dat), ⟨decide (z2 < 0), a2, l2, c2, parts z2.natAbs⟩, ⟨decide (z3 < 0), a3, l3, c3, parts z3.natAbs⟩, ⟨decide (z4 < 0), a4, l4, c4, parts z4.natAbs⟩] Dat.ok) = 0 := by
    have : List.all [(⟨decide (z1 < 0), a1, l1, c1, parts z1.natAbs⟩ : Dat), ⟨decide (z2 < 0), a2, l2, c2, parts z2.natAbs⟩, ⟨decide (z3 < 0), a3, l3, c3, parts z3.natAbs⟩, ⟨decide (z4 < 0), a4, l4, c4, parts z4.natAbs⟩] Dat.ok = true := by
      simp only [List.all_cons, List.all_nil, Bool.and_true, Bool.and_eq_true, Dat.ok]
      exact ⟨(okInt_iff _ _).2 ⟨z1, L1, rfl, rfl⟩, (okInt_iff _ _).2 ⟨z2, L2, rfl, rfl⟩, (okInt_iff _ _).2 ⟨z3, L3, rfl, rfl⟩, (okInt_iff _ _).2 ⟨z4, L4, rfl, rfl⟩⟩
    rw [this]; rfl
  rw [he] at hall'
  have Hall := Lib.hid hall'
  have hm1 : l1 ≤ 40 := by have := L1; unfold Lim at this; rwa [h1.length] at this
  have hm2 : l2 ≤ 40 := by have := L2; unfold Lim at this; rwa [h2.length] at this
  have hm3 : l3 ≤ 40 := by have := L3; unfold Lim at this; rwa [h3.length] at this
  have hm4 : l4 ≤ 40 := by have := L4; unfold Lim at this; rwa [h4.length] at this
  have hsg2 := fun w => sign_any (decide (z2 < 0)) a2 l2 c2 w (by omega)
  rw [sign_num z2 l2 h2.length] at hsg2
  have hsg4 := fun w => sign_any (decide (z4 < 0)) a4 l4 c4 w (by omega)
  rw [sign_num z4 l4 h4.length] at hsg4
  have hr2 : 0 < cmp3 z2 0 := by unfold cmp3; (repeat' split) <;> omega
  have hr4 : 0 < cmp3 z4 0 := by unfold cmp3; (repeat' split) <;> omega
  have ht1 := fun w hx hy => times_any z1 z4 a1 l1 c1 a4 l4 c4 w hx hy (by omega) (by omega)
  have ht2 := fun w hx hy => times_any z3 z2 a3 l3 c3 a2 l2 c2 w hx hy (by omega) (by omega)
  have hcm := fun a l c a' l' c' w hx hy => compare_any (decide (z1 * z4 < 0)) a l c (parts (z1 * z4).natAbs) (decide (z3 * z2 < 0)) a' l' c' (parts (z3 * z2).natAbs) w hx hy
  rw [cmpI_num] at hcm
  generalize hd1 : decide (z1 < 0) = s1 at *
  generalize hd2 : decide (z2 < 0) = s2 at *
  generalize hd3 : decide (z3 < 0) = s3 at *
  generalize hd4 : decide (z4 < 0) = s4 at *
  have Ht1 := Lib.hid ht1
  have Ht2 := Lib.hid ht2
  have Hcm := Lib.hid hcm
  clear ht1 ht2 hcm
  generalize cmp3 z2 0 = r2 at *
  generalize cmp3 z4 0 = r4 at *
  have Hs2 := Lib.hid hsg2
  have Hs4 := Lib.hid hsg4
  clear hall' he hsg2 hsg4 hd1 hd2 hd3 hd4
  go_enter Tryz.func58, Tryz.ntmps58
  go_wp2_with fail
  refine (Hall.out).mono ?_
  rintro e w1 ⟨rfl, hb⟩
  obtain ⟨hA, hB, hC, hD, hsz, hbb⟩ := kept5 _ _ _ _ _ _ hb
  have HA := Lib.hid hA; have HB := Lib.hid hB; have HC := Lib.hid hC; have HD := Lib.hid hD
  obtain ⟨b1, b2, b3, b4, b5⟩ := box2 hB
  have g1 := h1.below hbb; have g2 := h2.below hbb; have g3 := h3.below hbb; have g4 := h4.below hbb
  clear hA hB hC hD hb
  go_wp2_with fail
  refine (Hs2.out _).mono ?_
  rintro e w2 ⟨rfl, hb2⟩
  have hz2 := hb2.size
  have HA2 := Lib.hid ((hb2.block _ (by omega)).trans HA.out); have HB2 := Lib.hid ((hb2.block _ (by omega)).trans HB.out); have HC2 := Lib.hid ((hb2.block _ (by omega)).trans HC.out); have HD2 := Lib.hid ((hb2.block _ (by omega)).trans HD.out)
  have k1 := g1.below hb2; have k2 := g2.below hb2; have k3 := g3.below hb2; have k4 := g4.below hb2
  have hbb2 := hbb.trans (hb2.mono (by omega))
  obtain ⟨d1, d2, d3, d4, d5⟩ := box2 HD2.out
  clear hb2 HA HB HC HD b1 b2 b3 b4 b5 g1 g2 g3 g4 hbb
  go_wp2_with fail
  refine (Hs4.out _).mono ?_
  rintro e w3 ⟨rfl, hb3⟩
  have hz3 := hb3.size
  have HA3 := Lib.hid ((hb3.block _ (by omega)).trans HA2.out); have HB3 := Lib.hid ((hb3.block _ (by omega)).trans HB2.out); have HC3 := Lib.hid ((hb3.block _ (by omega)).trans HC2.out); have HD3 := Lib.hid ((hb3.block _ (by omega)).trans HD2.out)
  have m1 := k1.below hb3; have m2 := k2.below hb3; have m3 := k3.below hb3; have m4 := k4.below hb3
  have hbb3 := hbb2.trans (hb3.mono (by omega))
  clear hb3 HA2 HB2 HC2 HD2 d1 d2 d3 d4 d5 k1 k2 k3 k4 hbb2
  obtain ⟨A1, A2, _, _, _⟩ := box2 HA3.out
  obtain ⟨B1, B2, _, _, _⟩ := box2 HB3.out
  obtain ⟨C1, C2, _, _, _⟩ := box2 HC3.out
  obtain ⟨D1, D2, _, _, _⟩ := box2 HD3.out
  have hz03 : w.heap.size + 4 < w3.heap.size := by omega
  go_wp2
  go_region_held3 (fun w' => w'.cell? ⟨w.heap.size, 0, none⟩ = some (.bool s1) ∧ w'.cell? ⟨w.heap.size, 1, none⟩ = some (.slice a1 l1 c1) ∧ w'.cell? ⟨w.heap.size + 1, 0, none⟩ = some (.bool s2) ∧ w'.cell? ⟨w.heap.size + 1, 1, none⟩ = some (.slice a2 l2 c2) ∧ w'.cell? ⟨w.heap.size + 1 + 1, 0, none⟩ = some (.bool s3) ∧ w'.cell? ⟨w.heap.size + 1 + 1, 1, none⟩ = some (.slice a3 l3 c3) ∧ w'.cell? ⟨w.heap.size + 1 + 1 + 1, 0, none⟩ = some (.bool s4) ∧ w'.cell? ⟨w.heap.size + 1 + 1 + 1, 1, none⟩ = some (.slice a4 l4 c4)) (first | exact r6 | exact r5 | exact r4' | exact ⟨A1, A2, B1, B2, C1, C2, D1, D2⟩) (first | (go_at_call_of 109 (Value.slice a1 l1 c1); (refine (Ht1.out _ (by exact m1.drew) (by exact m4.drew)).mono ?_); rintro e w4 ⟨ao4, len4, cap4, rfl, hs4, hb4⟩; have hz4 : w3.heap.size ≤ w4.heap.size := hb4.size; have n3 := (m3.drew).below hb4; have n2 := (m2.drew).below hb4; have hbb4 := hbb3.trans ((Below.undrew hb4).mono (by show _ ≤ w3.heap.size; omega)); have r4' := held8 HA3.out HB3.out HC3.out HD3.out (Below.undrew hb4); clear hb4) | (go_at_call_of 109 (Value.slice a3 l3 c3); (refine (Ht2.out _ n3 n2).mono ?_); rintro e w5 ⟨ao5, len5, cap5, rfl, hs5, hb5⟩; have hs45 := hs4.below hb5; have hz5 := hb5.size; have hbb5 := hbb4.trans (hb5.mono (by omega)); have r5 := held8b r4' (by omega) hb5; clear hb5) | (go_at_call 38; (refine (Hcm.out _ _ _ _ _ _ _ hs45 hs5).mono ?_); rintro e w6 ⟨rfl, hb6⟩; have hbb6 := hbb5.trans (hb6.mono (by omega)); have r6 := held8b r5 (by omega) hb6; clear hb6))
  all_goals go_wp2
  all_goals go_ret2
  all_goals exact ⟨rfl, hbb6⟩
end Go.Proofs.YtfjnplhhgdfepaaGreatDoor

/- powerOfUnit. -/
namespace Go.Proofs.YtfjnplhhgdfepaaGreatDoor
open Go.RowKit

theorem parts_mod2 (n : Nat) (h : n ≠ 0) : (parts n).getD 0 0 % 2 = ((n % 2 : Nat) : Int) := by
  rw [parts_pos n (by omega)]
  simp
theorem unit_pow (x : Int) (hx : x.natAbs = 1) (n : Nat) : num (decide (x < 0) && decide (n % 2 = 1)) 1 = x ^ n := by
  rcases (show x = 1 ∨ x = -1 by omega) with rfl | rfl
  · simp [num, Int.one_pow]
  · rcases (show n % 2 = 0 ∨ n % 2 = 1 by omega) with h | h
    · obtain ⟨m, rfl⟩ : ∃ m, n = 2 * m := ⟨n / 2, by omega⟩
      rw [Int.pow_mul]; simp [num, Int.one_pow]
    · obtain ⟨m, rfl⟩ : ∃ m, n = 2 * m + 1 := ⟨n / 2, by omega⟩
      rw [Int.pow_succ, Int.pow_mul]; simp [num, Int.one_pow]

set_option maxHeartbeats 2000000 in
theorem unit_any (x : Int) (n : Nat) (hx1 : x.natAbs ≤ 1) (ax : Option Addr) (la ca : Nat) (ay : Option Addr) (lb cb : Nat) (sy : Bool) (w : World) (hx : Sl w ax la ca (parts x.natAbs)) (hy : Sl w ay lb cb (parts n)) (hm2 : lb ≤ 1000000) :
    Calls Tryz.prog 159 #[.agg #[.bool (decide (x < 0)), .slice ax la ca], .agg #[.bool sy, .slice ay lb cb]] w (RetN (x ^ n) w) := by
  by_cases hn : n = 0
  · subst hn
    obtain rfl : lb = 0 := by have := hy.length; rw [parts_zero] at this; exact this.symm
    have hfr := fun w => from_any 1 w (by omega) (by omega)
    have Hfr := Lib.hid hfr
    clear hfr
    generalize decide (x < 0) = sx
    go_enter Tryz.func159, Tryz.ntmps159
    go_wp2_with fail
    refine (Hfr.out _).mono ?_
    rintro e w0 ⟨ao, len, cap, rfl, hs, hb⟩
    obtain ⟨hA, hB, hR, hsz, hbb⟩ := kept3 _ _ _ _ hb
    obtain ⟨f1, f2, f3, f4, f5⟩ := box2 hR
    clear hA hB hR hb
    go_wp2
    refine bodyPost_ret (v := .agg #[.bool false, .slice ao len cap]) (by simp [results, Tryz.results159, go_sem, f1, f2]) rfl ?_
    exact ⟨ao, len, cap, by simp, by simpa using hs.store2 f1 f2 (.bool false) (.slice ao len cap), (hbb.setCell (by simp; omega) _).setCell (by simp; omega) _⟩
  · have hlb : 0 < lb := by
      have h1 := hy.length
      have h2 := parts_nil_iff n
      rcases Nat.eq_zero_or_pos lb with h | h
      · exact absurd (h2.1 (List.eq_nil_of_length_eq_zero (by omega))) hn
      · exact h
    obtain ⟨by', oy, rfl, hcy⟩ := hy.at hlb
    have hc0 := hcy 0 hlb
    rw [Nat.add_zero] at hc0
    have hbl : by' < w.heap.size := cell_lt hc0
    have hc3 := cell3 hc0
    have hd0 := (parts_dig n).getD 0
    have hmod := parts_mod2 n hn
    generalize (parts n).getD 0 0 = y at *
    have Hmod := Lib.hid hmod
    clear hcy hmod
    by_cases hx0 : x = 0
    · subst hx0
      obtain rfl : la = 0 := by have := hx.length; simp [parts_zero] at this; omega
      have hzp : (0 : Int) ^ n = 0 := Int.zero_pow hn
      rw [hzp]
      have Hzp := Lib.hid hzp
      clear hzp
      have hb3 := below3 w (.cells #[.bool (decide ((0 : Int) < 0)), .slice ax 0 ca] 24) (.cells #[.bool sy, .slice (some ⟨by', oy, none⟩) lb cb] 24) (.cells #[.bool false, .slice none 0 0] 24)
      rcases (show y % 2 = 0 ∨ y % 2 = 1 by omega) with h | h
      all_goals
        go_enter Tryz.func159, Tryz.ntmps159
        go_wp2
        refine bodyPost_ret (v := .agg #[.bool false, .slice none 0 0]) (by simp [results, Tryz.results159, go_sem]) rfl ?_
        exact ⟨none, 0, 0, by simp, by simp only [Int.natAbs_zero]; rw [parts_zero]; exact Sl.nil _, below3 w _ _ _⟩
    · have hx1' : x.natAbs = 1 := by omega
      obtain rfl : la = 1 := by have := hx.length; rw [hx1', parts_1] at this; exact this.symm
      have hup := unit_pow x hx1' n
      have hbit : decide (n % 2 = 1) = decide (y % 2 = 1) := by have := Hmod.out; rcases (show n % 2 = 0 ∨ n % 2 = 1 by omega) with h | h <;> rw [h] at this ⊢ <;> simp [this]
      rw [hbit] at hup
      have Hup := Lib.hid hup
      clear hup hbit
      generalize hsx : decide (x < 0) = sx at *
      clear hsx
      rcases (show y % 2 = 0 ∨ y % 2 = 1 by omega) with h | h
      all_goals
        cases sx
        all_goals
          have hp := Lib.hid Hup.out
          rw [h] at hp
          clear Hup
          have Hp := Lib.hid hp.out
          clear hp
          go_enter Tryz.func159, Tryz.ntmps159
          go_wp2_with fail
          refine (signed_any _ _ _ _ [1] _ (RowOf.sl (heap4_3 w _ _ _ _) 1 rfl (by omega)) (Dig.cons (by omega) (by omega) Dig.nil)).mono ?_
          rintro e w0 ⟨ao, len, cap, rfl, hs, hb⟩
          obtain ⟨hA, hB, hR, hS, hsz, hbb⟩ := kept4 _ _ _ _ _ hb
          obtain ⟨f1, f2, f3, f4, f5⟩ := box2 hR
          clear hA hB hR hS hb
          have hv1 : val [1] = 1 := rfl
          rw [hv1] at hs ⊢
          have Hp2 := Hp.out
          simp only [Bool.false_and, Bool.true_and] at Hp2
          first | (rw [show (decide ((0 : Int) = 1)) = false from rfl] at Hp2) | (simp only [decide_true] at Hp2) | skip
          rw [Hp2] at hs ⊢
          generalize hdz : decide (x ^ n < 0) = dz
          have Hdz := Lib.hid hdz
          clear hdz Hp2 Hp hv1
          go_wp2
          refine bodyPost_ret (v := .agg #[.bool dz, .slice ao len cap]) (by simp [results, Tryz.results159, go_sem, f1, f2]) rfl ?_
          exact ⟨ao, len, cap, by rw [Hdz.out], hs.store2 f1 f2 _ _, (hbb.setCell (by simp; omega) _).setCell (by simp; omega) _⟩
end Go.Proofs.YtfjnplhhgdfepaaGreatDoor

/- Contracts of the functions of package num and of the law's helpers, part 3: each call ends and hands back what its contract says, for all arguments within the contract's premises. -/
import Derived.Shelf.Strings.Builder1
import Derived.Shelf.Strings.Builder2
import Derived.Shelf.Strings.BuilderF
import Derived.Shelf.Strings.BuilderK
import Derived.Shelf.Strconv.Itoa0
import Derived.Shelf.Strconv.Itoa1
import Derived.Shelf.LaysM
import Derived.Shelf.Strconv.Itoa2
import Derived.Shelf.Strconv.Itoa3
import Derived.Shelf.Strings.Repeat
import Derived.Test.YtfjnplhhgdfepaaGreatDoorProg
import Derived.WalkSmall
import Derived.Outline
import Derived.Maps.AppendAt
import Derived.Test.YtfjnplhhgdfepaaGreatDoorK2
set_option linter.all false

/- The library's contracts that num's texts lean on, at this program: strconv.Itoa, strings.Repeat, and the Builder's WriteByte, WriteString and String. -/
namespace Go.Proofs.YtfjnplhhgdfepaaGreatDoor
open Go.Shelf Go.RowKit
def laysM171_ren : Go.Shelf.Ren := ⟨fun | 171 => 81 | 243 => 119 | 246 => 140 | 283 => 154 | 284 => 155 | 285 => 156 | 286 => 157 | 129 => 162 | 317 => 161 | 318 => 163 | 319 => 164 | 320 => 165 | 337 => 168 | 338 => 169 | n => n, fun | 3 => 3 | 9 => 9 | 2 => 2 | 4 => 4 | 171 => 139 | 0 => 0 | 53 => 68 | 37 => 25 | 5 => 5 | 173 => 142 | 212 => 147 | 51 => 134 | 20 => 20 | 213 => 148 | 46 => 92 | 232 => 153 | 233 => 154 | n => n, fun | 17 => 0 | 18 => 2 | 19 => 3 | n => n⟩
theorem laysM171 : Go.Proofs.LaysM.n171 Tryz.prog laysM171_ren := {
  mixed := by kernel_rfl
  f129 := Tryz.func162.trans (congrArg some (by kernel_rfl))
  f171 := Tryz.func81.trans (congrArg some (by kernel_rfl))
  f243 := Tryz.func119.trans (congrArg some (by kernel_rfl))
  f246 := Tryz.func140.trans (congrArg some (by kernel_rfl))
  f283 := Tryz.func154.trans (congrArg some (by kernel_rfl))
  f284 := Tryz.func155.trans (congrArg some (by kernel_rfl))
  f285 := Tryz.func156.trans (congrArg some (by kernel_rfl))
  f286 := Tryz.func157.trans (congrArg some (by kernel_rfl))
  f317 := Tryz.func161.trans (congrArg some (by kernel_rfl))
  f318 := Tryz.func163.trans (congrArg some (by kernel_rfl))
  f319 := Tryz.func164.trans (congrArg some (by kernel_rfl))
  f320 := Tryz.func165.trans (congrArg some (by kernel_rfl))
  f337 := Tryz.func168.trans (congrArg some (by kernel_rfl))
  f338 := Tryz.func169.trans (congrArg some (by kernel_rfl))
  t0 := Tryz.underlying0
  a0 := Tryz.isAgg0
  z0 := Tryz.sizeOf0
  v0 := Tryz.zeroValue0
  t2 := Tryz.underlying2
  a2 := Tryz.isAgg2
  z2 := Tryz.sizeOf2
  v2 := Tryz.zeroValue2
  t3 := Tryz.underlying3
  a3 := Tryz.isAgg3
  z3 := Tryz.sizeOf3
  v3 := Tryz.zeroValue3
  t4 := Tryz.underlying4
  a4 := Tryz.isAgg4
  z4 := Tryz.sizeOf4
  v4 := Tryz.zeroValue4
  t5 := Tryz.underlying5
  a5 := Tryz.isAgg5
  z5 := Tryz.sizeOf5
  v5 := Tryz.zeroValue5
  t9 := Tryz.underlying9
  a9 := Tryz.isAgg9
  z9 := Tryz.sizeOf9
  v9 := Tryz.zeroValue9
  t20 := Tryz.underlying20
  a20 := Tryz.isAgg20
  z20 := Tryz.sizeOf20
  v20 := Tryz.zeroValue20
  t37 := Tryz.underlying25
  a37 := Tryz.isAgg25
  z37 := Tryz.sizeOf25
  v37 := Tryz.zeroValue25
  t46 := Tryz.underlying92
  a46 := Tryz.isAgg92
  z46 := Tryz.sizeOf92
  v46 := Tryz.zeroValue92
  t51 := Tryz.underlying134
  a51 := Tryz.isAgg134
  z51 := Tryz.sizeOf134
  v51 := Tryz.zeroValue134
  t53 := Tryz.underlying68
  a53 := Tryz.isAgg68
  z53 := Tryz.sizeOf68
  v53 := Tryz.zeroValue68
  t171 := Tryz.underlying139
  a171 := Tryz.isAgg139
  z171 := Tryz.sizeOf139
  v171 := Tryz.zeroValue139
  t173 := Tryz.underlying142
  a173 := Tryz.isAgg142
  z173 := Tryz.sizeOf142
  v173 := Tryz.zeroValue142
  t212 := Tryz.underlying147
  a212 := Tryz.isAgg147
  z212 := Tryz.sizeOf147
  v212 := Tryz.zeroValue147
  t213 := Tryz.underlying148
  a213 := Tryz.isAgg148
  z213 := Tryz.sizeOf148
  t232 := Tryz.underlying153
  a232 := Tryz.isAgg153
  z232 := Tryz.sizeOf153
  v232 := Tryz.zeroValue153
  t233 := Tryz.underlying154
  a233 := Tryz.isAgg154
  z233 := Tryz.sizeOf154
  v233 := Tryz.zeroValue154
  g17 := by kernel_rfl
  g18 := by kernel_rfl
  g19 := by kernel_rfl
  i0 := by kernel_rfl
  i2 := by kernel_rfl
  i3 := by kernel_rfl
  i4 := by kernel_rfl
  i5 := by kernel_rfl
  i9 := by kernel_rfl
  i20 := by kernel_rfl
  i37 := by kernel_rfl
  i46 := by kernel_rfl
  i51 := by kernel_rfl
  i53 := by kernel_rfl
  i171 := by kernel_rfl
  i173 := by kernel_rfl
  i212 := by kernel_rfl
  i232 := by kernel_rfl
  i233 := by kernel_rfl
  m17 := by kernel_rfl
  m18 := by kernel_rfl
  m19 := by kernel_rfl }
open Go.RowKit Go.Sort Go.Lib in
/-- strconv.Itoa: "Itoa is equivalent to FormatInt(int64(i), 10).": i's DECIMAL NUMERAL ('Lib.itoa': a '-' where i is negative, then the digits), FOR EVERY int. The world behind the call: the world before it, new blocks behind the heap (the library's 'var a [24]byte'), draws. (LAID: no walk: one application.) -/
theorem strconv_Itoa (n : Int) (h0 : -9223372036854775808 ≤ n) (h1 : n ≤ 9223372036854775807) (w : World) (htab : Lib.TabIs Tryz.prog w "internal/strconv.uint64pow10" .u64 Lib.pow10Tab) :
    Calls Tryz.prog 81 #[.int .i64 n] w fun e w' => e = .returned (.string ⟨(Lib.itoa n).toArray⟩) ∧ ∃ k os, w' = grow (w.drewN k) os := Any.strconv_Itoa laysM171 n h0 h1 w htab
def lays105_ren : Go.Shelf.Ren := ⟨fun | 105 => 83 | 212 => 120 | 99 => 121 | 165 => 122 | 166 => 82 | 170 => 123 | 169 => 84 | 263 => 141 | 264 => 142 | 206 => 143 | 240 => 118 | 241 => 144 | 276 => 139 | 277 => 158 | n => n, fun | 9 => 9 | 3 => 3 | 4 => 4 | 20 => 20 | 0 => 0 | 46 => 92 | 109 => 114 | 5 => 5 | 72 => 75 | 76 => 80 | 51 => 134 | 146 => 135 | 53 => 68 | 148 => 137 | 70 => 73 | 37 => 25 | 75 => 77 | 127 => 119 | 164 => 131 | 80 => 83 | n => n, fun n => n⟩
theorem lays105 : Go.Proofs.Lays.n105 Tryz.prog lays105_ren := {
  mixed := by kernel_rfl
  f99 := Tryz.func121.trans (congrArg some (by kernel_rfl))
  f105 := Tryz.func83.trans (congrArg some (by kernel_rfl))
  f165 := Tryz.func122.trans (congrArg some (by kernel_rfl))
  f166 := Tryz.func82.trans (congrArg some (by kernel_rfl))
  f169 := Tryz.func84.trans (congrArg some (by kernel_rfl))
  f170 := Tryz.func123.trans (congrArg some (by kernel_rfl))
  f206 := Tryz.func143.trans (congrArg some (by kernel_rfl))
  f212 := Tryz.func120.trans (congrArg some (by kernel_rfl))
  f240 := Tryz.func118.trans (congrArg some (by kernel_rfl))
  f241 := Tryz.func144.trans (congrArg some (by kernel_rfl))
  f263 := Tryz.func141.trans (congrArg some (by kernel_rfl))
  f264 := Tryz.func142.trans (congrArg some (by kernel_rfl))
  f276 := Tryz.func139.trans (congrArg some (by kernel_rfl))
  f277 := Tryz.func158.trans (congrArg some (by kernel_rfl))
  t0 := Tryz.underlying0
  a0 := Tryz.isAgg0
  z0 := Tryz.sizeOf0
  v0 := Tryz.zeroValue0
  t3 := Tryz.underlying3
  a3 := Tryz.isAgg3
  z3 := Tryz.sizeOf3
  v3 := Tryz.zeroValue3
  t4 := Tryz.underlying4
  a4 := Tryz.isAgg4
  z4 := Tryz.sizeOf4
  v4 := Tryz.zeroValue4
  t5 := Tryz.underlying5
  a5 := Tryz.isAgg5
  z5 := Tryz.sizeOf5
  v5 := Tryz.zeroValue5
  t9 := Tryz.underlying9
  a9 := Tryz.isAgg9
  z9 := Tryz.sizeOf9
  v9 := Tryz.zeroValue9
  t20 := Tryz.underlying20
  a20 := Tryz.isAgg20
  z20 := Tryz.sizeOf20
  v20 := Tryz.zeroValue20
  t37 := Tryz.underlying25
  a37 := Tryz.isAgg25
  z37 := Tryz.sizeOf25
  v37 := Tryz.zeroValue25
  t46 := Tryz.underlying92
  a46 := Tryz.isAgg92
  z46 := Tryz.sizeOf92
  v46 := Tryz.zeroValue92
  t51 := Tryz.underlying134
  a51 := Tryz.isAgg134
  z51 := Tryz.sizeOf134
  v51 := Tryz.zeroValue134
  t53 := Tryz.underlying68
  a53 := Tryz.isAgg68
  z53 := Tryz.sizeOf68
  v53 := Tryz.zeroValue68
  t70 := Tryz.underlying73
  a70 := Tryz.isAgg73
  z70 := Tryz.sizeOf73
  v70 := Tryz.zeroValue73
  t72 := Tryz.underlying75
  a72 := Tryz.isAgg75
  z72 := Tryz.sizeOf75
  v72 := Tryz.zeroValue75
  t75 := Tryz.underlying77
  a75 := Tryz.isAgg77
  z75 := Tryz.sizeOf77
  v75 := Tryz.zeroValue77
  t76 := Tryz.underlying80
  a76 := Tryz.isAgg80
  z76 := Tryz.sizeOf80
  v76 := Tryz.zeroValue80
  t109 := Tryz.underlying114
  a109 := Tryz.isAgg114
  z109 := Tryz.sizeOf114
  v109 := Tryz.zeroValue114
  t127 := Tryz.underlying119
  a127 := Tryz.isAgg119
  z127 := Tryz.sizeOf119
  v127 := Tryz.zeroValue119
  t146 := Tryz.underlying135
  a146 := Tryz.isAgg135
  z146 := Tryz.sizeOf135
  v146 := Tryz.zeroValue135
  t148 := Tryz.underlying137
  a148 := Tryz.isAgg137
  z148 := Tryz.sizeOf137
  v148 := Tryz.zeroValue137
  t164 := Tryz.underlying131
  a164 := Tryz.isAgg131
  z164 := Tryz.sizeOf131
  v164 := Tryz.zeroValue131 }
theorem Builder_Extra_105 : Builder.Extra Tryz.prog lays105_ren := {
  sizeBuilder := by kernel_rfl
  liesBuilder := by kernel_rfl
  t5 := Tryz.underlying5
  a5 := Tryz.isAgg5
  z5 := Tryz.sizeOf5
  v5 := Tryz.zeroValue5
  infoByte := by kernel_rfl
  cellsByte := by kernel_rfl
  sizeByte := by kernel_rfl
  neB5 := by decide }
open Go.RowKit Go.Lib in
/-- **strings.Repeat: count ≥ 0, the result within one allocation: count copies of s.** (LAID: no walk: one application.) -/
theorem strings_Repeat (s : ByteArray) (c : Nat) (w : World) (hc : c ≤ 9223372036854775807) (hlen : s.size * c ≤ 140737488355328) :
    Calls Tryz.prog 83 #[.string s, .int .i64 c] w fun e w' => e = .returned (.string ⟨(Lib.repeatL s.data.toList c).toArray⟩) ∧ Below w.heap.size w w' := Any.strings_Repeat lays105 Builder_Extra_105 s c w hc hlen
def lays167_ren : Go.Shelf.Ren := ⟨fun | 167 => 80 | 105 => 83 | 212 => 120 | 99 => 121 | 165 => 122 | 166 => 82 | 170 => 123 | 169 => 84 | 263 => 141 | 264 => 142 | 206 => 143 | 240 => 118 | 241 => 144 | 276 => 139 | 277 => 158 | n => n, fun | 9 => 9 | 3 => 3 | 4 => 4 | 20 => 20 | 0 => 0 | 46 => 92 | 109 => 114 | 5 => 5 | 72 => 75 | 76 => 80 | 51 => 134 | 146 => 135 | 53 => 68 | 148 => 137 | 70 => 73 | 37 => 25 | 75 => 77 | 127 => 119 | 164 => 131 | 80 => 83 | n => n, fun n => n⟩
theorem lays167 : Lays.n167 Tryz.prog lays167_ren := {
  f167 := Tryz.func80.trans (congrArg some (by kernel_rfl))
  mixed := lays105.mixed
  f240 := lays105.f240
  f276 := lays105.f276
  t0 := lays105.t0
  a0 := lays105.a0
  z0 := lays105.z0
  v0 := lays105.v0
  t4 := lays105.t4
  a4 := lays105.a4
  z4 := lays105.z4
  v4 := lays105.v4
  t5 := lays105.t5
  a5 := lays105.a5
  z5 := lays105.z5
  v5 := lays105.v5
  t9 := lays105.t9
  a9 := lays105.a9
  z9 := lays105.z9
  v9 := lays105.v9
  t20 := lays105.t20
  a20 := lays105.a20
  z20 := lays105.z20
  v20 := lays105.v20
  t37 := lays105.t37
  a37 := lays105.a37
  z37 := lays105.z37
  v37 := lays105.v37
  t70 := lays105.t70
  a70 := lays105.a70
  z70 := lays105.z70
  v70 := lays105.v70
  t72 := lays105.t72
  a72 := lays105.a72
  z72 := lays105.z72
  v72 := lays105.v72
  t75 := lays105.t75
  a75 := lays105.a75
  z75 := lays105.z75
  v75 := lays105.v75
  t164 := lays105.t164
  a164 := lays105.a164
  z164 := lays105.z164
  v164 := lays105.v164 }
theorem Builder_Extra_167 : Builder.Extra Tryz.prog lays167_ren := {
  sizeBuilder := by kernel_rfl
  liesBuilder := by kernel_rfl
  t5 := Tryz.underlying5
  a5 := Tryz.isAgg5
  z5 := Tryz.sizeOf5
  v5 := Tryz.zeroValue5
  infoByte := by kernel_rfl
  cellsByte := by kernel_rfl
  sizeByte := by kernel_rfl
  neB5 := by decide }

/-- (*strings.Builder).WriteByte: one byte more. -/
theorem writeByte_any (B b : Nat) (bs : List Value) (c : Int) (w : World) (h : Lib.IsBuilderF 75 5 B b bs w) (hlen : bs.length + 1 ≤ 140737488355328) (hBw : B ≤ w.heap.size) :
    Calls Tryz.prog 80 #[.pointer (some ⟨b, 0, none⟩), .int .u8 c] w fun e w' => e = .returned .nilIface ∧ (Lib.BuilderAtF 75 5 B b (.pointer (some ⟨b, 0, none⟩)) (bs ++ [.int .u8 c]) w' ∧ Below B w w' ∧ Lib.OthersKept 5 (some b) w w') :=
  Any.Builder_WriteByte_k lays167 Builder_Extra_167 B b bs c w h hlen hBw
/-- (*strings.Builder).WriteString: a text more. -/
theorem writeString_any (B b : Nat) (bs : List Value) (s : ByteArray) (w : World) (h : Lib.IsBuilderF 75 5 B b bs w) (hlen : bs.length + s.size ≤ 140737488355328) (hBw : B ≤ w.heap.size) :
    Calls Tryz.prog 82 #[.pointer (some ⟨b, 0, none⟩), .string s] w fun e w' => e = .returned (.tuple #[.int .i64 s.size, .nilIface]) ∧ (Lib.BuilderAtF 75 5 B b (.pointer (some ⟨b, 0, none⟩)) (bs ++ Lib.strCells s) w' ∧ Below B w w' ∧ Lib.OthersKept 5 (some b) w w') :=
  Any.Builder_WriteString_k { lays105 with } Builder_Extra_105 B b bs s w h hlen hBw
/-- (*strings.Builder).String: the text. -/
theorem builderString_any (B b : Nat) (l : List UInt8) (w : World) (h : Lib.IsBuilderF 75 5 B b (Lib.byteCells l) w) (hBw : B ≤ w.heap.size) :
    Calls Tryz.prog 84 #[.pointer (some ⟨b, 0, none⟩)] w fun e w' => e = .returned (.string ⟨l.toArray⟩) ∧ (Lib.IsBuilderF 75 5 B b (Lib.byteCells l) w' ∧ Below B w w' ∧ Lib.OthersKept 5 (some b) w w') :=
  Any.Builder_String_any_k { lays105 with } Builder_Extra_105 B b l w h hBw
end Go.Proofs.YtfjnplhhgdfepaaGreatDoor

/- Decimal texts of numbers: mathematics; the library's table of powers of ten, and strconv.Itoa. -/
namespace Go.Proofs.YtfjnplhhgdfepaaGreatDoor
open Go.RowKit Go.Lib

/-- The library's table of powers of ten, as the program's text lays it. -/
def Tab (w : World) : Prop := Lib.TabIs Tryz.prog w "internal/strconv.uint64pow10" .u64 Lib.pow10Tab
theorem tabNamed : Tryz.prog.globalNamed "internal/strconv.uint64pow10" = some 0 := by kernel_rfl
theorem Tab.lt {w : World} (h : Tab w) : 0 < w.heap.size := by
  unfold Tab Lib.TabIs World.var? at h
  simp only [tabNamed, Option.bind_some] at h
  split at h
  · rename_i hh; exact (Array.getElem?_eq_some_iff.1 hh).1
  · cases h
theorem Tab.below {w w' : World} (h : Tab w) (hb : Below w.heap.size w w') : Tab w' := var?_below hb tabNamed h.lt h
theorem Tab.below' {w w' : World} {B : Nat} (h : Tab w) (hB : 0 < B) (hb : Below B w w') : Tab w' := var?_below hb tabNamed hB h
theorem Tab.alloc {w : World} (h : Tab w) (o : Obj) : Tab (w.alloc o) := h.below ((Below.refl _ w).alloc (Nat.le_refl _) o)

theorem decDigits_ne (n : Nat) : decDigits n ≠ [] := by
  intro h
  have h1 := decDigits_length n
  have h2 := nDigits_pos n
  rw [h] at h1; simp at h1; omega
/-- strconv.Itoa. -/
theorem itoa_any (n : Nat) (h : n < 1000000000) (w : World) (ht : Tab w) :
    Calls Tryz.prog 81 #[.int .i64 n] w fun e w' => e = .returned (.string ⟨(decDigits n).toArray⟩) ∧ Below w.heap.size w w' := by
  refine (strconv_Itoa n (by omega) (by omega) w ht).mono ?_
  rintro e w' ⟨rfl, k, os, rfl⟩
  refine ⟨by rw [itoa_nonneg], ?_⟩
  exact ⟨rfl, rfl, rfl, by simp [Sort.grow], fun b hb => by
    show (w.heap ++ os)[b]? = w.heap[b]?
    rw [Array.getElem?_append_left hb]⟩

theorem nDigits_le (n k : Nat) (h1 : 1 ≤ k) (h : n < 10 ^ k) : nDigits n ≤ k := by
  induction k generalizing n with
  | zero => omega
  | succ k ih =>
    by_cases hn : n < 10
    · rw [nDigits_small hn]; omega
    · rw [nDigits_big hn]
      rw [Nat.pow_succ] at h
      rcases Nat.eq_zero_or_pos k with h0 | h0
      · subst h0; simp at h; omega
      · have := ih (n / 10) h0 (by omega); omega

theorem dec_pad (k q x : Nat) (hk : 1 ≤ k) (hq : 0 < q) (hx : x < 10 ^ k) :
    decDigits (10 ^ k * q + x) = decDigits q ++ List.replicate (k - nDigits x) 48 ++ decDigits x := by
  induction k generalizing x with
  | zero => omega
  | succ k ih =>
    have hbig : ¬ 10 ^ (k + 1) * q + x < 10 := by
      have h1 : 0 < 10 ^ k := Nat.pow_pos (by omega)
      have h2 := Nat.mul_le_mul h1 hq
      have h3 : 10 ^ (k + 1) * q = 10 * (10 ^ k * q) := by rw [Nat.pow_succ]; grind
      omega
    have e1 : (10 ^ (k + 1) * q + x) / 10 = 10 ^ k * q + x / 10 := by
      have h3 : 10 ^ (k + 1) * q = 10 * (10 ^ k * q) := by rw [Nat.pow_succ]; grind
      omega
    have e2 : (10 ^ (k + 1) * q + x) % 10 = x % 10 := by
      have h3 : 10 ^ (k + 1) * q = 10 * (10 ^ k * q) := by rw [Nat.pow_succ]; grind
      omega
    rw [decDigits, dif_neg hbig, e1, e2]
    rcases Nat.eq_zero_or_pos k with h0 | h0
    · subst h0
      have hx' : x < 10 := by simpa using hx
      have e3 : 10 ^ 0 * q + x / 10 = q := by simp; omega
      rw [e3, nDigits_small hx', show decDigits x = [UInt8.ofNat (48 + x)] by rw [decDigits, dif_pos hx'], Nat.mod_eq_of_lt hx']
      simp
    · rw [Nat.pow_succ] at hx
      rw [ih (x / 10) h0 (by omega)]
      by_cases hx' : x < 10
      · have e4 : x / 10 = 0 := by omega
        rw [e4, nDigits_small hx', nDigits_small (show 0 < 10 by omega), show decDigits x = [UInt8.ofNat (48 + x)] by rw [decDigits, dif_pos hx'], show decDigits 0 = [48] by rw [decDigits, dif_pos (by omega)]; rfl, Nat.mod_eq_of_lt hx']
        obtain ⟨m, rfl⟩ : ∃ m, k = m + 1 := ⟨k - 1, by omega⟩
        have e5 : List.replicate (m + 1) (48 : UInt8) = List.replicate m 48 ++ [48] := List.replicate_succ'
        simp [e5]
      · rw [nDigits_big hx']
        have e6 : decDigits x = decDigits (x / 10) ++ [UInt8.ofNat (48 + x % 10)] := by rw [decDigits, dif_neg hx']
        rw [e6, show k + 1 - (nDigits (x / 10) + 1) = k - nDigits (x / 10) by omega]
        simp

/-- What a round of Text writes behind what is there: w is the width that the part is filled up to. -/
def piece (w : Nat) (x : Int) : List UInt8 := List.replicate (w - nDigits x.toNat) 48 ++ decDigits x.toNat
/-- The digits of parts, the most significant one first. -/
def body : List Int → List UInt8
  | [] => []
  | x :: l => decDigits x.toNat ++ l.flatMap (piece 9)
/-- The width at which the next part is written. -/
def width (l : List Int) : Nat := if l = [] then 0 else 9
theorem body_snoc (l : List Int) (x : Int) : body (l ++ [x]) = body l ++ piece (width l) x := by
  cases l with
  | nil => simp [body, piece, width]
  | cons y l => simp [body, width, List.append_assoc]
theorem piece_length (x : Int) (h0 : 0 ≤ x) (h1 : x < 1000000000) (w : Nat) (hw : w ≤ 9) : (piece w x).length ≤ 9 := by
  have h2 := nDigits_le x.toNat 9 (by omega) (by omega)
  unfold piece
  rw [List.length_append, List.length_replicate, decDigits_length]; omega
theorem body_length (l : List Int) (h : Dig l) : (body l).length ≤ 9 * l.length := by
  have hp : ∀ l : List Int, Dig l → (l.flatMap (piece 9)).length ≤ 9 * l.length := by
    intro l h
    induction l with
    | nil => simp
    | cons x l ih =>
      have h1 := ih h.tail
      have h3 := piece_length x h.head.1 h.head.2 9 (by omega)
      rw [List.flatMap_cons, List.length_append, List.length_cons]; omega
  cases l with
  | nil => simp [body]
  | cons x l =>
    have h1 := hp l h.tail
    have h2 := nDigits_le x.toNat 9 (by omega) (by have := h.head; omega)
    unfold body
    rw [List.length_append, decDigits_length, List.length_cons]; omega
theorem body_parts (n : Nat) (h : 0 < n) : body (parts n).reverse = decDigits n := by
  induction n using Nat.strongRecOn with
  | _ n ih =>
    rw [parts_pos n h, List.reverse_cons, body_snoc]
    by_cases hs : n < 1000000000
    · have e : n / 1000000000 = 0 := by omega
      rw [e, parts_zero]
      have e2 : (((n % 1000000000 : Nat) : Int)).toNat = n := by omega
      rw [show ([] : List Int).reverse = [] from rfl]
      unfold width piece body
      rw [if_pos rfl, e2]; simp
    · have hq : 0 < n / 1000000000 := by omega
      have hne : (parts (n / 1000000000)).reverse ≠ [] := by
        rw [Ne, List.reverse_eq_nil_iff, parts_nil_iff]; omega
      rw [ih _ (by omega) hq]
      have h1 := dec_pad 9 (n / 1000000000) (n % 1000000000) (by omega) hq (by omega)
      have e3 : 10 ^ 9 * (n / 1000000000) + n % 1000000000 = n := by omega
      rw [e3] at h1
      unfold width piece
      rw [if_neg hne, h1]
      have e2 : (((n % 1000000000 : Nat) : Int)).toNat = n % 1000000000 := by omega
      rw [e2, List.append_assoc]

/-- The text of an integer. -/
def txt (z : Int) : List UInt8 := itoa z
theorem txt_zero : txt 0 = [48] := by unfold txt; rw [show (0 : Int) = ((0 : Nat) : Int) from rfl, itoa_nonneg, decDigits, dif_pos (by omega)]; rfl
theorem txt_parts (z : Int) (h : z ≠ 0) : txt z = (if z < 0 then [45] else []) ++ body (parts z.natAbs).reverse := by
  rw [body_parts _ (by omega)]
  unfold txt itoa
  by_cases hz : z < 0
  · simp [hz]
  · simp [hz]; congr 1; omega
end Go.Proofs.YtfjnplhhgdfepaaGreatDoor

/- Text. -/
namespace Go.Proofs.YtfjnplhhgdfepaaGreatDoor
open Go.RowKit Go.Shelf Go.Lib
attribute [local go_sem] Oper.semAt_some

set_option maxHeartbeats 1000000 in
theorem Text_bad (neg : Bool) (ao : Option Addr) (len cap : Nat) (xs : List Int) (w : World) (hs : Sl w ao len cap xs) (ho : okInt neg xs = false) :
    Calls Tryz.prog 25 #[.agg #[.bool neg, .slice ao len cap]] w fun e w' => e = .returned (.tuple #[.string ⟨#[]⟩, .int .i64 10]) ∧ Below w.heap.size w w' := by
  have hck := fun w h => check_any neg ao len cap xs w h
  rw [ho] at hck
  have Hck := Lib.hid hck
  clear hck ho
  go_enter Tryz.func25, Tryz.ntmps25
  go_wp2_with fail
  refine (Hck.out _ (hs.alloc _)).mono ?_
  rintro e w1 ⟨rfl, hb1⟩
  obtain ⟨_, _, hbb⟩ := kept1 _ _ hb1
  go_wp2
  go_ret2
  exact ⟨rfl, hbb⟩

/-- Every block but two, and but those of bytes, stands as it stood. -/
def Kept2 (b d : Nat) (W W' : World) : Prop := W.heap.size ≤ W'.heap.size ∧ ∀ k o, W.heap[k]? = some o → k ≠ b → k ≠ d → (∀ c fz, o ≠ .cells c 5 fz) → W'.heap[k]? = some o
theorem Kept2.trans {b d : Nat} {X Y Z : World} (h : Kept2 b d X Y) (k : Kept2 b d Y Z) : Kept2 b d X Z :=
  ⟨Nat.le_trans h.1 k.1, fun i o hi h1 h2 h3 => k.2 i o (h.2 i o hi h1 h2 h3) h1 h2 h3⟩
theorem Kept2.below {b d : Nat} {X Y : World} (h : Below X.heap.size X Y) : Kept2 b d X Y :=
  ⟨h.size, fun i o hi _ _ _ => (h.block i (Array.getElem?_eq_some_iff.1 hi).1).trans hi⟩
theorem Kept2.others {b d B : Nat} {X Y : World} (h : OthersKept 5 (some b) X Y) (hb : Below B X Y) : Kept2 b d X Y :=
  ⟨hb.size, fun i o hi h1 _ h3 => h i o hi (fun e => h1 (by simpa using e)) h3⟩
theorem Kept2.set {b d : Nat} (X : World) (j : Nat) (v : Value) : Kept2 b d X (X.setCell ⟨d, j, none⟩ v) :=
  ⟨by simp [World.setCell], fun i o hi _ h2 _ => (Below.heap_setCell _ _ _ _ h2).trans hi⟩
theorem Kept2.from {b d B : Nat} {X Y : World} (h : Kept2 b d X Y) (hb : ∃ c t f, X.heap[b]? = some (.cells c t f)) (hd : ∃ c t f, X.heap[d]? = some (.cells c t f)) : KeepsFrom B X Y := by
  refine ⟨h.1, fun k o _ hk ho => h.2 k o hk ?_ ?_ ?_⟩
  · rintro rfl
    obtain ⟨c, t, f, hc⟩ := hb
    rw [hc] at hk; cases hk; cases ho
  · rintro rfl
    obtain ⟨c, t, f, hc⟩ := hd
    rw [hc] at hk; cases hk; cases ho
  · rintro c fz rfl; cases ho

/-- Block b is a builder that holds these bytes. -/
def Bld (b : Nat) (l : List UInt8) (w : World) : Prop := IsBuilderF 75 5 b b (byteCells l) w
theorem Bld.keep {b : Nat} {l : List UInt8} {X Y : World} {row : Option Nat} (h : Bld b l X) (hg : X.grownBy Y row) (hr : ∀ r, row = some r → r ≠ b ∧ ∀ c f, X.heap[r]? ≠ some (.cells c 5 f)) : Bld b l Y := by
  have key : ∀ p, BuilderAtF 75 5 b b p (byteCells l) X → BuilderAtF 75 5 b b p (byteCells l) Y := by
    intro p hp
    have hlt := hp.lt
    obtain ⟨hB, v, hb, hown, hne⟩ := hp
    refine ⟨hB, v, (hg.block b hlt (fun e => (hr b e.symm).1 rfl)).trans hb, hown.kept hg ?_, hne⟩
    rcases hown.2 with ⟨rfl, _⟩ | ⟨g, cap, cur, fz, rfl, _, hgg, _⟩
    · exact .inl rfl
    · refine .inr (fun e => ?_)
      have : row = some g := e.symm
      exact (hr g this).2 _ _ hgg
  exact h.elim (fun x => .inl (key _ x)) (fun x => .inr (key _ x))
theorem Bld.below {b : Nat} {l : List UInt8} {X Y : World} (h : Bld b l X) (hb : Below X.heap.size X Y) : Bld b l Y :=
  h.keep (row := none) ⟨hb.os, hb.tape, hb.output, hb.size, fun k hk _ => hb.block k hk⟩ (fun r e => by cases e)
theorem Bld.block {b : Nat} {l : List UInt8} {X : World} (h : Bld b l X) : ∃ c t f, X.heap[b]? = some (.cells c t f) := by
  rcases h with ⟨_, v, hb, _⟩ | ⟨_, v, hb, _⟩ <;> exact ⟨_, _, _, hb⟩
theorem Bld.lt {b : Nat} {l : List UInt8} {X : World} (h : Bld b l X) : b < X.heap.size := by
  obtain ⟨c, t, f, hc⟩ := h.block; exact (Array.getElem?_eq_some_iff.1 hc).1
theorem Bld.set {b d : Nat} {l : List UInt8} {X : World} (h : Bld b l X) {u : Value} (hd : X.heap[d]? = some (.cells #[u] 3 (0, 0))) (v : Value) : Bld b l (X.setCell ⟨d, 0, none⟩ v) := by
  refine h.keep (row := some d) ⟨rfl, rfl, rfl, by simp [World.setCell], fun k _ hk => Below.heap_setCell _ _ _ _ (fun e => hk (by simp [e]))⟩ (fun r e => ?_)
  cases e
  refine ⟨?_, fun c f hc => ?_⟩
  · rintro rfl
    rcases h with ⟨_, v, hb, _⟩ | ⟨_, v, hb, _⟩ <;> rw [hd] at hb <;> simp at hb
  · rw [hd] at hc; simp at hc
theorem Bld.fresh (w : World) : Bld w.heap.size [] (w.alloc (.cells #[.pointer none, .slice none 0 0] 75)) := IsBuilderF.of (fresh_isBuilder _ _ w)
theorem Bld.alloc {b : Nat} {l : List UInt8} {X : World} (h : Bld b l X) (o : Obj) : Bld b l (X.alloc o) := h.below ((Below.refl _ X).alloc (Nat.le_refl _) o)
theorem wByte {b : Nat} {l : List UInt8} {X : World} (h : Bld b l X) (c : UInt8) (hl : l.length ≤ 1000000) :
    Calls Tryz.prog 80 #[.pointer (some ⟨b, 0, none⟩), .int .u8 (c.toNat : Int)] X fun e Y => e = .returned .nilIface ∧ Bld b (l ++ [c]) Y ∧ Below b X Y ∧ OthersKept 5 (some b) X Y := by
  refine (writeByte_any b b _ (c.toNat : Int) X h (by rw [byteCells_length]; omega) (Nat.le_of_lt h.lt)).mono ?_
  rintro e Y ⟨rfl, h1, h2, h3⟩
  exact ⟨rfl, .inr (by rw [byteCells_append]; exact h1), h2, h3⟩
theorem wString {b : Nat} {l : List UInt8} {X : World} (h : Bld b l X) (s : List UInt8) (hl : l.length ≤ 1000000) (hs : s.length ≤ 1000000) :
    Calls Tryz.prog 82 #[.pointer (some ⟨b, 0, none⟩), .string ⟨s.toArray⟩] X fun e Y => e = .returned (.tuple #[.int .i64 s.length, .nilIface]) ∧ Bld b (l ++ s) Y ∧ Below b X Y ∧ OthersKept 5 (some b) X Y := by
  have hsz : (⟨s.toArray⟩ : ByteArray).size = s.length := by simp [ByteArray.size]
  refine (writeString_any b b _ ⟨s.toArray⟩ X h (by rw [byteCells_length, hsz]; omega) (Nat.le_of_lt h.lt)).mono ?_
  rintro e Y ⟨rfl, h1, h2, h3⟩
  refine ⟨by rw [hsz], .inr ?_, h2, h3⟩
  rw [byteCells_append]
  have : strCells ⟨s.toArray⟩ = byteCells s := by simp [strCells, byteCells]
  rw [← this]; exact h1
theorem zeros_any (c : Nat) (w : World) (hc : c ≤ 1000) :
    Calls Tryz.prog 83 #[.string ⟨#[48]⟩, .int .i64 c] w fun e w' => e = .returned (.string ⟨(List.replicate c (48 : UInt8)).toArray⟩) ∧ Below w.heap.size w w' := by
  refine (strings_Repeat ⟨#[48]⟩ c w (by omega) (by show 1 * c ≤ _; omega)).mono ?_
  rintro e w' ⟨rfl, hb⟩
  refine ⟨?_, hb⟩
  have := repeatL_replicate 48 1 c
  rw [Nat.mul_one] at this
  rw [← this]; rfl
end Go.Proofs.YtfjnplhhgdfepaaGreatDoor

/- Text of a number that is not 0. -/
namespace Go.Proofs.YtfjnplhhgdfepaaGreatDoor
open Go.RowKit Go.Shelf Go.Lib
attribute [local go_sem] Oper.semAt_some

/-- What a loop over the parts of a number knows of Text's memory. -/
def TextInv (b d s : Nat) (v : Value) (acc : List UInt8) (w : World) (pre : List Part) (W : World) : Prop :=
  (Bld b (acc ++ body (pre.map (·.1))) W ∧ W.heap[d]? = some (.cells #[.int .i64 (width (pre.map (·.1)) : Nat)] 3 (0, 0)) ∧ W.heap[s]? = some (.cells #[v] 22 (0, 0))) ∧ Below w.heap.size w W
theorem TextInv.own {b d s : Nat} {v : Value} {acc : List UInt8} {w : World} {B : Nat} (hB : w.heap.size ≤ B) : OwnFrom B (TextInv b d s v acc w) := by
  intro pre X Y row hs hg hr
  have hc : ∀ r, row = some r → ∀ c t f, X.heap[r]? ≠ some (.cells c t f) := by
    intro r e c t f h
    obtain ⟨_, o, ho, hoc⟩ := hr r e
    rw [h] at ho; cases ho; cases hoc
  refine ⟨⟨hs.1.1.keep hg (fun r e => ⟨?_, fun c f => hc r e c _ f⟩), (hg.block d (Array.getElem?_eq_some_iff.1 hs.1.2.1).1 (fun e => hc d e.symm _ _ _ hs.1.2.1)).trans hs.1.2.1, (hg.block _ (Array.getElem?_eq_some_iff.1 hs.1.2.2).1 (fun e => hc _ e.symm _ _ _ hs.1.2.2)).trans hs.1.2.2⟩, hs.2.grown hg hs.2.size (fun k e => Nat.le_trans hB (hr k e).1)⟩
  rintro rfl
  obtain ⟨c, t, f, h⟩ := hs.1.1.block
  exact hc r e c t f h
theorem width_le (l : List Int) : width l ≤ 9 := by unfold width; split <;> omega
theorem width_snoc (l : List Int) (x : Int) : width (l ++ [x]) = 9 := by unfold width; simp

set_option maxRecDepth 100000 in
set_option maxHeartbeats 4000000 in
theorem Text_ok (z : Int) (hz : z ≠ 0) (hl : Lim z) (ao : Option Addr) (len cap : Nat) (w : World) (hs : Sl w ao len cap (parts z.natAbs)) (ht : Tab w) :
    Calls Tryz.prog 25 #[.agg #[.bool (decide (z < 0)), .slice ao len cap]] w fun e w' => e = .returned (.tuple #[.string ⟨(txt z).toArray⟩, .int .i64 0]) ∧ Below w.heap.size w w' := by
  have hok : okInt (decide (z < 0)) (parts z.natAbs) = true := (okInt_iff _ _).2 ⟨z, hl, rfl, rfl⟩
  have hck := fun w h => check_any (decide (z < 0)) ao len cap (parts z.natAbs) w h
  rw [hok, show errOf true = 0 from rfl] at hck
  have htx := txt_parts z hz
  have hlen : len ≤ 40 := by have := hs.length; unfold Lim at hl; omega
  have hpos : 0 < len := by
    have h1 := hs.length
    have h2 := parts_nil_iff z.natAbs
    rcases Nat.eq_zero_or_pos len with h | h
    · have := h2.1 (List.eq_nil_of_length_eq_zero (by omega)); omega
    · exact h
  have hdig := parts_dig z.natAbs
  generalize hneg : decide (z < 0) = neg at *
  have hsg : (if z < 0 then [45] else []) = (if neg then [45] else ([] : List UInt8)) := by rw [← hneg]; simp
  rw [hsg] at htx
  generalize parts z.natAbs = xs at *
  have Hck := Lib.hid hck
  have Htx := Lib.hid htx
  have hl0 : ((len : Int) == 0) = false := by simp; omega
  clear hck hok hneg hsg htx
  refine (callsIn_wide (n := 5)).1 ?_
  refine callsIn_of_wp_marks Tryz.func25 rfl trivial ?_ rfl
  simp only [Tryz.ntmps25, List.size_toArray, List.length_cons, List.length_nil, Nat.reduceAdd, Nat.reduceSub, Array.replicate_succ, Array.replicate_zero, List.push_toArray, List.append_toArray, List.nil_append, List.cons_append]
  gi_wp2_with (refine ⟨trivial, ?_⟩; gi_at_call 20; refine (callsIn_wide.2 (Hck.out _ (hs.alloc _))).mono ?_; rintro e w1 ⟨rfl, hb1⟩; obtain ⟨hA, hsz, hbb⟩ := kept1 _ _ hb1; obtain ⟨k1, k2, k3, k4, k5⟩ := box2 hA; clear hb1)
  · have hneg : neg = true := by assumption
    subst hneg
    have hw := wByte (Bld.fresh w1) 45 (by simp)
    rw [show ((45 : UInt8).toNat : Int) = 45 from rfl] at hw
    refine ⟨trivial, (callsIn_wide.2 hw).mono ?_⟩
    rintro e Y ⟨rfl, hY, bY, oY⟩
    have hAY := (bY.block _ (by omega)).trans ((heap_old w1 (.cells #[.pointer none, .slice none 0 0] 75) _ (by omega)).trans hA)
    obtain ⟨y1, y2, y3, y4, y5⟩ := box2 hAY
    have hbY : Below w.heap.size w Y := hbb.trans (((Below.refl _ w1).alloc (by omega) _).trans (bY.mono (by omega)))
    have hsY : w1.heap.size < Y.heap.size := by have := bY.size; simp at this; omega
    clear hw
    gi_wp2
    refine ⟨trivial, (top_in _ _ _ _).mono ?_⟩
    rintro e w' ⟨rfl, rfl⟩
    gi_wp2
    have hBl : Bld w1.heap.size ([45] : List UInt8) ((Y.alloc (.cells #[.int .i64 0] 3)).alloc (.cells #[.slice ao len cap] 22)) := (hY.alloc _).alloc _
    have hD : ((Y.alloc (.cells #[.int .i64 0] 3)).alloc (.cells #[.slice ao len cap] 22)).heap[Y.heap.size]? = some (.cells #[.int .i64 ((width ([] : List Int) : Nat) : Int)] 3 (0, 0)) := heap_new1 Y _ _
    have hS : ((Y.alloc (.cells #[.int .i64 0] 3)).alloc (.cells #[.slice ao len cap] 22)).heap[Y.heap.size + 1]? = some (.cells #[.slice ao len cap] 22 (0, 0)) := heap_new2 Y _ _
    have hBW : Below w.heap.size w ((Y.alloc (.cells #[.int .i64 0] 3)).alloc (.cells #[.slice ao len cap] 22)) := (hbY.alloc hbY.size _).alloc (by have := hbY.size; simp; omega) _
    have hsW := Sl.below hs hBW
    have hlow : 0 < len → ∀ a, ao = some a → a.block < w1.heap.size := by
      intro _ a ha
      obtain ⟨b, o, hbo, hc⟩ := hs.at hpos
      rw [ha] at hbo
      obtain rfl := Option.some.inj hbo
      have := cell_lt (hc 0 hpos)
      exact Nat.lt_of_lt_of_le this (by omega)
    obtain ⟨zs, rfl⟩ := parts_of hdig
    have hDlt : Y.heap.size < ((Y.alloc (.cells #[.int .i64 0] 3)).alloc (.cells #[.slice ao len cap] 22)).heap.size := (Array.getElem?_eq_some_iff.1 hD).1
    have hSlt : Y.heap.size + 1 < ((Y.alloc (.cells #[.int .i64 0] 3)).alloc (.cells #[.slice ao len cap] 22)).heap.size := (Array.getElem?_eq_some_iff.1 hS).1
    have hTab := ht.below hBW
    generalize hW0 : (Y.alloc (.cells #[.int .i64 0] 3)).alloc (.cells #[.slice ao len cap] 22) = W0 at *
    refine wpIn_rangeFunc_ownG rfl (by omega) (gf := 116) (lb := #[.pointer (some ⟨Y.heap.size + 1, 0, none⟩)]) rfl trivial (enters_of Tryz.func116 (by kernel_rfl) rfl)
      (top_stops (Y.heap.size + 1) (w1.heap.size) ao len cap zs (by omega) W0 hS hsW hlow) KeepT.t (KeepT.b (by omega) (by omega)) (Below.refl _ _) (fun _ => rfl)
      (TextInv (w1.heap.size) (Y.heap.size) (Y.heap.size + 1) (.slice ao len cap) ([45] : List UInt8) w) (fun _ _ _ => False) (TextInv.own (by omega)) (fun _ _ _ _ _ hs _ _ => hs)
      ⟨⟨by simpa [body] using hBl, hD, hS⟩, hBW⟩
      (fun x => { tmps := #[.agg #[.bool true, .slice ao len cap], .pointer (some ⟨w.heap.size, 0, none⟩), .string ⟨#[]⟩, .int .i64 0, .int .i64 0, .pointer (some ⟨w1.heap.size, 0, none⟩), .pointer (some ⟨Y.heap.size, 0, none⟩), .int .i64 x.1, undef, .agg #[.bool true, .slice ao len cap], .int .i64 0, .int .i64 0, .bool false, undef, .pointer (some ⟨w.heap.size, 1, none⟩), .slice ao len cap, .int .i64 len, .bool false, .pointer (some ⟨w.heap.size, 0, none⟩), .bool true, .nilIface, .pointer (some ⟨w.heap.size, 1, none⟩), .slice ao len cap, .func (.func 116) #[] #[.pointer (some ⟨Y.heap.size + 1, 0, none⟩)], .int .i64 x.1, undef, undef, undef, undef, undef, undef, undef, undef, undef, undef, undef, undef], defers := [] }) ?assign ?body ?done ?stop
    case assign =>
      intro l x W K hK
      gi_wp2
      exact hK
    case stop =>
      rintro D c pre W _ _ h _
      exact h.elim
    case done =>
      rintro D ys W hD9 rfl ⟨⟨hb9, hd9, hs9⟩, hB9⟩ hK
      gi_wp2_with (refine ⟨trivial, ?_⟩; gi_at_call 84; refine (callsIn_wide.2 (builderString_any _ _ _ _ hb9 (Nat.le_of_lt hb9.lt))).mono ?_)
      rintro e W8 ⟨rfl, h8, b8, o8⟩
      have hK8 := o8 _ _ hK (by simp; omega) (by intro c fz h; cases h)
      gi_wp2
      refine ⟨by simp, .inl ⟨_, _, rfl, run_takeDeferred hK8, ?_⟩⟩
      refine ⟨.tuple #[.string ⟨(txt z).toArray⟩, .int .i64 0], ?_, rfl, ?_⟩
      · rw [Htx.out]
        simp [results, Tryz.f25, go_sem]
      · exact (hB9.trans (b8.mono (by omega))).trans (belowK_b (w := w) (Nat.le_refl _) W8 D _ _ (by omega) hK8 rfl rfl)
    case body =>
      rintro l pre ⟨x, hx0, hx1⟩ W ⟨⟨hb9, hd9, hs9⟩, hB9⟩ hp9
      obtain ⟨n, rfl⟩ : ∃ n : Nat, x = n := ⟨x.toNat, by omega⟩
      have hwl := width_le (pre.map (·.1))
      have hws := Lib.hid (width_snoc (pre.map (·.1)) (n : Int))
      have hbs := Lib.hid (body_snoc (pre.map (·.1)) (n : Int))
      have hbl := body_length (pre.map (·.1)) (fun y hy => by obtain ⟨p, _, rfl⟩ := List.mem_map.1 hy; exact p.2)
      have hpc : piece (width (pre.map (·.1))) n = List.replicate (width (pre.map (·.1)) - (decDigits n).length) 48 ++ decDigits n := by unfold piece; rw [decDigits_length]; rfl
      have hdl := nDigits_le n 9 (by omega) (by omega)
      rw [← decDigits_length] at hdl
      have hdn := nDigits_pos n
      rw [← decDigits_length] at hdn
      have hio := itoa_any n (by omega) W (ht.below hB9)
      rw [List.length_map] at hbl
      generalize decDigits n = dg at *
      generalize width (pre.map (·.1)) = wd at *
      have hal : (([45] : List UInt8) ++ body (pre.map (·.1))).length ≤ 1000 := by simp only [List.length_append, List.length_cons, List.length_nil]; omega
      have Hpc := Lib.hid hpc
      clear hpc
      generalize hac : ([45] : List UInt8) ++ body (pre.map (·.1)) = ac at *
      have Hac := Lib.hid hac
      clear hac
      gi_wp2
      refine ⟨trivial, (CallsIn.inRound l (callsIn_wide.2 hio)).mono ?_⟩
      rintro e W1 ⟨rfl, b1⟩
      have hD1 := (b1.block _ (Array.getElem?_eq_some_iff.1 hd9).1).trans hd9
      have hb1 := hb9.below b1
      have kd1 : W1.cell? ⟨Y.heap.size, 0, none⟩ = some (.int .i64 (wd : Int)) := by simp [World.cell?, hD1]
      have hmx : max 0 ((wd : Int) - dg.length) = ((wd - dg.length : Nat) : Int) := by omega
      have Hmx := Lib.hid hmx
      clear hmx
      gi_wp2
      rw [Hmx.out]
      refine ⟨trivial, (CallsIn.inRound l (callsIn_wide.2 (zeros_any (wd - dg.length) W1 (by omega)))).mono ?_⟩
      rintro e W2 ⟨rfl, b2⟩
      have hb2 := hb1.below b2
      have hD2 := (b2.block _ (Array.getElem?_eq_some_iff.1 hD1).1).trans hD1
      gi_wp2
      refine ⟨trivial, (CallsIn.inRound l (callsIn_wide.2 (wString hb2 _ (by omega) (by rw [List.length_replicate]; omega)))).mono ?_⟩
      rintro e W3 ⟨rfl, hb3, b3, o3⟩
      gi_wp2
      refine ⟨trivial, (CallsIn.inRound l (callsIn_wide.2 (wString hb3 _ (by rw [List.length_append, List.length_replicate]; omega) (by omega)))).mono ?_⟩
      rintro e W4 ⟨rfl, hb4, b4, o4⟩
      have hDne : Y.heap.size ≠ w1.heap.size := by omega
      have hD3 := o3 _ _ hD2 (fun e => hDne (Option.some.inj e)) (by intro c fz h; simp at h)
      have hD4 := o4 _ _ hD3 (fun e => hDne (Option.some.inj e)) (by intro c fz h; simp at h)
      have kd4 : W4.cell? ⟨Y.heap.size, 0, none⟩ = some (.int .i64 (wd : Int)) := by simp [World.cell?, hD4]
      have kf4 : W4.frozen? ⟨Y.heap.size, 0, none⟩ = false := by simp [World.frozen?, hD4]
      have hDl4 : Y.heap.size < W4.heap.size := (Array.getElem?_eq_some_iff.1 hD4).1
      gi_wp2
      have kk : Kept2 (w1.heap.size) (Y.heap.size) W (W4.setCell ⟨Y.heap.size, 0, none⟩ (.int .i64 9)) := ((((Kept2.below b1).trans (Kept2.below b2)).trans (Kept2.others o3 b3)).trans (Kept2.others o4 b4)).trans (Kept2.set _ _ _)
      have hs4 := kk.2 _ _ hs9 (by omega) (by omega) (by intro c fz h; simp at h)
      have hbw : Below (w1.heap.size) W (W4.setCell ⟨Y.heap.size, 0, none⟩ (.int .i64 9)) := ((((b1.mono (by have := hb9.lt; omega)).trans (b2.mono (by have := hb1.lt; omega))).trans b3).trans b4).setCell (p := ⟨Y.heap.size, 0, none⟩) (show w1.heap.size ≤ Y.heap.size by omega) _
      refine ⟨kk.from hb9.block ⟨_, _, _, hd9⟩, ⟨hbw, hs4.trans hs9.symm⟩, ⟨⟨?_, ?_, hs4⟩, ?_⟩⟩
      · have := hb4.set hD4 (.int .i64 9)
        rw [List.map_append, List.map_singleton, hbs.out, ← List.append_assoc, Hac.out, Hpc.out, ← List.append_assoc]
        exact this
      · rw [List.map_append, List.map_singleton, hws.out]
        simp [World.setCell, Array.getElem?_modify, hD4]
      · exact hB9.trans (hbw.mono (by omega))
  · refine ⟨trivial, (top_in _ _ _ _).mono ?_⟩
    rintro e w' ⟨rfl, rfl⟩
    have hneg : neg = false := by assumption
    subst hneg
    gi_wp2
    have hBl : Bld w1.heap.size ([] : List UInt8) (((w1.alloc (.cells #[.pointer none, .slice none 0 0] 75)).alloc (.cells #[.int .i64 0] 3)).alloc (.cells #[.slice ao len cap] 22)) := ((Bld.fresh w1).alloc _).alloc _
    have hD : (((w1.alloc (.cells #[.pointer none, .slice none 0 0] 75)).alloc (.cells #[.int .i64 0] 3)).alloc (.cells #[.slice ao len cap] 22)).heap[w1.heap.size + 1]? = some (.cells #[.int .i64 ((width ([] : List Int) : Nat) : Int)] 3 (0, 0)) := heap3_1 w1 _ _ _
    have hS : (((w1.alloc (.cells #[.pointer none, .slice none 0 0] 75)).alloc (.cells #[.int .i64 0] 3)).alloc (.cells #[.slice ao len cap] 22)).heap[w1.heap.size + 1 + 1]? = some (.cells #[.slice ao len cap] 22 (0, 0)) := heap3_2 w1 _ _ _
    have hBW : Below w.heap.size w (((w1.alloc (.cells #[.pointer none, .slice none 0 0] 75)).alloc (.cells #[.int .i64 0] 3)).alloc (.cells #[.slice ao len cap] 22)) := hbb.trans ((below3 w1 _ _ _).mono hbb.size)
    have hsW := Sl.below hs hBW
    have hlow : 0 < len → ∀ a, ao = some a → a.block < w1.heap.size := by
      intro _ a ha
      obtain ⟨b, o, hbo, hc⟩ := hs.at hpos
      rw [ha] at hbo
      obtain rfl := Option.some.inj hbo
      have := cell_lt (hc 0 hpos)
      exact Nat.lt_of_lt_of_le this (by omega)
    obtain ⟨zs, rfl⟩ := parts_of hdig
    have hDlt : w1.heap.size + 1 < (((w1.alloc (.cells #[.pointer none, .slice none 0 0] 75)).alloc (.cells #[.int .i64 0] 3)).alloc (.cells #[.slice ao len cap] 22)).heap.size := (Array.getElem?_eq_some_iff.1 hD).1
    have hSlt : w1.heap.size + 1 + 1 < (((w1.alloc (.cells #[.pointer none, .slice none 0 0] 75)).alloc (.cells #[.int .i64 0] 3)).alloc (.cells #[.slice ao len cap] 22)).heap.size := (Array.getElem?_eq_some_iff.1 hS).1
    have hTab := ht.below hBW
    generalize hW0 : ((w1.alloc (.cells #[.pointer none, .slice none 0 0] 75)).alloc (.cells #[.int .i64 0] 3)).alloc (.cells #[.slice ao len cap] 22) = W0 at *
    refine wpIn_rangeFunc_ownG rfl (by omega) (gf := 116) (lb := #[.pointer (some ⟨w1.heap.size + 1 + 1, 0, none⟩)]) rfl trivial (enters_of Tryz.func116 (by kernel_rfl) rfl)
      (top_stops (w1.heap.size + 1 + 1) (w1.heap.size) ao len cap zs (by omega) W0 hS hsW hlow) KeepT.t (KeepT.b (by omega) (by omega)) (Below.refl _ _) (fun _ => rfl)
      (TextInv (w1.heap.size) (w1.heap.size + 1) (w1.heap.size + 1 + 1) (.slice ao len cap) ([] : List UInt8) w) (fun _ _ _ => False) (TextInv.own (by omega)) (fun _ _ _ _ _ hs _ _ => hs)
      ⟨⟨by simpa [body] using hBl, hD, hS⟩, hBW⟩
      (fun x => { tmps := #[.agg #[.bool false, .slice ao len cap], .pointer (some ⟨w.heap.size, 0, none⟩), .string ⟨#[]⟩, .int .i64 0, .int .i64 0, .pointer (some ⟨w1.heap.size, 0, none⟩), .pointer (some ⟨w1.heap.size + 1, 0, none⟩), .int .i64 x.1, undef, .agg #[.bool false, .slice ao len cap], .int .i64 0, .int .i64 0, .bool false, undef, .pointer (some ⟨w.heap.size, 1, none⟩), .slice ao len cap, .int .i64 len, .bool false, .pointer (some ⟨w.heap.size, 0, none⟩), .bool false, undef, .pointer (some ⟨w.heap.size, 1, none⟩), .slice ao len cap, .func (.func 116) #[] #[.pointer (some ⟨w1.heap.size + 1 + 1, 0, none⟩)], .int .i64 x.1, undef, undef, undef, undef, undef, undef, undef, undef, undef, undef, undef, undef], defers := [] }) ?assign ?body ?done ?stop
    case assign =>
      intro l x W K hK
      gi_wp2
      exact hK
    case stop =>
      rintro D c pre W _ _ h _
      exact h.elim
    case done =>
      rintro D ys W hD9 rfl ⟨⟨hb9, hd9, hs9⟩, hB9⟩ hK
      gi_wp2_with (refine ⟨trivial, ?_⟩; gi_at_call 84; refine (callsIn_wide.2 (builderString_any _ _ _ _ hb9 (Nat.le_of_lt hb9.lt))).mono ?_)
      rintro e W8 ⟨rfl, h8, b8, o8⟩
      have hK8 := o8 _ _ hK (by simp; omega) (by intro c fz h; cases h)
      gi_wp2
      refine ⟨by simp, .inl ⟨_, _, rfl, run_takeDeferred hK8, ?_⟩⟩
      refine ⟨.tuple #[.string ⟨(txt z).toArray⟩, .int .i64 0], ?_, rfl, ?_⟩
      · rw [Htx.out]
        simp [results, Tryz.f25, go_sem]
      · exact (hB9.trans (b8.mono (by omega))).trans (belowK_b (w := w) (Nat.le_refl _) W8 D _ _ (by omega) hK8 rfl rfl)
    case body =>
      rintro l pre ⟨x, hx0, hx1⟩ W ⟨⟨hb9, hd9, hs9⟩, hB9⟩ hp9
      obtain ⟨n, rfl⟩ : ∃ n : Nat, x = n := ⟨x.toNat, by omega⟩
      have hwl := width_le (pre.map (·.1))
      have hws := Lib.hid (width_snoc (pre.map (·.1)) (n : Int))
      have hbs := Lib.hid (body_snoc (pre.map (·.1)) (n : Int))
      have hbl := body_length (pre.map (·.1)) (fun y hy => by obtain ⟨p, _, rfl⟩ := List.mem_map.1 hy; exact p.2)
      have hpc : piece (width (pre.map (·.1))) n = List.replicate (width (pre.map (·.1)) - (decDigits n).length) 48 ++ decDigits n := by unfold piece; rw [decDigits_length]; rfl
      have hdl := nDigits_le n 9 (by omega) (by omega)
      rw [← decDigits_length] at hdl
      have hdn := nDigits_pos n
      rw [← decDigits_length] at hdn
      have hio := itoa_any n (by omega) W (ht.below hB9)
      rw [List.length_map] at hbl
      generalize decDigits n = dg at *
      generalize width (pre.map (·.1)) = wd at *
      have hal : (([] : List UInt8) ++ body (pre.map (·.1))).length ≤ 1000 := by simp only [List.length_append, List.length_nil]; omega
      have Hpc := Lib.hid hpc
      clear hpc
      generalize hac : ([] : List UInt8) ++ body (pre.map (·.1)) = ac at *
      have Hac := Lib.hid hac
      clear hac
      gi_wp2
      refine ⟨trivial, (CallsIn.inRound l (callsIn_wide.2 hio)).mono ?_⟩
      rintro e W1 ⟨rfl, b1⟩
      have hD1 := (b1.block _ (Array.getElem?_eq_some_iff.1 hd9).1).trans hd9
      have hb1 := hb9.below b1
      have kd1 : W1.cell? ⟨w1.heap.size + 1, 0, none⟩ = some (.int .i64 (wd : Int)) := by simp [World.cell?, hD1]
      have hmx : max 0 ((wd : Int) - dg.length) = ((wd - dg.length : Nat) : Int) := by omega
      have Hmx := Lib.hid hmx
      clear hmx
      gi_wp2
      rw [Hmx.out]
      refine ⟨trivial, (CallsIn.inRound l (callsIn_wide.2 (zeros_any (wd - dg.length) W1 (by omega)))).mono ?_⟩
      rintro e W2 ⟨rfl, b2⟩
      have hb2 := hb1.below b2
      have hD2 := (b2.block _ (Array.getElem?_eq_some_iff.1 hD1).1).trans hD1
      gi_wp2
      refine ⟨trivial, (CallsIn.inRound l (callsIn_wide.2 (wString hb2 _ (by omega) (by rw [List.length_replicate]; omega)))).mono ?_⟩
      rintro e W3 ⟨rfl, hb3, b3, o3⟩
      gi_wp2
      refine ⟨trivial, (CallsIn.inRound l (callsIn_wide.2 (wString hb3 _ (by rw [List.length_append, List.length_replicate]; omega) (by omega)))).mono ?_⟩
      rintro e W4 ⟨rfl, hb4, b4, o4⟩
      have hDne : w1.heap.size + 1 ≠ w1.heap.size := by omega
      have hD3 := o3 _ _ hD2 (fun e => hDne (Option.some.inj e)) (by intro c fz h; simp at h)
      have hD4 := o4 _ _ hD3 (fun e => hDne (Option.some.inj e)) (by intro c fz h; simp at h)
      have kd4 : W4.cell? ⟨w1.heap.size + 1, 0, none⟩ = some (.int .i64 (wd : Int)) := by simp [World.cell?, hD4]
      have kf4 : W4.frozen? ⟨w1.heap.size + 1, 0, none⟩ = false := by simp [World.frozen?, hD4]
      have hDl4 : w1.heap.size + 1 < W4.heap.size := (Array.getElem?_eq_some_iff.1 hD4).1
      gi_wp2
      have kk : Kept2 (w1.heap.size) (w1.heap.size + 1) W (W4.setCell ⟨w1.heap.size + 1, 0, none⟩ (.int .i64 9)) := ((((Kept2.below b1).trans (Kept2.below b2)).trans (Kept2.others o3 b3)).trans (Kept2.others o4 b4)).trans (Kept2.set _ _ _)
      have hs4 := kk.2 _ _ hs9 (by omega) (by omega) (by intro c fz h; simp at h)
      have hbw : Below (w1.heap.size) W (W4.setCell ⟨w1.heap.size + 1, 0, none⟩ (.int .i64 9)) := ((((b1.mono (by have := hb9.lt; omega)).trans (b2.mono (by have := hb1.lt; omega))).trans b3).trans b4).setCell (p := ⟨w1.heap.size + 1, 0, none⟩) (show w1.heap.size ≤ w1.heap.size + 1 by omega) _
      refine ⟨kk.from hb9.block ⟨_, _, _, hd9⟩, ⟨hbw, hs4.trans hs9.symm⟩, ⟨⟨?_, ?_, hs4⟩, ?_⟩⟩
      · have := hb4.set hD4 (.int .i64 9)
        rw [List.map_append, List.map_singleton, hbs.out, ← List.append_assoc, Hac.out, Hpc.out, ← List.append_assoc]
        exact this
      · rw [List.map_append, List.map_singleton, hws.out]
        simp [World.setCell, Array.getElem?_modify, hD4]
      · exact hB9.trans (hbw.mono (by omega))
end Go.Proofs.YtfjnplhhgdfepaaGreatDoor

/- slices.Equal at []int. -/
namespace Go.Proofs.YtfjnplhhgdfepaaGreatDoor
open Go.RowKit

/-- A call that hands back a bool; what was there is as it was. -/
def RetBool (b : Bool) (w : World) (e : Ending) (w' : World) : Prop := e = .returned (.bool b) ∧ Below w.heap.size w w'

set_option maxHeartbeats 1000000 in
theorem equal_any (ax : Option Addr) (la ca : Nat) (xs : List Int) (ay : Option Addr) (lb cb : Nat) (ys : List Int) (w : World) (hx : Sl w ax la ca xs) (hy : Sl w ay lb cb ys) :
    Calls Tryz.prog 74 #[.slice ax la ca, .slice ay lb cb] w (RetBool (decide (xs = ys)) w) := by
  have hbx := hx.len_le
  have hby := hy.len_le
  have hlx := Lib.hid hx.length
  have hly := Lib.hid hy.length
  by_cases hne : la = lb
  · subst hne
    have hq : ((la : Int) != (la : Int)) = false := by simp
    go_enter Tryz.func74, Tryz.ntmps74
    go_wp2
    go_loopw [13] (fun i wr => ∃ k : Nat, k ≤ la ∧ i = .int .i64 k ∧ (∀ j, j < k → xs.getD j 0 = ys.getD j 0) ∧ ∃ n, wr = w.drewN n) (fun i _ => la - (intOf i).toNat)
    case atStart => exact ⟨0, Nat.zero_le _, rfl, fun j hj => by omega, 0, rfl⟩
    case round =>
      obtain ⟨k, hk, rfl, hall, n, rfl⟩ := hrel
      have Hall := Lib.hid hall
      clear hall
      by_cases hlt : k < la
      · obtain ⟨bx, ox, rfl, hcx⟩ := hx.at (by omega)
        obtain ⟨by', oy, rfl, hcy⟩ := hy.at (by omega)
        have hcxk := hcx k hlt
        have hcyk := hcy k hlt
        generalize hxk : xs.getD k 0 = x at hcxk
        generalize hyk : ys.getD k 0 = y at hcyk
        have Hxk := Lib.hid hxk
        have Hyk := Lib.hid hyk
        clear hcx hcy hxk hyk
        have hcx' : (w.drewN n).cell? ⟨bx, ox + k, none⟩ = some (.int .i64 x) := hcxk
        have hcy' : (w.drewN n).cell? ⟨by', oy + k, none⟩ = some (.int .i64 y) := hcyk
        by_cases hxy : x = y
        · subst hxy
          have hq2 : (x != x) = false := by simp
          go_wp2
          go_region
          go_wp2
          go_roundw
          case rel => exact ⟨k + 1, hlt, by go_num, fun j hj => by
            by_cases e : j = k
            · subst e; rw [Hxk.out, Hyk.out]
            · exact Hall.out j (by omega), n + 1, rfl⟩
          case measure => simp [intOf]; omega
        · have hq2 : (x != y) = true := by simpa using hxy
          go_wp2
          go_region
          go_wp2
          go_ret
          have : decide (xs = ys) = false := by
            simp only [decide_eq_false_iff_not]
            intro e; rw [e] at Hxk; exact hxy (Hxk.out.symm.trans Hyk.out)
          exact ⟨by rw [this]; rfl, rfl, rfl, rfl, Nat.le_refl _, fun _ _ => rfl⟩
      · obtain rfl : k = la := by omega
        go_wp2
        go_ret
        have : decide (xs = ys) = true := by
          simp only [decide_eq_true_eq]
          have hl : xs.length = ys.length := by rw [hlx.out, hly.out]
          apply List.ext_getElem hl
          intro j h1 h2
          have := Hall.out j (by rw [← hlx.out]; exact h1)
          rwa [getD_of_lt _ _ h1, getD_of_lt _ _ h2] at this
        exact ⟨by rw [this]; rfl, rfl, rfl, rfl, Nat.le_refl _, fun _ _ => rfl⟩
  · have hq : ((la : Int) != (lb : Int)) = true := by simp; omega
    go_enter Tryz.func74, Tryz.ntmps74
    go_wp2
    go_ret
    have : decide (xs = ys) = false := by
      simp only [decide_eq_false_iff_not]
      intro e; apply hne; rw [← hlx.out, ← hly.out, e]
    exact ⟨by rw [this]; rfl, Below.refl _ _⟩
end Go.Proofs.YtfjnplhhgdfepaaGreatDoor

/- Slices of bytes in memory; slices.Equal at []byte. -/
namespace Go.Proofs.YtfjnplhhgdfepaaGreatDoor
open Go.RowKit

/-- The slice value with these three parts reads as the list of bytes. -/
def Sb (w : World) (ao : Option Addr) (len cap : Nat) (xs : List Int) : Prop :=
  xs.length = len ∧ len ≤ cap ∧ cap ≤ maxLen ∧ ((ao = none ∧ cap = 0) ∨ ∃ b o, ao = some ⟨b, o, none⟩ ∧ ∀ j, j < len → w.cell? ⟨b, o + j, none⟩ = some (.int .u8 (xs.getD j 0)))
theorem Sb.at {w : World} {ao : Option Addr} {len cap : Nat} {xs : List Int} (h : Sb w ao len cap xs) (h0 : 0 < len) :
    ∃ b o, ao = some ⟨b, o, none⟩ ∧ ∀ j, j < len → w.cell? ⟨b, o + j, none⟩ = some (.int .u8 (xs.getD j 0)) := by
  obtain ⟨_, h2, _, ⟨_, h4⟩ | h5⟩ := h
  · omega
  · exact h5
theorem Sb.len_le {w : World} {ao : Option Addr} {len cap : Nat} {xs : List Int} (h : Sb w ao len cap xs) : len ≤ cap ∧ cap ≤ 9223372036854775807 := by
  obtain ⟨_, h2, h3, _⟩ := h
  unfold maxLen at h3
  exact ⟨h2, h3⟩
theorem Sb.length {w : World} {ao : Option Addr} {len cap : Nat} {xs : List Int} (h : Sb w ao len cap xs) : xs.length = len := h.1
theorem Sb.nil (w : World) : Sb w none 0 0 [] := ⟨rfl, Nat.le_refl _, by unfold maxLen; omega, .inl ⟨rfl, rfl⟩⟩
theorem Sb.of_cells {w w' : World} {ao : Option Addr} {len cap : Nat} {xs : List Int} (h : Sb w ao len cap xs)
    (k : ∀ a v, w.cell? a = some v → w'.cell? a = some v) : Sb w' ao len cap xs := by
  obtain ⟨h1, h2, h3, h4 | ⟨b, o, h5, h6⟩⟩ := h
  · exact ⟨h1, h2, h3, .inl h4⟩
  · exact ⟨h1, h2, h3, .inr ⟨b, o, h5, fun j hj => k _ _ (h6 j hj)⟩⟩
theorem Sb.below {w w' : World} {ao : Option Addr} {len cap : Nat} {xs : List Int} (h : Sb w ao len cap xs) (hb : Below w.heap.size w w') : Sb w' ao len cap xs :=
  h.of_cells fun a v ha => (hb.cell (cell_lt ha)).trans ha
theorem Sb.alloc {w : World} {ao : Option Addr} {len cap : Nat} {xs : List Int} (h : Sb w ao len cap xs) (o : Obj) : Sb (w.alloc o) ao len cap xs := h.below ((Below.refl _ w).alloc (Nat.le_refl _) o)
/-- A call that hands back a slice that reads as these bytes. -/
def RetSb (xs : List Int) (w : World) (e : Ending) (w' : World) : Prop := ∃ ao len cap, e = .returned (.slice ao len cap) ∧ Sb w' ao len cap xs ∧ Below w.heap.size w w'
theorem Sb.of_owns {w : World} {base n : Nat} {v : Value} {xs : List Int} (h : w.ownsRow base 5 1 v n (xs.map (Value.int .u8))) :
    ∃ ao cap, v = .slice ao n cap ∧ Sb w ao n cap xs := by
  obtain ⟨h1, ⟨h2, h3⟩ | ⟨g, cap, cur, h2, _, h3, h4, h5, h6, h7⟩⟩ := h
  · subst h3
    have hx : xs = [] := by simpa using h1
    subst hx
    exact ⟨none, 0, h2, Sb.nil w⟩
  · refine ⟨_, cap, h2, by simpa using h1, h4, h5, .inr ⟨g, 0, rfl, fun j hj => ?_⟩⟩
    have hl : xs.length = n := by simpa using h1
    have e : cur.toList[j]? = some (.int .u8 (xs.getD j 0)) := by
      have h8 : (cur.toList.take (n * 1))[j]? = (xs.map (Value.int .u8))[j]? := by rw [h7]
      rw [List.getElem?_take, if_pos (by omega)] at h8
      rw [h8, List.getElem?_map, List.getElem?_eq_getElem (by omega), getD_of_lt _ _ (by omega)]
      rfl
    simp only [World.cell?, h3, Nat.zero_add]
    rw [Array.getElem?_toList] at e
    simpa using e

set_option maxHeartbeats 1000000 in
theorem equalB_any (ax : Option Addr) (la ca : Nat) (xs : List Int) (ay : Option Addr) (lb cb : Nat) (ys : List Int) (w : World) (hx : Sb w ax la ca xs) (hy : Sb w ay lb cb ys) :
    Calls Tryz.prog 33 #[.slice ax la ca, .slice ay lb cb] w (RetBool (decide (xs = ys)) w) := by
  have hbx := hx.len_le
  have hby := hy.len_le
  have hlx := Lib.hid hx.length
  have hly := Lib.hid hy.length
  by_cases hne : la = lb
  · subst hne
    have hq : ((la : Int) != (la : Int)) = false := by simp
    go_enter Tryz.func33, Tryz.ntmps33
    go_wp2
    go_loopw [13] (fun i wr => ∃ k : Nat, k ≤ la ∧ i = .int .i64 k ∧ (∀ j, j < k → xs.getD j 0 = ys.getD j 0) ∧ ∃ n, wr = w.drewN n) (fun i _ => la - (intOf i).toNat)
    case atStart => exact ⟨0, Nat.zero_le _, rfl, fun j hj => by omega, 0, rfl⟩
    case round =>
      obtain ⟨k, hk, rfl, hall, n, rfl⟩ := hrel
      have Hall := Lib.hid hall
      clear hall
      by_cases hlt : k < la
      · obtain ⟨bx, ox, rfl, hcx⟩ := hx.at (by omega)
        obtain ⟨by', oy, rfl, hcy⟩ := hy.at (by omega)
        have hcxk := hcx k hlt
        have hcyk := hcy k hlt
        generalize hxk : xs.getD k 0 = x at hcxk
        generalize hyk : ys.getD k 0 = y at hcyk
        have Hxk := Lib.hid hxk
        have Hyk := Lib.hid hyk
        clear hcx hcy hxk hyk
        have hcx' : (w.drewN n).cell? ⟨bx, ox + k, none⟩ = some (.int .u8 x) := hcxk
        have hcy' : (w.drewN n).cell? ⟨by', oy + k, none⟩ = some (.int .u8 y) := hcyk
        by_cases hxy : x = y
        · subst hxy
          have hq2 : (x != x) = false := by simp
          go_wp2
          go_region
          go_wp2
          go_roundw
          case rel => exact ⟨k + 1, hlt, by go_num, fun j hj => by
            by_cases e : j = k
            · subst e; rw [Hxk.out, Hyk.out]
            · exact Hall.out j (by omega), n + 1, rfl⟩
          case measure => simp [intOf]; omega
        · have hq2 : (x != y) = true := by simpa using hxy
          go_wp2
          go_region
          go_wp2
          go_ret
          have : decide (xs = ys) = false := by
            simp only [decide_eq_false_iff_not]
            intro e; rw [e] at Hxk; exact hxy (Hxk.out.symm.trans Hyk.out)
          exact ⟨by rw [this]; rfl, rfl, rfl, rfl, Nat.le_refl _, fun _ _ => rfl⟩
      · obtain rfl : k = la := by omega
        go_wp2
        go_ret
        have : decide (xs = ys) = true := by
          simp only [decide_eq_true_eq]
          have hl : xs.length = ys.length := by rw [hlx.out, hly.out]
          apply List.ext_getElem hl
          intro j h1 h2
          have := Hall.out j (by rw [← hlx.out]; exact h1)
          rwa [getD_of_lt _ _ h1, getD_of_lt _ _ h2] at this
        exact ⟨by rw [this]; rfl, rfl, rfl, rfl, Nat.le_refl _, fun _ _ => rfl⟩
  · have hq : ((la : Int) != (lb : Int)) = true := by simp; omega
    go_enter Tryz.func33, Tryz.ntmps33
    go_wp2
    go_ret
    have : decide (xs = ys) = false := by
      simp only [decide_eq_false_iff_not]
      intro e; apply hne; rw [← hlx.out, ← hly.out, e]
    exact ⟨by rw [this]; rfl, Below.refl _ _⟩
end Go.Proofs.YtfjnplhhgdfepaaGreatDoor

/- Bytes. -/
namespace Go.Proofs.YtfjnplhhgdfepaaGreatDoor
open Go.RowKit Go.Shelf Go.Lib
attribute [local go_sem] Oper.semAt_some

set_option maxHeartbeats 1000000 in
theorem Bytes_bad (neg : Bool) (ao : Option Addr) (len cap : Nat) (xs : List Int) (w : World) (hs : Sl w ao len cap xs) (ho : okInt neg xs = false) :
    Calls Tryz.prog 31 #[.agg #[.bool neg, .slice ao len cap]] w fun e w' => e = .returned (.tuple #[.slice none 0 0, .int .i64 10]) ∧ Below w.heap.size w w' := by
  have hck := fun w h => check_any neg ao len cap xs w h
  rw [ho] at hck
  have Hck := Lib.hid hck
  clear hck ho
  go_enter Tryz.func31, Tryz.ntmps31
  go_wp2_with fail
  refine (Hck.out _ (hs.alloc _)).mono ?_
  rintro e w1 ⟨rfl, hb1⟩
  obtain ⟨_, _, hbb⟩ := kept1 _ _ hb1
  go_wp2
  go_ret2
  exact ⟨rfl, hbb⟩

theorem Tryz.infoB : (Tryz.prog.info? 5).map (fun i => (i.zero, i.size, i.bytes)) = some (some (.int .u8 0), 1, 1) := by kernel_rfl
theorem four_new (w : World) (a b c d : Value) : ∀ j u, [a, b, c, d][j]? = some u → (w.alloc (.cells #[a, b, c, d] 5)).cell? ((⟨w.heap.size, 0, none⟩ : Addr).add j) = some u := by
  intro j u h
  have hh := heap_new w (.cells #[a, b, c, d] 5)
  rw [Addr.add_lit]
  simp only [World.cell?, hh, Nat.zero_add]
  simpa using h
/-- The bytes of a part. -/
def quad (x : Int) : List Int := [x / 16777216, x / 65536 % 256, x / 256 % 256, x % 256]
/-- The bytes of an integer. -/
def bytesOf (z : Int) : List Int := (((parts z.natAbs).length : Int) + if z < 0 then 128 else 0) :: (parts z.natAbs).reverse.flatMap quad
/-- What the loop of Bytes knows of its memory: block b + 1 holds the slice, block s the iterator's parts. -/
def BytesInv (b : Nat) (s : Nat) (sv : Value) (first : Int) (w : World) (pre : List Part) (W : World) : Prop :=
  ((∃ v, Boxed W (b + 1) 25 v ∧ W.ownsRow b 5 1 v (1 + 4 * pre.length) ((first :: pre.flatMap fun x => quad x.1).map (Value.int .u8))) ∧ Boxed W s 22 sv) ∧ Below w.heap.size w W
theorem boxed_grown {X Y : World} {row : Option Nat} {B : Nat} {t : TypeId} {v : Value} (h : Boxed X B t v) (hg : X.grownBy Y row) (hr : ∀ r, row = some r → ∃ o : Obj, X.heap[r]? = some o ∧ o.isCells = false) : Boxed Y B t v :=
  h.kept hg (fun e => by obtain ⟨o, ho, hc⟩ := hr B e.symm; rw [show X.heap[B]? = _ from h] at ho; cases ho; cases hc)
theorem BytesInv.own {b s : Nat} {sv : Value} {first : Int} {w : World} {B : Nat} (hB : w.heap.size ≤ B) : OwnFrom B (BytesInv b s sv first w) := by
  rintro pre X Y row ⟨⟨⟨v, hv, hr⟩, hs⟩, hb⟩ hg hrow
  have hr' := fun r e => (hrow r e).2
  refine ⟨⟨⟨v, boxed_grown hv hg hr', hr.kept hg ?_⟩, boxed_grown hs hg hr'⟩, hb.grown hg hb.size (fun k e => Nat.le_trans hB (hrow k e).1)⟩
  rcases hr.2 with ⟨rfl, _⟩ | ⟨g, cap, cur, rfl, _, hgb, _⟩
  · exact .inl rfl
  · refine .inr fun e' => ?_
    obtain ⟨o, ho, hc⟩ := hr' g (by simpa [Value.ownBlock] using e'.symm)
    rw [hgb] at ho; cases ho; cases hc

set_option maxRecDepth 100000 in
set_option maxHeartbeats 4000000 in
theorem Bytes_ok (z : Int) (hl : Lim z) (ao : Option Addr) (len cap : Nat) (w : World) (hs : Sl w ao len cap (parts z.natAbs)) :
    Calls Tryz.prog 31 #[.agg #[.bool (decide (z < 0)), .slice ao len cap]] w fun e w' => ∃ ao len cap, e = .returned (.tuple #[.slice ao len cap, .int .i64 0]) ∧ Sb w' ao len cap (bytesOf z) ∧ Below w.heap.size w w' := by
  have hok : okInt (decide (z < 0)) (parts z.natAbs) = true := (okInt_iff _ _).2 ⟨z, hl, rfl, rfl⟩
  have hck := fun w h => check_any (decide (z < 0)) ao len cap (parts z.natAbs) w h
  rw [hok, show errOf true = 0 from rfl] at hck
  have hlen : len ≤ 40 := by have := hs.length; unfold Lim at hl; omega
  have hdig := parts_dig z.natAbs
  have hby : bytesOf z = ((len : Int) + if decide (z < 0) = true then 128 else 0) :: (parts z.natAbs).reverse.flatMap quad := by
    unfold bytesOf; rw [hs.length]; simp
  generalize hneg : decide (z < 0) = neg at *
  generalize parts z.natAbs = xs at *
  have Hck := Lib.hid hck
  have Hby := Lib.hid hby
  clear hck hok hneg hby
  obtain ⟨i0, hi, hz0, hz1, hz2⟩ := info_parts Tryz.infoB
  refine (callsIn_wide (n := 5)).1 ?_
  refine callsIn_of_wp_marks Tryz.func31 rfl trivial ?_ rfl
  simp only [Tryz.ntmps31, List.size_toArray, List.length_cons, List.length_nil, Nat.reduceAdd, Nat.reduceSub, Array.replicate_succ, Array.replicate_zero, List.push_toArray, List.append_toArray, List.nil_append, List.cons_append]
  gi_wp2_with (refine ⟨trivial, ?_⟩; gi_at_call 20; refine (callsIn_wide.2 (Hck.out _ (hs.alloc _))).mono ?_; rintro e w1 ⟨rfl, hb1⟩; obtain ⟨hA, hsz, hbb⟩ := kept1 _ _ hb1; obtain ⟨k1, k2, k3, k4, k5⟩ := box2 hA; clear hb1)
  · refine ⟨trivial, (top_in _ _ _ _).mono ?_⟩
    rintro e w' ⟨rfl, rfl⟩
    have hneg : neg = true := by assumption
    subst hneg
    gi_wp2
    have hR : (((w1.alloc (.cells #[.int .u8 ((len : Int) + 128)] 5)).alloc (.cells #[.slice (some ⟨w1.heap.size, 0, none⟩) 1 1] 25)).alloc (.cells #[.slice ao len cap] 22)).heap[w1.heap.size]? = some (.cells #[.int .u8 ((len : Int) + 128)] 5 (0, 0)) := heap3_0 w1 _ _ _
    have hD : Boxed (((w1.alloc (.cells #[.int .u8 ((len : Int) + 128)] 5)).alloc (.cells #[.slice (some ⟨w1.heap.size, 0, none⟩) 1 1] 25)).alloc (.cells #[.slice ao len cap] 22)) (w1.heap.size + 1) 25 (.slice (some ⟨w1.heap.size, 0, none⟩) 1 1) := heap3_1 w1 _ _ _
    have hS : Boxed (((w1.alloc (.cells #[.int .u8 ((len : Int) + 128)] 5)).alloc (.cells #[.slice (some ⟨w1.heap.size, 0, none⟩) 1 1] 25)).alloc (.cells #[.slice ao len cap] 22)) (w1.heap.size + 1 + 1) 22 (.slice ao len cap) := heap3_2 w1 _ _ _
    have hBW : Below w.heap.size w (((w1.alloc (.cells #[.int .u8 ((len : Int) + 128)] 5)).alloc (.cells #[.slice (some ⟨w1.heap.size, 0, none⟩) 1 1] 25)).alloc (.cells #[.slice ao len cap] 22)) := hbb.trans ((below3 w1 _ _ _).mono hbb.size)
    have hsW := Sl.below hs hBW
    have hrow : (((w1.alloc (.cells #[.int .u8 ((len : Int) + 128)] 5)).alloc (.cells #[.slice (some ⟨w1.heap.size, 0, none⟩) 1 1] 25)).alloc (.cells #[.slice ao len cap] 22)).ownsRow w1.heap.size 5 1 (.slice (some ⟨w1.heap.size, 0, none⟩) 1 1) 1 ([(((len : Int) + 128) : Int)].map (Value.int .u8)) := ⟨rfl, .inr ⟨w1.heap.size, 1, #[.int .u8 ((len : Int) + 128)], rfl, Nat.le_refl _, hR, Nat.le_refl _, by unfold maxLen; omega, rfl, rfl⟩⟩
    have hlow : 0 < len → ∀ a, ao = some a → a.block < w1.heap.size := by
      intro h0 a ha
      obtain ⟨b, o, hbo, hc⟩ := hs.at h0
      rw [ha] at hbo
      obtain rfl := Option.some.inj hbo
      have := cell_lt (hc 0 h0)
      exact Nat.lt_of_lt_of_le this (by omega)
    obtain ⟨zs, rfl⟩ := parts_of hdig
    have hDlt := hD.lt
    have hSlt := hS.lt
    generalize hW0 : ((w1.alloc (.cells #[.int .u8 ((len : Int) + 128)] 5)).alloc (.cells #[.slice (some ⟨w1.heap.size, 0, none⟩) 1 1] 25)).alloc (.cells #[.slice ao len cap] 22) = W0 at *
    refine wpIn_rangeFunc_ownG rfl (by omega) (gf := 116) (lb := #[.pointer (some ⟨w1.heap.size + 1 + 1, 0, none⟩)]) rfl trivial (enters_of Tryz.func116 (by kernel_rfl) rfl)
      (top_stops (w1.heap.size + 1 + 1) (w1.heap.size) ao len cap zs (by omega) W0 hS hsW hlow) KeepT.t (KeepT.b (by omega) (by omega)) (Below.refl _ _) (fun _ => rfl)
      (BytesInv (w1.heap.size) (w1.heap.size + 1 + 1) (.slice ao len cap) ((len : Int) + 128) w) (fun _ _ _ => False) (BytesInv.own (by omega)) (fun _ _ _ _ _ hs _ _ => hs)
      ⟨⟨⟨_, hD, hrow⟩, hS⟩, hBW⟩
      (fun x => { tmps := #[.agg #[.bool true, .slice ao len cap], .pointer (some ⟨w.heap.size, 0, none⟩), .slice none 0 0, .int .i64 0, .int .i64 0, .int .u8 ((len : Int) + 128), .pointer (some ⟨w1.heap.size + 1, 0, none⟩), .int .i64 x.1, .agg #[.bool true, .slice ao len cap], .int .i64 0, .int .i64 0, .bool false, undef, .pointer (some ⟨w.heap.size, 1, none⟩), .slice ao len cap, .int .i64 len, .int .u8 len, .pointer (some ⟨w.heap.size, 0, none⟩), .bool true, .int .u8 len, .int .u8 ((len : Int) + 128), .int .u8 ((len : Int) + 128), .slice (some ⟨w1.heap.size, 0, none⟩) 1 1, .pointer (some ⟨w.heap.size, 1, none⟩), .slice ao len cap, .func (.func 116) #[] #[.pointer (some ⟨w1.heap.size + 1 + 1, 0, none⟩)], .int .i64 x.1, undef, undef, undef, undef, undef, undef, undef, undef, undef, undef, undef, undef, undef, undef, undef], defers := [] }) ?assign ?body ?done ?stop
    case assign =>
      intro l x W K hK
      gi_wp2
      exact hK
    case stop =>
      rintro D c pre W _ _ h _
      exact h.elim
    case done =>
      rintro D ys W hD9 rfl ⟨⟨⟨v, hv, hr⟩, hsb⟩, hB9⟩ hK
      have hc := hv.cell
      gi_wp2
      refine ⟨by simp, .inl ⟨_, _, rfl, run_takeDeferred hK, ?_⟩⟩
      have hr3 := ownsRow_putObj hr (.deferred none) hK rfl
      obtain ⟨ao', cap', hv', hsb'⟩ := Sb.of_owns hr3
      subst hv'
      refine ⟨.tuple #[.slice ao' (1 + 4 * zs.reverse.length) cap', .int .i64 0], ?_, _, _, _, rfl, ?_, hB9.trans (belowK_b (w := w) (Nat.le_refl _) W D _ _ (by omega) hK rfl rfl)⟩
      · simp [results, Tryz.f31, go_sem]
      · have e : bytesOf z = ((len : Int) + 128) :: zs.reverse.flatMap (fun x => quad x.1) := by
          rw [Hby.out, ← List.map_reverse, List.flatMap_map]; simp
        rw [e]; exact hsb'
    case body =>
      rintro l pre ⟨x, hx0, hx1⟩ W ⟨⟨⟨v, hv, hr⟩, hsb⟩, hB9⟩ hp9
      have hc := hv.cell
      have hn4 := four_new W (.int .u8 (x / 16777216)) (.int .u8 (x / 65536 % 256)) (.int .u8 (x / 256 % 256)) (.int .u8 (x % 256))
      have hWl := hv.lt
      have hones : ∀ u ∈ [Value.int .u8 (x / 16777216), .int .u8 (x / 65536 % 256), .int .u8 (x / 256 % 256), .int .u8 (x % 256)], u.oneCell' = true := by simp [Value.oneCell']
      have hmx : 1 + 4 * pre.length + 4 ≤ maxLen := by unfold maxLen; omega
      have hbytes : (1 + 4 * pre.length + 4) * 1 ≤ 140737488355328 := by omega
      gi_wp2_with (gi_at_builtin; refine wpListIn_append_own _ rfl _ _ 25 rfl (w1.heap.size) 5 i0 (.int .u8 0) 1 1 Tryz.underlying25 hi hz0 hz1 hz2 rfl (by decide) _ _ _ rfl (hr.alloc _) ⟨W.heap.size, 0, none⟩ 4 4 [.int .u8 (x / 16777216), .int .u8 (x / 65536 % 256), .int .u8 (x / 256 % 256), .int .u8 (x % 256)] rfl rfl hn4 hones hmx hbytes (by simp; omega) ?_; intro v' w2 hown' hgrow _; obtain ⟨g', cap', rfl⟩ := ownsRow_succ hown'; obtain ⟨hv1, hv2, hr2, hk2, hb2⟩ := hv.appended (by decide) hr (by omega) (by omega) hown' hgrow; have hs2 := ((hsb.alloc _).kept hgrow (hsb.not_row (by decide) hr)).kept (grownBy_setCell' w2 (w1.heap.size + 1) (.slice (some ⟨g', 0, none⟩) (1 + 4 * pre.length + 4) cap')) (by simp); have hc1 := hv1.cell; have hf1 := hv1.frozen)
      refine ⟨hk2.from _, ⟨hb2, (show _ = _ from hs2).trans (show _ = _ from hsb).symm⟩, ⟨⟨_, hv2, ?_⟩, hs2⟩, hB9.trans (hb2.mono (by omega))⟩
      have e : 1 + 4 * (pre ++ [(⟨(x : Int), hx0, hx1⟩ : Part)]).length = 1 + 4 * pre.length + 4 := by simp; omega
      rw [e]
      simpa [quad] using hr2
  · refine ⟨trivial, (top_in _ _ _ _).mono ?_⟩
    rintro e w' ⟨rfl, rfl⟩
    have hneg : neg = false := by assumption
    subst hneg
    gi_wp2
    have hR : (((w1.alloc (.cells #[.int .u8 (len : Int)] 5)).alloc (.cells #[.slice (some ⟨w1.heap.size, 0, none⟩) 1 1] 25)).alloc (.cells #[.slice ao len cap] 22)).heap[w1.heap.size]? = some (.cells #[.int .u8 (len : Int)] 5 (0, 0)) := heap3_0 w1 _ _ _
    have hD : Boxed (((w1.alloc (.cells #[.int .u8 (len : Int)] 5)).alloc (.cells #[.slice (some ⟨w1.heap.size, 0, none⟩) 1 1] 25)).alloc (.cells #[.slice ao len cap] 22)) (w1.heap.size + 1) 25 (.slice (some ⟨w1.heap.size, 0, none⟩) 1 1) := heap3_1 w1 _ _ _
    have hS : Boxed (((w1.alloc (.cells #[.int .u8 (len : Int)] 5)).alloc (.cells #[.slice (some ⟨w1.heap.size, 0, none⟩) 1 1] 25)).alloc (.cells #[.slice ao len cap] 22)) (w1.heap.size + 1 + 1) 22 (.slice ao len cap) := heap3_2 w1 _ _ _
    have hBW : Below w.heap.size w (((w1.alloc (.cells #[.int .u8 (len : Int)] 5)).alloc (.cells #[.slice (some ⟨w1.heap.size, 0, none⟩) 1 1] 25)).alloc (.cells #[.slice ao len cap] 22)) := hbb.trans ((below3 w1 _ _ _).mono hbb.size)
    have hsW := Sl.below hs hBW
    have hrow : (((w1.alloc (.cells #[.int .u8 (len : Int)] 5)).alloc (.cells #[.slice (some ⟨w1.heap.size, 0, none⟩) 1 1] 25)).alloc (.cells #[.slice ao len cap] 22)).ownsRow w1.heap.size 5 1 (.slice (some ⟨w1.heap.size, 0, none⟩) 1 1) 1 ([((len : Int) : Int)].map (Value.int .u8)) := ⟨rfl, .inr ⟨w1.heap.size, 1, #[.int .u8 (len : Int)], rfl, Nat.le_refl _, hR, Nat.le_refl _, by unfold maxLen; omega, rfl, rfl⟩⟩
    have hlow : 0 < len → ∀ a, ao = some a → a.block < w1.heap.size := by
      intro h0 a ha
      obtain ⟨b, o, hbo, hc⟩ := hs.at h0
      rw [ha] at hbo
      obtain rfl := Option.some.inj hbo
      have := cell_lt (hc 0 h0)
      exact Nat.lt_of_lt_of_le this (by omega)
    obtain ⟨zs, rfl⟩ := parts_of hdig
    have hDlt := hD.lt
    have hSlt := hS.lt
    generalize hW0 : ((w1.alloc (.cells #[.int .u8 (len : Int)] 5)).alloc (.cells #[.slice (some ⟨w1.heap.size, 0, none⟩) 1 1] 25)).alloc (.cells #[.slice ao len cap] 22) = W0 at *
    refine wpIn_rangeFunc_ownG rfl (by omega) (gf := 116) (lb := #[.pointer (some ⟨w1.heap.size + 1 + 1, 0, none⟩)]) rfl trivial (enters_of Tryz.func116 (by kernel_rfl) rfl)
      (top_stops (w1.heap.size + 1 + 1) (w1.heap.size) ao len cap zs (by omega) W0 hS hsW hlow) KeepT.t (KeepT.b (by omega) (by omega)) (Below.refl _ _) (fun _ => rfl)
      (BytesInv (w1.heap.size) (w1.heap.size + 1 + 1) (.slice ao len cap) (len : Int) w) (fun _ _ _ => False) (BytesInv.own (by omega)) (fun _ _ _ _ _ hs _ _ => hs)
      ⟨⟨⟨_, hD, hrow⟩, hS⟩, hBW⟩
      (fun x => { tmps := #[.agg #[.bool false, .slice ao len cap], .pointer (some ⟨w.heap.size, 0, none⟩), .slice none 0 0, .int .i64 0, .int .i64 0, .int .u8 (len : Int), .pointer (some ⟨w1.heap.size + 1, 0, none⟩), .int .i64 x.1, .agg #[.bool false, .slice ao len cap], .int .i64 0, .int .i64 0, .bool false, undef, .pointer (some ⟨w.heap.size, 1, none⟩), .slice ao len cap, .int .i64 len, .int .u8 len, .pointer (some ⟨w.heap.size, 0, none⟩), .bool false, undef, undef, .int .u8 (len : Int), .slice (some ⟨w1.heap.size, 0, none⟩) 1 1, .pointer (some ⟨w.heap.size, 1, none⟩), .slice ao len cap, .func (.func 116) #[] #[.pointer (some ⟨w1.heap.size + 1 + 1, 0, none⟩)], .int .i64 x.1, undef, undef, undef, undef, undef, undef, undef, undef, undef, undef, undef, undef, undef, undef, undef], defers := [] }) ?assign ?body ?done ?stop
    case assign =>
      intro l x W K hK
      gi_wp2
      exact hK
    case stop =>
      rintro D c pre W _ _ h _
      exact h.elim
    case done =>
      rintro D ys W hD9 rfl ⟨⟨⟨v, hv, hr⟩, hsb⟩, hB9⟩ hK
      have hc := hv.cell
      gi_wp2
      refine ⟨by simp, .inl ⟨_, _, rfl, run_takeDeferred hK, ?_⟩⟩
      have hr3 := ownsRow_putObj hr (.deferred none) hK rfl
      obtain ⟨ao', cap', hv', hsb'⟩ := Sb.of_owns hr3
      subst hv'
      refine ⟨.tuple #[.slice ao' (1 + 4 * zs.reverse.length) cap', .int .i64 0], ?_, _, _, _, rfl, ?_, hB9.trans (belowK_b (w := w) (Nat.le_refl _) W D _ _ (by omega) hK rfl rfl)⟩
      · simp [results, Tryz.f31, go_sem]
      · have e : bytesOf z = (len : Int) :: zs.reverse.flatMap (fun x => quad x.1) := by
          rw [Hby.out, ← List.map_reverse, List.flatMap_map]; simp
        rw [e]; exact hsb'
    case body =>
      rintro l pre ⟨x, hx0, hx1⟩ W ⟨⟨⟨v, hv, hr⟩, hsb⟩, hB9⟩ hp9
      have hc := hv.cell
      have hn4 := four_new W (.int .u8 (x / 16777216)) (.int .u8 (x / 65536 % 256)) (.int .u8 (x / 256 % 256)) (.int .u8 (x % 256))
      have hWl := hv.lt
      have hones : ∀ u ∈ [Value.int .u8 (x / 16777216), .int .u8 (x / 65536 % 256), .int .u8 (x / 256 % 256), .int .u8 (x % 256)], u.oneCell' = true := by simp [Value.oneCell']
      have hmx : 1 + 4 * pre.length + 4 ≤ maxLen := by unfold maxLen; omega
      have hbytes : (1 + 4 * pre.length + 4) * 1 ≤ 140737488355328 := by omega
      gi_wp2_with (gi_at_builtin; refine wpListIn_append_own _ rfl _ _ 25 rfl (w1.heap.size) 5 i0 (.int .u8 0) 1 1 Tryz.underlying25 hi hz0 hz1 hz2 rfl (by decide) _ _ _ rfl (hr.alloc _) ⟨W.heap.size, 0, none⟩ 4 4 [.int .u8 (x / 16777216), .int .u8 (x / 65536 % 256), .int .u8 (x / 256 % 256), .int .u8 (x % 256)] rfl rfl hn4 hones hmx hbytes (by simp; omega) ?_; intro v' w2 hown' hgrow _; obtain ⟨g', cap', rfl⟩ := ownsRow_succ hown'; obtain ⟨hv1, hv2, hr2, hk2, hb2⟩ := hv.appended (by decide) hr (by omega) (by omega) hown' hgrow; have hs2 := ((hsb.alloc _).kept hgrow (hsb.not_row (by decide) hr)).kept (grownBy_setCell' w2 (w1.heap.size + 1) (.slice (some ⟨g', 0, none⟩) (1 + 4 * pre.length + 4) cap')) (by simp); have hc1 := hv1.cell; have hf1 := hv1.frozen)
      refine ⟨hk2.from _, ⟨hb2, (show _ = _ from hs2).trans (show _ = _ from hsb).symm⟩, ⟨⟨_, hv2, ?_⟩, hs2⟩, hB9.trans (hb2.mono (by omega))⟩
      have e : 1 + 4 * (pre ++ [(⟨(x : Int), hx0, hx1⟩ : Part)]).length = 1 + 4 * pre.length + 4 := by simp; omega
      rw [e]
      simpa [quad] using hr2
end Go.Proofs.YtfjnplhhgdfepaaGreatDoor

/- Long division: plain mathematics. -/
namespace Go.Proofs.YtfjnplhhgdfepaaGreatDoor

theorem dig_iff (L : List Int) : Dig L ↔ ∀ j, 0 ≤ L.getD j 0 ∧ L.getD j 0 < 1000000000 := by
  constructor
  · intro h j; exact h.getD j
  · intro h x hx
    obtain ⟨j, hj, rfl⟩ := List.getElem_of_mem hx
    have := h j
    rwa [getD_of_lt _ _ hj] at this

/-- subtractTimes, at the head of a round. -/
def SubT (L ys : List Int) (i : Nat) (t : Int) (k : Nat) (c : Int) (Z : List Int) : Prop :=
  Z.length = L.length ∧ (∀ j, j < i ∨ i + k ≤ j → Z.getD j 0 = L.getD j 0) ∧ (∀ j, i ≤ j → j < i + k → 0 ≤ Z.getD j 0 ∧ Z.getD j 0 < 1000000000) ∧ 0 ≤ c ∧ c ≤ t + 1 ∧
    val Z - 1000000000 ^ (i + k) * c = val L - 1000000000 ^ i * (t * val (ys.take k))
theorem SubT.start (L ys : List Int) (i : Nat) (t : Int) (ht : 0 ≤ t) : SubT L ys i t 0 0 L :=
  ⟨rfl, fun _ _ => rfl, fun j h1 h2 => by omega, by omega, by omega, by simp [val]⟩
theorem SubT.step {L ys : List Int} {i : Nat} {t : Int} {k : Nat} {c : Int} {Z : List Int} (h : SubT L ys i t k c Z) (hk : i + k < L.length) (ht0 : 0 ≤ t)
    (hl : 0 ≤ L.getD (i + k) 0 ∧ L.getD (i + k) 0 < 1000000000) (hy : 0 ≤ ys.getD k 0 ∧ ys.getD k 0 ≤ 999999999) (s z c' : Int) (hs : s = L.getD (i + k) 0 - ys.getD k 0 * t - c) (hz : z = s % 1000000000) (hc : c' * 1000000000 = z - s) :
    SubT L ys i t (k + 1) c' (Z.set (i + k) z) := by
  obtain ⟨h1, h2, h3, h4, h5, h6⟩ := h
  have hp0 := Int.mul_nonneg hy.1 ht0
  have hp1 : ys.getD k 0 * t ≤ 999999999 * t := Int.mul_le_mul_of_nonneg_right hy.2 ht0
  refine ⟨by simp [h1], fun j hj => ?_, fun j hj1 hj2 => ?_, by omega, by omega, ?_⟩
  · rw [getD_set_ne _ _ _ _ (by omega)]; exact h2 j (by omega)
  · by_cases e : i + k = j
    · subst e; rw [getD_set_eq _ _ _ (by omega)]; omega
    · rw [getD_set_ne _ _ _ _ e]; exact h3 j hj1 (by omega)
  · rw [val_set _ _ _ (by omega), h2 _ (.inr (Nat.le_refl _)), val_take_step, show i + (k + 1) = (i + k) + 1 from by omega, Int.pow_succ]
    rw [Int.pow_add] at *
    generalize (1000000000 : Int) ^ i = P at *
    generalize (1000000000 : Int) ^ k = Q at *
    generalize ys.getD k 0 = y at *
    have e1 : 1000000000 * c' = z - s := by omega
    have e2 : P * Q * 1000000000 * c' = P * Q * (z - s) := by rw [Int.mul_assoc (P * Q), e1]
    rw [e2, hs]
    grind
/-- What subtractTimes leaves. -/
theorem SubT.finish {L ys : List Int} {i : Nat} {t : Int} {n : Nat} {c : Int} {Z : List Int} (h : SubT L ys i t n c Z) (hn : ys.length = n) (hk : i + n < L.length) (hL : Dig L) :
    (Z.set (i + n) (Z.getD (i + n) 0 - c)).length = L.length ∧ (∀ j, j < i ∨ i + n < j → (Z.set (i + n) (Z.getD (i + n) 0 - c)).getD j 0 = L.getD j 0) ∧
    (∀ j, j ≠ i + n → 0 ≤ (Z.set (i + n) (Z.getD (i + n) 0 - c)).getD j 0 ∧ (Z.set (i + n) (Z.getD (i + n) 0 - c)).getD j 0 < 1000000000) ∧
    val (Z.set (i + n) (Z.getD (i + n) 0 - c)) = val L - 1000000000 ^ i * (t * val ys) := by
  obtain ⟨h1, h2, h3, h4, h5, h6⟩ := h
  refine ⟨by simp [h1], fun j hj => ?_, fun j hj => ?_, ?_⟩
  · rw [getD_set_ne _ _ _ _ (by omega)]; exact h2 j (by omega)
  · rw [getD_set_ne _ _ _ _ (fun e => hj e.symm)]
    by_cases hj1 : i ≤ j
    · by_cases hj2 : j < i + n
      · exact h3 j hj1 hj2
      · rw [h2 j (by omega)]; exact hL.getD j
    · rw [h2 j (by omega)]; exact hL.getD j
  · rw [val_set _ _ _ (by omega)]
    rw [← hn, List.take_length, hn] at h6
    grind

/-- addBack, at the head of a round. -/
def AddB (L ys : List Int) (i : Nat) (k : Nat) (c : Int) (Z : List Int) : Prop :=
  Z.length = L.length ∧ (∀ j, j < i ∨ i + k ≤ j → Z.getD j 0 = L.getD j 0) ∧ (∀ j, i ≤ j → j < i + k → 0 ≤ Z.getD j 0 ∧ Z.getD j 0 < 1000000000) ∧ 0 ≤ c ∧ c ≤ 1 ∧
    val Z + 1000000000 ^ (i + k) * c = val L + 1000000000 ^ i * val (ys.take k)
theorem AddB.start (L ys : List Int) (i : Nat) : AddB L ys i 0 0 L :=
  ⟨rfl, fun _ _ => rfl, fun j h1 h2 => by omega, by omega, by omega, by simp [val]⟩
theorem AddB.step {L ys : List Int} {i : Nat} {k : Nat} {c : Int} {Z : List Int} (h : AddB L ys i k c Z) (hk : i + k < L.length)
    (hl : 0 ≤ L.getD (i + k) 0 ∧ L.getD (i + k) 0 < 1000000000) (hy : 0 ≤ ys.getD k 0 ∧ ys.getD k 0 ≤ 999999999) (s : Int) (hs : s = L.getD (i + k) 0 + ys.getD k 0 + c) :
    AddB L ys i (k + 1) (s / 1000000000) (Z.set (i + k) (s % 1000000000)) := by
  obtain ⟨h1, h2, h3, h4, h5, h6⟩ := h
  refine ⟨by simp [h1], fun j hj => ?_, fun j hj1 hj2 => ?_, by omega, by omega, ?_⟩
  · rw [getD_set_ne _ _ _ _ (by omega)]; exact h2 j (by omega)
  · by_cases e : i + k = j
    · subst e; rw [getD_set_eq _ _ _ (by omega)]; omega
    · rw [getD_set_ne _ _ _ _ e]; exact h3 j hj1 (by omega)
  · rw [val_set _ _ _ (by omega), h2 _ (.inr (Nat.le_refl _)), val_take_step, show i + (k + 1) = (i + k) + 1 from by omega, Int.pow_succ]
    rw [Int.pow_add] at *
    have e : s % 1000000000 + 1000000000 * (s / 1000000000) = s := by omega
    grind
theorem AddB.finish {L ys : List Int} {i : Nat} {n : Nat} {c : Int} {Z : List Int} (h : AddB L ys i n c Z) (hn : ys.length = n) (hk : i + n < L.length) (hL : ∀ j, j ≠ i + n → 0 ≤ L.getD j 0 ∧ L.getD j 0 < 1000000000) :
    (Z.set (i + n) (Z.getD (i + n) 0 + c)).length = L.length ∧ (∀ j, j < i ∨ i + n < j → (Z.set (i + n) (Z.getD (i + n) 0 + c)).getD j 0 = L.getD j 0) ∧
    (∀ j, j ≠ i + n → 0 ≤ (Z.set (i + n) (Z.getD (i + n) 0 + c)).getD j 0 ∧ (Z.set (i + n) (Z.getD (i + n) 0 + c)).getD j 0 < 1000000000) ∧
    val (Z.set (i + n) (Z.getD (i + n) 0 + c)) = val L + 1000000000 ^ i * val ys := by
  obtain ⟨h1, h2, h3, h4, h5, h6⟩ := h
  refine ⟨by simp [h1], fun j hj => ?_, fun j hj => ?_, ?_⟩
  · rw [getD_set_ne _ _ _ _ (by omega)]; exact h2 j (by omega)
  · rw [getD_set_ne _ _ _ _ (fun e => hj e.symm)]
    by_cases hj1 : i ≤ j
    · by_cases hj2 : j < i + n
      · exact h3 j hj1 hj2
      · rw [h2 j (by omega)]; exact hL j hj
    · rw [h2 j (by omega)]; exact hL j (by omega)
  · rw [val_set _ _ _ (by omega)]
    rw [← hn, List.take_length, hn] at h6
    grind

theorem getLast_getD' (xs : List Int) (h : xs.length ≠ 0) : xs.getLast? = some (xs.getD (xs.length - 1) 0) := by
  rw [List.getLast?_eq_getElem?, getD_of_lt _ _ (by omega), List.getElem?_eq_getElem (by omega)]
theorem getD_drop (L : List Int) (i j : Nat) : (L.drop i).getD j 0 = L.getD (i + j) 0 := by simp [List.getD]
theorem getD_take (L : List Int) (i j : Nat) (h : j < i) : (L.take i).getD j 0 = L.getD j 0 := by simp [List.getD, h]
theorem ext_getD {L M : List Int} (hl : L.length = M.length) (h : ∀ j, j < L.length → L.getD j 0 = M.getD j 0) : L = M := by
  apply List.ext_getElem hl
  intro j h1 h2
  have := h j h1
  rwa [getD_of_lt _ _ h1, getD_of_lt _ _ h2] at this
theorem take_eq {L M : List Int} (i : Nat) (hl : L.length = M.length) (h : ∀ j, j < i → L.getD j 0 = M.getD j 0) : L.take i = M.take i := by
  apply ext_getD (by simp [hl])
  intro j hj
  rw [List.length_take] at hj
  rw [getD_take _ _ _ (by omega), getD_take _ _ _ (by omega)]
  exact h j (by omega)
theorem drop_eq {L M : List Int} (i : Nat) (hl : L.length = M.length) (h : ∀ j, i ≤ j → L.getD j 0 = M.getD j 0) : L.drop i = M.drop i := by
  apply ext_getD (by simp [hl])
  intro j hj
  rw [getD_drop, getD_drop]
  exact h _ (by omega)
theorem val_drop_succ (L : List Int) (i : Nat) (h : i < L.length) : val (L.drop i) = L.getD i 0 + 1000000000 * val (L.drop (i + 1)) := by
  rw [List.drop_eq_getElem_cons h, val, getD_of_lt _ _ h]
theorem pow_pos' (n : Nat) : (0 : Int) < 1000000000 ^ n := Int.pow_pos (by omega)

/-- The value from a place on, taken apart at n parts and one. -/
theorem val_win (L : List Int) (i n : Nat) (h : i + n < L.length) : val (L.drop i) = val ((L.drop i).take n) + 1000000000 ^ n * (L.getD (i + n) 0 + 1000000000 * val (L.drop (i + n + 1))) := by
  rw [val_drop (L.drop i) n (by simp; omega), List.drop_drop, val_drop_succ _ _ h]
/-- Where all but the parts' top is in range, the sign of the value is that of the top, and a small value has the top 0. -/
theorem win_sign (L : List Int) (i n : Nat) (h : i + n < L.length) (hd : ∀ j, j ≠ i + n → 0 ≤ L.getD j 0 ∧ L.getD j 0 < 1000000000) (h0 : val (L.drop (i + n + 1)) = 0) :
    (0 ≤ val (L.drop i) ↔ 0 ≤ L.getD (i + n) 0) ∧ (0 ≤ val (L.drop i) → val (L.drop i) < 1000000000 ^ n → L.getD (i + n) 0 = 0) := by
  have hv := val_win L i n h
  rw [h0] at hv
  have hlow : Dig ((L.drop i).take n) := by
    rw [dig_iff]
    intro j
    by_cases hj : j < n
    · rw [getD_take _ _ _ hj, getD_drop]; exact hd _ (by omega)
    · rw [getD_of_ge _ _ (by simp; omega)]; omega
  have h1 := val_nonneg hlow
  have h2 := val_lt hlow
  rw [List.length_take, List.length_drop, Nat.min_eq_left (by omega)] at h2
  have hp := pow_pos' n
  generalize (1000000000 : Int) ^ n = P at *
  generalize L.getD (i + n) 0 = t at *
  simp only [Int.mul_zero, Int.add_zero] at hv
  refine ⟨⟨fun h => ?_, fun h => ?_⟩, fun hA hB => ?_⟩
  · rcases Int.lt_or_le t 0 with ht | ht
    · have : P * t ≤ P * (-1) := Int.mul_le_mul_of_nonneg_left (by omega) (by omega)
      omega
    · exact ht
  · have : 0 ≤ P * t := Int.mul_nonneg (by omega) h
    omega
  · rcases Int.lt_trichotomy t 0 with ht | ht | ht
    · have : P * t ≤ P * (-1) := Int.mul_le_mul_of_nonneg_left (by omega) (by omega)
      omega
    · exact ht
    · have : P * 1 ≤ P * t := Int.mul_le_mul_of_nonneg_left (by omega) (by omega)
      omega

/-- The guess: u is the window's value, v the divisor's; top = u_n B + u_{n-1}; x and y are the next parts, a and b what lies below them. -/
theorem guess_hi {u v top v1 v2 u2 a b P t o : Int} (hP : 0 < P) (hu : u = top * (P * 1000000000) + u2 * P + a) (hv : v = v1 * (P * 1000000000) + v2 * P + b)
    (ha0 : 0 ≤ a) (_ha1 : a < P) (_hb0 : 0 ≤ b) (hb1 : b < P) (ht0 : 0 ≤ t) (ht1 : t ≤ 1000000001) (hv1 : 500000000 ≤ v1) (hv2 : 0 ≤ v2) (hto : t * v1 + o = top) (h : t * v2 ≤ o * 1000000000 + u2) : -v < u - t * v := by
  have e : u - t * v = (o * 1000000000 + u2 - t * v2) * P + (a - t * b) := by rw [hu, hv, ← hto]; grind
  have h1 : 0 ≤ (o * 1000000000 + u2 - t * v2) * P := Int.mul_nonneg (by omega) (by omega)
  have h2 : t * b ≤ 1000000001 * P := by
    have := Int.mul_le_mul_of_nonneg_left (show b ≤ P by omega) ht0
    have := Int.mul_le_mul_of_nonneg_right ht1 (show 0 ≤ P by omega)
    omega
  have h3 : 500000000 * (P * 1000000000) ≤ v := by
    have := Int.mul_le_mul_of_nonneg_right hv1 (show 0 ≤ P * 1000000000 by omega)
    have := Int.mul_nonneg hv2 (show 0 ≤ P by omega)
    omega
  omega
theorem guess_lo {u v top v1 v2 u2 a b P t o : Int} (hP : 0 < P) (hu : u = top * (P * 1000000000) + u2 * P + a) (hv : v = v1 * (P * 1000000000) + v2 * P + b)
    (_ha0 : 0 ≤ a) (ha1 : a < P) (hb0 : 0 ≤ b) (ht0 : 0 ≤ t) (hto : t * v1 + o = top) (h : o * 1000000000 + u2 < t * v2) : u - t * v < 0 := by
  have e : u - t * v = (o * 1000000000 + u2 - t * v2) * P + (a - t * b) := by rw [hu, hv, ← hto]; grind
  have h1 : (o * 1000000000 + u2 - t * v2) * P ≤ (-1) * P := Int.mul_le_mul_of_nonneg_right (by omega) (by omega)
  have h2 : 0 ≤ t * b := Int.mul_nonneg ht0 hb0
  omega
/-- The first guess is not too small. -/
theorem guess_start {u v top v1 v2 u2 a b P : Int} (hP : 0 < P) (hu : u = top * (P * 1000000000) + u2 * P + a) (hv : v = v1 * (P * 1000000000) + v2 * P + b)
    (ha1 : a < P) (hb0 : 0 ≤ b) (hu2 : u2 < 1000000000) (hv1 : 0 < v1) (hv2 : 0 ≤ v2) (htop : 0 ≤ top) : u < (top / v1 + 1) * v := by
  have h1 : top < (top / v1 + 1) * v1 := by
    have h1 := Int.emod_lt_of_pos top hv1
    have h2 := Int.mul_ediv_add_emod top v1
    generalize top / v1 = q at *
    rw [Int.add_mul, Int.mul_comm q v1]; omega
  have hq : 0 ≤ top / v1 := Int.ediv_nonneg htop (by omega)
  generalize top / v1 = q at *
  have h2 : (top + 1) * (P * 1000000000) ≤ ((q + 1) * v1) * (P * 1000000000) := Int.mul_le_mul_of_nonneg_right (by omega) (by omega)
  have h3 : u2 * P ≤ 999999999 * P := Int.mul_le_mul_of_nonneg_right (by omega) (by omega)
  have h4 : 0 ≤ (q + 1) * (v2 * P + b) := Int.mul_nonneg (by omega) (by have := Int.mul_nonneg hv2 (show 0 ≤ P by omega); omega)
  have e : (q + 1) * v = ((q + 1) * v1) * (P * 1000000000) + (q + 1) * (v2 * P + b) := by rw [hv]; grind
  rw [Int.add_mul] at h2
  omega
/-- It is at most the base and one. -/
theorem guess_le {top v1 u1 u0 : Int} (hv1 : 500000000 ≤ v1) (h : top = u1 * 1000000000 + u0) (hu : u1 ≤ v1) (h0 : u0 < 1000000000) : top / v1 ≤ 1000000001 := by
  have h1 : top < v1 * 1000000002 := by omega
  have := Int.ediv_lt_of_lt_mul (show 0 < v1 by omega) (show top < 1000000002 * v1 by omega)
  omega
theorem scale_top (b : Int) (h0 : 1 ≤ b) (h1 : b ≤ 999999999) : 500000000 ≤ b * (1000000000 / (b + 1)) := by
  have hd1 := Int.mul_ediv_add_emod 1000000000 (b + 1)
  have hd2 := Int.emod_lt_of_pos 1000000000 (show 0 < b + 1 by omega)
  have hd3 : 1 ≤ 1000000000 / (b + 1) := by
    rw [Int.le_ediv_iff_mul_le (by omega)]; omega
  generalize 1000000000 / (b + 1) = d at *
  rw [Int.add_mul] at hd1
  have h3 : 0 ≤ (b - 1) * (d - 1) := Int.mul_nonneg (by omega) (by omega)
  rw [Int.sub_mul, Int.mul_sub] at h3
  omega
end Go.Proofs.YtfjnplhhgdfepaaGreatDoor

/- subtractTimes and addBack: they write into a window of a row. -/
namespace Go.Proofs.YtfjnplhhgdfepaaGreatDoor
open Go.RowKit

/-- Nothing but block g is otherwise, and there is no new block. -/
structure Only (g : Nat) (w w' : World) : Prop where
  os : w'.os = w.os
  tape : w'.tape = w.tape
  output : w'.output = w.output
  size : w'.heap.size = w.heap.size
  block : ∀ k, k ≠ g → w'.heap[k]? = w.heap[k]?
theorem Only.refl (g : Nat) (w : World) : Only g w w := ⟨rfl, rfl, rfl, rfl, fun _ _ => rfl⟩
theorem Only.trans {g : Nat} {a b c : World} (h : Only g a b) (k : Only g b c) : Only g a c :=
  ⟨k.os.trans h.os, k.tape.trans h.tape, k.output.trans h.output, k.size.trans h.size, fun i hi => (k.block i hi).trans (h.block i hi)⟩
theorem Only.setCell {g : Nat} {a b : World} (h : Only g a b) (o : Nat) (v : Value) : Only g a (b.setCell ⟨g, o, none⟩ v) :=
  h.trans ⟨rfl, rfl, rfl, by simp [World.setCell], fun k hk => Below.heap_setCell _ _ _ _ hk⟩
theorem Only.drew {g : Nat} {a b : World} (h : Only g a b) : Only g a b.drew := h.trans ⟨rfl, rfl, rfl, rfl, fun _ _ => rfl⟩
theorem Only.below {g B : Nat} {a b : World} (h : Only g a b) (hB : B ≤ g) : Below B a b := ⟨h.os, h.tape, h.output, Nat.le_of_eq h.size.symm, fun k hk => h.block k (by omega)⟩
theorem Only.sl {g : Nat} {w w' : World} (h : Only g w w') {b o len cap : Nat} {xs : List Int} (hs : Sl w (some ⟨b, o, none⟩) len cap xs) (hb : b ≠ g) : Sl w' (some ⟨b, o, none⟩) len cap xs := by
  obtain ⟨h1, h2, h3, h4 | ⟨b', o', h5, h6⟩⟩ := hs
  · cases h4.1
  · injection h5 with h5
    injection h5 with e1 e2 _
    subst e1; subst e2
    exact ⟨h1, h2, h3, .inr ⟨b, o, rfl, fun j hj => by rw [World.cell?_of_block (w := w) (h.block b hb)]; exact h6 j hj⟩⟩

theorem tmod_bd (s : Int) : -1000000000 < s.tmod 1000000000 ∧ s.tmod 1000000000 < 1000000000 := by
  rcases Int.lt_or_le s 0 with h | h
  · have e : s.tmod 1000000000 = -((-s) % 1000000000) := by
      rw [← Int.tmod_eq_emod_of_nonneg (show 0 ≤ -s by omega), Int.neg_tmod]; omega
    omega
  · rw [Int.tmod_eq_emod_of_nonneg h]; omega
theorem tmod_pos (s : Int) : s.tmod 1000000000 % 1000000000 = s % 1000000000 := by
  rcases Int.lt_or_le s 0 with h | h
  · have e : s.tmod 1000000000 = -((-s) % 1000000000) := by
      rw [← Int.tmod_eq_emod_of_nonneg (show 0 ≤ -s by omega), Int.neg_tmod]; omega
    omega
  · rw [Int.tmod_eq_emod_of_nonneg h]; omega
set_option maxHeartbeats 1000000 in
theorem subT_any (g i n c1 g2 o2 c2 : Nat) (L ys : List Int) (t : Int) (w : World) (hrow0 : RowOf w g L) (hy : Sl w (some ⟨g2, o2, none⟩) n c2 ys) (hne : g2 ≠ g) (hw : i + n < L.length) (hL : Dig L) (dy : Dig ys) (ht0 : 0 ≤ t) (ht1 : t ≤ 1000000001) (hn : n ≤ 1000000) (_hi : i ≤ 1000000) :
    Calls Tryz.prog 166 #[.slice (some ⟨g, i, none⟩) (n + 1) c1, .slice (some ⟨g2, o2, none⟩) n c2, .int .i64 t] w
      fun e w' => e = .returned (.tuple #[]) ∧ Only g w w' ∧ ∃ c Z, SubT L ys i t n c Z ∧ RowOf w' g (Z.set (i + n) (Z.getD (i + n) 0 - c)) := by
  have hly := Lib.hid hy.length
  go_enter Tryz.func166, Tryz.ntmps166
  go_wp2
  go_loopw [6, 12] (fun c k wr => ∃ (m : Nat) (cv : Int) (Z : List Int), m ≤ n ∧ k = .int .i64 m ∧ c = .int .i64 cv ∧ SubT L ys i t m cv Z ∧ RowOf wr g Z ∧ Only g w wr) (fun _ k _ => n - (intOf k).toNat)
  case atStart => exact ⟨0, 0, L, Nat.zero_le _, rfl, rfl, SubT.start L ys i t ht0, hrow0, Only.refl _ _⟩
  case round =>
    clear hrow0
    obtain ⟨m, cv, Z, hm, rfl, rfl, hinv, hrow, hon⟩ := hrel
    have hsy := hon.sl hy hne
    have hc0 := hinv.2.2.2.1
    have hc1 := hinv.2.2.2.2.1
    have hzl := Lib.hid hinv.1
    by_cases hlt : m < n
    · have hcyk := hsy.cellAt m hlt
      have hyd := dy.getD m
      have hld := hL.getD (i + m)
      have hz := hinv.2.1 (i + m) (.inr (Nat.le_refl _))
      have hfz := hrow.frozen (i + m)
      have hcz := hrow.cell (i + m) (by rw [hzl.out]; omega)
      rw [hz] at hcz
      have hstep := fun s z c' h1 h2 h3 => hinv.step (by omega) ht0 hld ⟨hyd.1, by omega⟩ s z c' h1 h2 h3
      have Hstep := Lib.hid hstep
      obtain ⟨hp0, hp1⟩ := mul_bd hyd.1 (show ys.getD m 0 ≤ 999999999 by omega) ht0 ht1
      generalize hyk : ys.getD m 0 = y at hcyk hyd hp0 hp1 Hstep
      generalize hlk : L.getD (i + m) 0 = l at hcz hld Hstep
      clear hz hstep hyk hlk
      obtain ⟨q0, q1⟩ := tmod_bd (l - y * t - cv)
      have q2 : 0 ≤ (l - y * t - cv).tmod 1000000000 % 1000000000 - (l - y * t - cv) := by rw [tmod_pos]; omega
      go_wp2
      go_roundw
      case rel => exact ⟨m + 1, _, _, hlt, by go_num, rfl, Hstep.out _ _ _ rfl (tmod_pos _) (by rw [tmod_pos]; omega), hrow.set _ _, hon.setCell _ _⟩
      case measure => simp [intOf]; omega
    · obtain rfl : m = n := by omega
      have hfz := hrow.frozen (i + m)
      have hcz := hrow.cell (i + m) (by rw [hzl.out]; omega)
      have hld := hL.getD (i + m)
      have hz := hinv.2.1 (i + m) (.inr (Nat.le_refl _))
      have Hinv := Lib.hid hinv
      generalize hlk : Z.getD (i + m) 0 = l at hcz hz
      rw [← hz] at hld
      have Hlk := Lib.hid hlk
      clear hz hlk hinv
      go_wp2
      go_end0
      exact ⟨rfl, hon.setCell _ _, cv, Z, Hinv.out, by rw [Hlk.out]; exact hrow.set _ _⟩

set_option maxHeartbeats 1000000 in
theorem addB_any (g i n c1 g2 o2 c2 : Nat) (L ys : List Int) (w : World) (hrow0 : RowOf w g L) (hy : Sl w (some ⟨g2, o2, none⟩) n c2 ys) (hne : g2 ≠ g) (hw : i + n < L.length) (hL : ∀ j, j ≠ i + n → 0 ≤ L.getD j 0 ∧ L.getD j 0 < 1000000000) (hT : -1000000000 ≤ L.getD (i + n) 0 ∧ L.getD (i + n) 0 ≤ 1000000000) (dy : Dig ys) (hn : n ≤ 1000000) (_hi : i ≤ 1000000) :
    Calls Tryz.prog 167 #[.slice (some ⟨g, i, none⟩) (n + 1) c1, .slice (some ⟨g2, o2, none⟩) n c2] w
      fun e w' => e = .returned (.tuple #[]) ∧ Only g w w' ∧ ∃ c Z, AddB L ys i n c Z ∧ RowOf w' g (Z.set (i + n) (Z.getD (i + n) 0 + c)) := by
  have hly := Lib.hid hy.length
  go_enter Tryz.func167, Tryz.ntmps167
  go_wp2
  go_loopw [4, 10] (fun c k wr => ∃ (m : Nat) (cv : Int) (Z : List Int), m ≤ n ∧ k = .int .i64 m ∧ c = .int .i64 cv ∧ AddB L ys i m cv Z ∧ RowOf wr g Z ∧ Only g w wr) (fun _ k _ => n - (intOf k).toNat)
  case atStart => exact ⟨0, 0, L, Nat.zero_le _, rfl, rfl, AddB.start L ys i, hrow0, Only.refl _ _⟩
  case round =>
    clear hrow0
    obtain ⟨m, cv, Z, hm, rfl, rfl, hinv, hrow, hon⟩ := hrel
    have hsy := hon.sl hy hne
    have hc0 := hinv.2.2.2.1
    have hc1 := hinv.2.2.2.2.1
    have hzl := Lib.hid hinv.1
    by_cases hlt : m < n
    · have hcyk := hsy.cellAt m hlt
      have hyd := dy.getD m
      have hld := hL (i + m) (by omega)
      have hz := hinv.2.1 (i + m) (.inr (Nat.le_refl _))
      have hfz := hrow.frozen (i + m)
      have hcz := hrow.cell (i + m) (by rw [hzl.out]; omega)
      rw [hz] at hcz
      have hstep := fun s h1 => hinv.step (by omega) hld ⟨hyd.1, by omega⟩ s h1
      have Hstep := Lib.hid hstep
      generalize hyk : ys.getD m 0 = y at hcyk hyd Hstep
      generalize hlk : L.getD (i + m) 0 = l at hcz hld Hstep
      clear hz hstep hyk hlk
      go_wp2
      go_roundw
      case rel => exact ⟨m + 1, _, _, hlt, by go_num, rfl, Hstep.out _ rfl, hrow.set _ _, hon.setCell _ _⟩
      case measure => simp [intOf]; omega
    · obtain rfl : m = n := by omega
      have hfz := hrow.frozen (i + m)
      have hcz := hrow.cell (i + m) (by rw [hzl.out]; omega)
      have hz := hinv.2.1 (i + m) (.inr (Nat.le_refl _))
      have Hinv := Lib.hid hinv
      generalize hlk : Z.getD (i + m) 0 = l at hcz hz
      rw [← hz] at hT
      have Hlk := Lib.hid hlk
      clear hz hlk hinv
      go_wp2
      go_end0
      exact ⟨rfl, hon.setCell _ _, cv, Z, Hinv.out, by rw [Hlk.out]; exact hrow.set _ _⟩
end Go.Proofs.YtfjnplhhgdfepaaGreatDoor

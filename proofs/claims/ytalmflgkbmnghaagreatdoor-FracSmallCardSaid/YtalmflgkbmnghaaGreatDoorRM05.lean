import Derived.Test.YtalmflgkbmnghaaGreatDoorRM02
import Derived.Test.YtalmflgkbmnghaaGreatDoorRM04
import Derived.Test.YtalmflgkbmnghaaGreatDoorRM00
import Derived.Shelf.Strings.Builder1
import Derived.Shelf.Strings.Builder2
import Derived.Shelf.Small.Bits
import Derived.Shelf.Small.Wraps
import Derived.Shelf.Strings.BuilderF
import Derived.Shelf.Strings.BuilderK
import Derived.Shelf.Strings.Builder2Cap
import Derived.Shelf.Strconv.Itoa0
import Derived.Shelf.Strconv.Itoa1
import Derived.Shelf.LaysM
import Derived.Shelf.Strconv.Itoa2
import Derived.Shelf.Strconv.Itoa3
import Derived.Shelf.Strings.Search1
import Derived.Shelf.Strings.Search2
import Derived.Shelf.Strings.Cut
import Derived.Shelf.Strings.Shaped
import Derived.Shelf.Strings.Prefix
import Derived.Shelf.Bits.Mul64
import Derived.Shelf.Strings.Repeat
import Derived.Shelf.Strings.BuilderCap
import Derived.Test.YtalmflgkbmnghaaGreatDoorProg
import Derived.ChangeMaps5
import Derived.Deep.Strs
/- Part of the proof: Sh, Si, Rz. -/
set_option linter.unusedVariables false
set_option linter.unusedSimpArgs false
set_option linter.unusedSectionVars false
/-
 DERIVED: THE SHELF's CONTRACTS AT THIS DUMP, IN PLAIN WORDS (tools/lay-plain.mjs out of 'TryzShelf.lean', which tools/lay-shelf.mjs wrote): THE SAME DECLARATIONS UNDER THE SAME NAMES: 'import', 'namespace', 'open', 'def', 'theorem' AND NOTHING ELSE: no command of the shelf's: FOR A HAND-IN. Each laying: the table of numbers ('.._ren') and one theorem, a field a fact of the dump's own or the kernel's comparison; each contract: ONE APPLICATION.
-/
namespace Go.Proofs
open Go.Shelf
def Tryz.lays133_ren : Go.Shelf.Ren := ⟨fun | 133 => 99 | 128 => 108 | n => n, fun | 51 => 22 | 3 => 3 | 4 => 4 | 46 => 91 | 5 => 5 | 9 => 9 | n => n, fun | n => n⟩
theorem Tryz.lays133 : Go.Proofs.Lays.n133 Tryz.prog Tryz.lays133_ren := {
 mixed := by kernel_rfl
 f128 := Tryz.func108.trans (congrArg some Tw.kr)
 f133 := Tryz.func99.trans (congrArg some Tw.kr)
 t3 := Tryz.underlying3
 a3 := Tryz.isAgg3
 z3 := Tryz.sizeOf3
 v3 := Tryz.zeroValue3
 t4 := Tryz.underlying4
 a4 := Tryz.isAgg4
 z4 := Tryz.sizeOf4
 v4 := Tryz.zeroValue4
 t5 := Tryz.underlying5
 a5 := Tryz.isAgg5
 z5 := Tryz.sizeOf5
 v5 := Tryz.zeroValue5
 t9 := Tryz.underlying9
 a9 := Tryz.isAgg9
 z9 := Tryz.sizeOf9
 v9 := Tryz.zeroValue9
 t46 := Tryz.underlying91
 a46 := Tryz.isAgg91
 z46 := Tryz.sizeOf91
 v46 := Tryz.zeroValue91
 t51 := Tryz.underlying22
 a51 := Tryz.isAgg22
 z51 := Tryz.sizeOf22
 v51 := Tryz.zeroValue22 }
theorem Tryz.bits_LeadingZeros32 (x : Int) (w : World) (h0 : 0 ≤ x) (h1 : x ≤ 4294967295) :
   Calls Tryz.prog 99 #[.int .u32 x] w fun e w' => e = .returned (.int .i64 (32 - (Lib.bitLen x.toNat : Int))) ∧ w' = w := Any.bits_LeadingZeros32 Tryz.lays133 x w h0 h1
def Tryz.lays103_ren : Go.Shelf.Ren := ⟨fun | 103 => 70 | 210 => 94 | 206 => 91 | n => n, fun | 9 => 9 | 4 => 4 | 24 => 105 | 3 => 3 | n => n, fun | n => n⟩
theorem Tryz.lays103 : Go.Proofs.Lays.n103 Tryz.prog Tryz.lays103_ren := {
 mixed := by kernel_rfl
 f103 := Tryz.func70.trans (congrArg some Tw.kr)
 f206 := Tryz.func91.trans (congrArg some Tw.kr)
 f210 := Tryz.func94.trans (congrArg some Tw.kr)
 t3 := Tryz.underlying3
 a3 := Tryz.isAgg3
 z3 := Tryz.sizeOf3
 v3 := Tryz.zeroValue3
 t4 := Tryz.underlying4
 a4 := Tryz.isAgg4
 z4 := Tryz.sizeOf4
 v4 := Tryz.zeroValue4
 t9 := Tryz.underlying9
 a9 := Tryz.isAgg9
 z9 := Tryz.sizeOf9
 v9 := Tryz.zeroValue9
 t24 := Tryz.underlying105
 a24 := Tryz.isAgg105
 z24 := Tryz.sizeOf105
 v24 := Tryz.zeroValue105 }
open Go.RowKit in
theorem Tryz.strings_CutPrefix (s p : ByteArray) (w : World) :
   Calls Tryz.prog 70 #[.string s, .string p] w fun e w' => e = .returned (.tuple #[.string ⟨(Lib.trimPrefix s.data.toList p.data.toList).toArray⟩, .bool (Lib.hasPrefix s.data.toList p.data.toList)]) ∧ w' = w := Any.strings_CutPrefix Tryz.lays103 s p w
def Tryz.laysM171_ren : Go.Shelf.Ren := ⟨fun | 171 => 88 | 243 => 104 | 246 => 109 | 283 => 114 | 284 => 115 | 285 => 116 | 286 => 117 | 129 => 121 | 317 => 120 | 318 => 122 | 319 => 123 | 320 => 124 | 337 => 125 | 338 => 126 | n => n, fun | 3 => 3 | 9 => 9 | 2 => 2 | 4 => 4 | 171 => 145 | 0 => 0 | 53 => 84 | 37 => 67 | 5 => 5 | 173 => 148 | 212 => 152 | 51 => 22 | 20 => 20 | 213 => 153 | 46 => 91 | 232 => 156 | 233 => 157 | n => n, fun | 17 => 1 | 18 => 2 | 19 => 3 | n => n⟩
theorem Tryz.laysM171 : Go.Proofs.LaysM.n171 Tryz.prog Tryz.laysM171_ren := {
 mixed := by kernel_rfl
 f129 := Tryz.func121.trans (congrArg some Tw.kr)
 f171 := Tryz.func88.trans (congrArg some Tw.kr)
 f243 := Tryz.func104.trans (congrArg some Tw.kr)
 f246 := Tryz.func109.trans (congrArg some Tw.kr)
 f283 := Tryz.func114.trans (congrArg some Tw.kr)
 f284 := Tryz.func115.trans (congrArg some Tw.kr)
 f285 := Tryz.func116.trans (congrArg some Tw.kr)
 f286 := Tryz.func117.trans (congrArg some Tw.kr)
 f317 := Tryz.func120.trans (congrArg some Tw.kr)
 f318 := Tryz.func122.trans (congrArg some Tw.kr)
 f319 := Tryz.func123.trans (congrArg some Tw.kr)
 f320 := Tryz.func124.trans (congrArg some Tw.kr)
 f337 := Tryz.func125.trans (congrArg some Tw.kr)
 f338 := Tryz.func126.trans (congrArg some Tw.kr)
 t0 := Tryz.underlying0
 a0 := Tryz.isAgg0
 z0 := Tryz.sizeOf0
 v0 := Tryz.zeroValue0
 t2 := Tryz.underlying2
 a2 := Tryz.isAgg2
 z2 := Tryz.sizeOf2
 v2 := Tryz.zeroValue2
 t3 := Tryz.underlying3
 a3 := Tryz.isAgg3
 z3 := Tryz.sizeOf3
 v3 := Tryz.zeroValue3
 t4 := Tryz.underlying4
 a4 := Tryz.isAgg4
 z4 := Tryz.sizeOf4
 v4 := Tryz.zeroValue4
 t5 := Tryz.underlying5
 a5 := Tryz.isAgg5
 z5 := Tryz.sizeOf5
 v5 := Tryz.zeroValue5
 t9 := Tryz.underlying9
 a9 := Tryz.isAgg9
 z9 := Tryz.sizeOf9
 v9 := Tryz.zeroValue9
 t20 := Tryz.underlying20
 a20 := Tryz.isAgg20
 z20 := Tryz.sizeOf20
 v20 := Tryz.zeroValue20
 t37 := Tryz.underlying67
 a37 := Tryz.isAgg67
 z37 := Tryz.sizeOf67
 v37 := Tryz.zeroValue67
 t46 := Tryz.underlying91
 a46 := Tryz.isAgg91
 z46 := Tryz.sizeOf91
 v46 := Tryz.zeroValue91
 t51 := Tryz.underlying22
 a51 := Tryz.isAgg22
 z51 := Tryz.sizeOf22
 v51 := Tryz.zeroValue22
 t53 := Tryz.underlying84
 a53 := Tryz.isAgg84
 z53 := Tryz.sizeOf84
 v53 := Tryz.zeroValue84
 t171 := Tryz.underlying145
 a171 := Tryz.isAgg145
 z171 := Tryz.sizeOf145
 v171 := Tryz.zeroValue145
 t173 := Tryz.underlying148
 a173 := Tryz.isAgg148
 z173 := Tryz.sizeOf148
 v173 := Tryz.zeroValue148
 t212 := Tryz.underlying152
 a212 := Tryz.isAgg152
 z212 := Tryz.sizeOf152
 v212 := Tryz.zeroValue152
 t213 := Tryz.underlying153
 a213 := Tryz.isAgg153
 z213 := Tryz.sizeOf153
 t232 := Tryz.underlying156
 a232 := Tryz.isAgg156
 z232 := Tryz.sizeOf156
 v232 := Tryz.zeroValue156
 t233 := Tryz.underlying157
 a233 := Tryz.isAgg157
 z233 := Tryz.sizeOf157
 v233 := Tryz.zeroValue157
 g17 := by kernel_rfl
 g18 := by kernel_rfl
 g19 := by kernel_rfl
 i0 := by kernel_rfl
 i2 := by kernel_rfl
 i3 := by kernel_rfl
 i4 := by kernel_rfl
 i5 := by kernel_rfl
 i9 := by kernel_rfl
 i20 := by kernel_rfl
 i37 := by kernel_rfl
 i46 := by kernel_rfl
 i51 := by kernel_rfl
 i53 := by kernel_rfl
 i171 := by kernel_rfl
 i173 := by kernel_rfl
 i212 := by kernel_rfl
 i232 := by kernel_rfl
 i233 := by kernel_rfl
 m17 := by kernel_rfl
 m18 := by kernel_rfl
 m19 := by kernel_rfl }
open Go.RowKit Go.Sort Go.Lib in
theorem Tryz.strconv_Itoa (n : Int) (h0 : -9223372036854775808 ≤ n) (h1 : n ≤ 9223372036854775807) (w : World) (htab : Lib.TabIs Tryz.prog w "internal/strconv.uint64pow10" .u64 Lib.pow10Tab) :
   Calls Tryz.prog 88 #[.int .i64 n] w fun e w' => e = .returned (.string ⟨(Lib.itoa n).toArray⟩) ∧ ∃ k os, w' = grow (w.drewN k) os := Any.strconv_Itoa Tryz.laysM171 n h0 h1 w htab
def Tryz.lays145_ren : Go.Shelf.Ren := ⟨fun | 145 => 71 | 220 => 95 | 219 => 107 | 217 => 110 | 225 => 111 | 224 => 112 | 267 => 113 | 266 => 118 | 314 => 119 | n => n, fun | 9 => 9 | 4 => 4 | 59 => 107 | 3 => 3 | 5 => 5 | 46 => 91 | 146 => 126 | 51 => 22 | n => n, fun | 1 => 0 | n => n⟩
theorem Tryz.lays145 : Go.Proofs.Lays.n145 Tryz.prog Tryz.lays145_ren := {
 mixed := by kernel_rfl
 f145 := Tryz.func71.trans (congrArg some Tw.kr)
 f217 := Tryz.func110.trans (congrArg some Tw.kr)
 f219 := Tryz.func107.trans (congrArg some Tw.kr)
 f220 := Tryz.func95.trans (congrArg some Tw.kr)
 f224 := Tryz.func112.trans (congrArg some Tw.kr)
 f225 := Tryz.func111.trans (congrArg some Tw.kr)
 f266 := Tryz.func118.trans (congrArg some Tw.kr)
 f267 := Tryz.func113.trans (congrArg some Tw.kr)
 f314 := Tryz.func119.trans (congrArg some Tw.kr)
 t3 := Tryz.underlying3
 a3 := Tryz.isAgg3
 z3 := Tryz.sizeOf3
 v3 := Tryz.zeroValue3
 t4 := Tryz.underlying4
 a4 := Tryz.isAgg4
 z4 := Tryz.sizeOf4
 v4 := Tryz.zeroValue4
 t5 := Tryz.underlying5
 a5 := Tryz.isAgg5
 z5 := Tryz.sizeOf5
 v5 := Tryz.zeroValue5
 t9 := Tryz.underlying9
 a9 := Tryz.isAgg9
 z9 := Tryz.sizeOf9
 v9 := Tryz.zeroValue9
 t46 := Tryz.underlying91
 a46 := Tryz.isAgg91
 z46 := Tryz.sizeOf91
 v46 := Tryz.zeroValue91
 t51 := Tryz.underlying22
 a51 := Tryz.isAgg22
 z51 := Tryz.sizeOf22
 v51 := Tryz.zeroValue22
 t59 := Tryz.underlying107
 a59 := Tryz.isAgg107
 z59 := Tryz.sizeOf107
 v59 := Tryz.zeroValue107
 t146 := Tryz.underlying126
 a146 := Tryz.isAgg126
 z146 := Tryz.sizeOf126
 v146 := Tryz.zeroValue126
 g1 := by kernel_rfl }
open Go.RowKit Go.Lib in
theorem Tryz.strings_Cut (s sep : ByteArray) (m : Int) (w : World) (hs : s.size < 4294967281) (hm : w.cell? ⟨0, 0, none⟩ = some (.int .i64 m)) :
   Calls Tryz.prog 71 #[.string s, .string sep] w fun e w' => e = .returned (.tuple #[.string ⟨(Lib.cut s.data.toList sep.data.toList).1.toArray⟩, .string ⟨(Lib.cut s.data.toList sep.data.toList).2.1.toArray⟩, .bool (Lib.cut s.data.toList sep.data.toList).2.2]) ∧ ∃ n, w' = w.drewN n := Any.strings_Cut Tryz.lays145 s sep m w hs hm
def Tryz.lays105_ren : Go.Shelf.Ren := ⟨fun | 105 => 32 | 212 => 64 | 99 => 65 | 165 => 66 | 166 => 67 | 170 => 68 | 169 => 69 | 263 => 89 | 264 => 90 | 206 => 91 | 240 => 92 | 241 => 93 | 276 => 105 | 277 => 106 | n => n, fun | 9 => 9 | 3 => 3 | 4 => 4 | 20 => 20 | 0 => 0 | 46 => 91 | 109 => 92 | 5 => 5 | 72 => 97 | 76 => 101 | 51 => 22 | 146 => 126 | 53 => 84 | 148 => 128 | 70 => 95 | 37 => 67 | 75 => 100 | 127 => 130 | 164 => 138 | 80 => 104 | n => n, fun | n => n⟩
theorem Tryz.lays105 : Go.Proofs.Lays.n105 Tryz.prog Tryz.lays105_ren := {
 mixed := by kernel_rfl
 f99 := Tryz.func65.trans (congrArg some Tw.kr)
 f105 := Tryz.func32.trans (congrArg some Tw.kr)
 f165 := Tryz.func66.trans (congrArg some Tw.kr)
 f166 := Tryz.func67.trans (congrArg some Tw.kr)
 f169 := Tryz.func69.trans (congrArg some Tw.kr)
 f170 := Tryz.func68.trans (congrArg some Tw.kr)
 f206 := Tryz.func91.trans (congrArg some Tw.kr)
 f212 := Tryz.func64.trans (congrArg some Tw.kr)
 f240 := Tryz.func92.trans (congrArg some Tw.kr)
 f241 := Tryz.func93.trans (congrArg some Tw.kr)
 f263 := Tryz.func89.trans (congrArg some Tw.kr)
 f264 := Tryz.func90.trans (congrArg some Tw.kr)
 f276 := Tryz.func105.trans (congrArg some Tw.kr)
 f277 := Tryz.func106.trans (congrArg some Tw.kr)
 t0 := Tryz.underlying0
 a0 := Tryz.isAgg0
 z0 := Tryz.sizeOf0
 v0 := Tryz.zeroValue0
 t3 := Tryz.underlying3
 a3 := Tryz.isAgg3
 z3 := Tryz.sizeOf3
 v3 := Tryz.zeroValue3
 t4 := Tryz.underlying4
 a4 := Tryz.isAgg4
 z4 := Tryz.sizeOf4
 v4 := Tryz.zeroValue4
 t5 := Tryz.underlying5
 a5 := Tryz.isAgg5
 z5 := Tryz.sizeOf5
 v5 := Tryz.zeroValue5
 t9 := Tryz.underlying9
 a9 := Tryz.isAgg9
 z9 := Tryz.sizeOf9
 v9 := Tryz.zeroValue9
 t20 := Tryz.underlying20
 a20 := Tryz.isAgg20
 z20 := Tryz.sizeOf20
 v20 := Tryz.zeroValue20
 t37 := Tryz.underlying67
 a37 := Tryz.isAgg67
 z37 := Tryz.sizeOf67
 v37 := Tryz.zeroValue67
 t46 := Tryz.underlying91
 a46 := Tryz.isAgg91
 z46 := Tryz.sizeOf91
 v46 := Tryz.zeroValue91
 t51 := Tryz.underlying22
 a51 := Tryz.isAgg22
 z51 := Tryz.sizeOf22
 v51 := Tryz.zeroValue22
 t53 := Tryz.underlying84
 a53 := Tryz.isAgg84
 z53 := Tryz.sizeOf84
 v53 := Tryz.zeroValue84
 t70 := Tryz.underlying95
 a70 := Tryz.isAgg95
 z70 := Tryz.sizeOf95
 v70 := Tryz.zeroValue95
 t72 := Tryz.underlying97
 a72 := Tryz.isAgg97
 z72 := Tryz.sizeOf97
 v72 := Tryz.zeroValue97
 t75 := Tryz.underlying100
 a75 := Tryz.isAgg100
 z75 := Tryz.sizeOf100
 v75 := Tryz.zeroValue100
 t76 := Tryz.underlying101
 a76 := Tryz.isAgg101
 z76 := Tryz.sizeOf101
 v76 := Tryz.zeroValue101
 t109 := Tryz.underlying92
 a109 := Tryz.isAgg92
 z109 := Tryz.sizeOf92
 v109 := Tryz.zeroValue92
 t127 := Tryz.underlying130
 a127 := Tryz.isAgg130
 z127 := Tryz.sizeOf130
 v127 := Tryz.zeroValue130
 t146 := Tryz.underlying126
 a146 := Tryz.isAgg126
 z146 := Tryz.sizeOf126
 v146 := Tryz.zeroValue126
 t148 := Tryz.underlying128
 a148 := Tryz.isAgg128
 z148 := Tryz.sizeOf128
 v148 := Tryz.zeroValue128
 t164 := Tryz.underlying138
 a164 := Tryz.isAgg138
 z164 := Tryz.sizeOf138
 v164 := Tryz.zeroValue138 }
theorem Tryz.Builder_Extra_105 : Builder.Extra Tryz.prog Tryz.lays105_ren := {
 sizeBuilder := by kernel_rfl
 liesBuilder := by kernel_rfl
 t5 := Tryz.underlying5
 a5 := Tryz.isAgg5
 z5 := Tryz.sizeOf5
 v5 := Tryz.zeroValue5
 infoByte := by kernel_rfl
 cellsByte := by kernel_rfl
 sizeByte := by kernel_rfl
 neB5 := by decide }
open Go.RowKit Go.Lib in
theorem Tryz.strings_Repeat (s : ByteArray) (c : Nat) (w : World) (hc : c ≤ 9223372036854775807) (hlen : s.size * c ≤ 140737488355328) :
   Calls Tryz.prog 32 #[.string s, .int .i64 c] w fun e w' => e = .returned (.string ⟨(Lib.repeatL s.data.toList c).toArray⟩) ∧ Below w.heap.size w w' := Any.strings_Repeat Tryz.lays105 Tryz.Builder_Extra_105 s c w hc hlen
end Go.Proofs
/- What the shelf says of the library's functions, in the proofs' words. -/
namespace Go.Proofs.YtalmflgkbmnghaaGreatDoor
open Go.RowKit Tf
theorem bitLen_facts : ∀ (f x : Nat), x < 2 ^ f → x < 2 ^ Lib.bitLenAux f x ∧ (0 < x → 2 ^ Lib.bitLenAux f x ≤ 2 * x)
 | 0, x, h => by
   have : x = 0 := by simpa using h
   subst this
   simp [Lib.bitLenAux]
 | f + 1, x, h => by
   rw [Nat.pow_succ] at h
   obtain ⟨h1, h2⟩ := bitLen_facts f (x / 2) Tw.om
   unfold Lib.bitLenAux
   by_cases hx : x = 0
   · subst hx; simp
   · rw [if_neg hx, Nat.pow_add, Nat.pow_one]
     rcases Nat.eq_zero_or_pos (x / 2) with h0 | h0
     · have hz : Lib.bitLenAux f (x / 2) = 0 := by rw [h0]; cases f <;> simp [Lib.bitLenAux]
       rw [hz]
       exact ⟨by omega, fun _ => by omega⟩
     · have h3 := h2 h0
       generalize 2 ^ Lib.bitLenAux f (x / 2) = z at *
       exact ⟨by omega, fun _ => by omega⟩
theorem lz_shelf (x : Nat) (hx : x < 4294967296) (h0 : 0 < x) (w : World) :
   Calls Tryz.prog 99 #[.int .u32 x] w fun e w' => (∃ s : Nat, s < 32 ∧ e = .returned (.int .i64 s) ∧ x * 2 ^ s < 4294967296 ∧ 2147483648 ≤ x * 2 ^ s) ∧ w = w' := by
 refine (Tryz.bits_LeadingZeros32 (x : Int) w Tw.om Tw.om).mono ?_
 rintro e w' ⟨rfl, rfl⟩
 refine ⟨?_, rfl⟩
 rw [Int.toNat_natCast]
 obtain ⟨h1, h2⟩ := bitLen_facts 64 x Tw.om
 have h2 := h2 h0
 have hl : Lib.bitLenAux 64 x ≤ 32 := by
   rcases Nat.lt_or_ge 32 (Lib.bitLenAux 64 x) with h | h
   · have : 2 ^ 33 ≤ 2 ^ Lib.bitLenAux 64 x := Nat.pow_le_pow_right Tw.om h
     omega
   · exact h
 have hl1 : 1 ≤ Lib.bitLenAux 64 x := by
   rcases Nat.eq_zero_or_pos (Lib.bitLenAux 64 x) with h | h
   · rw [h] at h1; omega
   · exact h
 refine ⟨32 - Lib.bitLenAux 64 x, by omega, ?_, ?_, ?_⟩
 · show Ending.returned (.int .i64 (32 - (Lib.bitLen x : Int))) = _
   exact ret_int (by unfold Lib.bitLen; omega)
 · have e : 2 ^ Lib.bitLenAux 64 x * 2 ^ (32 - Lib.bitLenAux 64 x) = 4294967296 := by rw [← Nat.pow_add, show Lib.bitLenAux 64 x + (32 - Lib.bitLenAux 64 x) = 32 from by omega]
   have : x * 2 ^ (32 - Lib.bitLenAux 64 x) < 2 ^ Lib.bitLenAux 64 x * 2 ^ (32 - Lib.bitLenAux 64 x) := Nat.mul_lt_mul_of_pos_right h1 (Nat.pow_pos Tw.om)
   omega
 · have e : 2 ^ Lib.bitLenAux 64 x * 2 ^ (32 - Lib.bitLenAux 64 x) = 4294967296 := by rw [← Nat.pow_add, show Lib.bitLenAux 64 x + (32 - Lib.bitLenAux 64 x) = 32 from by omega]
   have : 2 ^ Lib.bitLenAux 64 x * 2 ^ (32 - Lib.bitLenAux 64 x) ≤ 2 * x * 2 ^ (32 - Lib.bitLenAux 64 x) := Nat.mul_le_mul_right _ h2
   rw [e, Nat.mul_assoc] at this
   omega

instance : ShLZ := ⟨lz_shelf⟩
theorem itoa_shelf (n : Nat) (h : n ≤ 9223372036854775807) (w : World) (hE : Env w) :
   Calls Tryz.prog 88 #[.int .i64 (n : Int)] w fun e w' => e = .returned (.string ⟨(Lib.decDigits n).toArray⟩) ∧ Below w.heap.size w w' := by
 have hi : Lib.itoa (n : Int) = Lib.decDigits n := by unfold Lib.itoa; rw [if_neg Tw.om]; rfl
 refine (Tryz.strconv_Itoa n Tw.om Tw.om w hE.1).mono fun e w' ⟨he, k, os, hw⟩ => ⟨by rw [he, hi], ?_⟩
 subst hw
 exact below_grown_ev w k os
where
 below_grown_ev (w : World) (k : Nat) (os : Array Obj) : Below w.heap.size w (Sort.grow (w.drewN k) os) := by
   refine ⟨rfl, rfl, rfl, by simp [Sort.grow], fun i hi => ?_⟩
   simp only [Sort.grow, World.drewN]
   rw [Array.getElem?_append_left hi]
theorem cutPrefix_shelf (l : List UInt8) (W : World) : Calls Tryz.prog 70 #[.string ⟨l.toArray⟩, .string ⟨#[45]⟩] W fun e w' => e = .returned (.tuple #[.string ⟨(Lib.trimPrefix l [45]).toArray⟩, .bool (Lib.hasPrefix l [45])]) ∧ Below W.heap.size W w' :=
 (Tryz.strings_CutPrefix ⟨l.toArray⟩ ⟨#[45]⟩ W).mono fun e w' ⟨he, hw⟩ => ⟨he, by subst hw; exact Below.refl _ _⟩
theorem cut_shelf (l : List UInt8) (hl : l.length < 4294967281) (W : World) (hW : Env W) : Calls Tryz.prog 71 #[.string ⟨l.toArray⟩, .string ⟨#[47]⟩] W fun e w' => e = .returned (.tuple #[.string ⟨(Lib.cut l [47]).1.toArray⟩, .string ⟨(Lib.cut l [47]).2.1.toArray⟩, .bool (Lib.cut l [47]).2.2]) ∧ Below W.heap.size W w' := by
 obtain ⟨m, hm⟩ := hW.2
 exact (Tryz.strings_Cut ⟨l.toArray⟩ ⟨#[47]⟩ m W (by rw [ba_size]; omega) hm).mono fun e w' ⟨he, n, hw⟩ => ⟨he, by subst hw; exact belowN (Below.refl _ _) n⟩
instance : ShSt := ⟨itoa_shelf, cutPrefix_shelf, cut_shelf⟩
theorem rep_any (W : World) : Calls Tryz.prog 32 #[.string ⟨#[48]⟩, .int .i64 78] W fun e w' => e = .returned (.string ⟨(Lib.repeatL [48] 78).toArray⟩) ∧ Below W.heap.size W w' :=
 Tryz.strings_Repeat ⟨#[48]⟩ 78 W Tw.om (by decide)
end Go.Proofs.YtalmflgkbmnghaaGreatDoor
/- Rows of frac's laws that take fractions or texts. -/
namespace Go.Proofs.YtalmflgkbmnghaaGreatDoor
open Go.ChangeShapes Go.WideShapes Go.ChangeAt Go.RowKit Tf
open Go
theorem handed_and_sized {H : Type} {enc : TypeId × Value → H} {a : Assume} {C : Checked} {os : Os} {f : FuncId} {fn : Func} {s : ChangeSpec} {conds : List PathCond} {apart fresh handsOn again : Bool} {X : World → Prop}
   (hX : ∀ (w w' : World), w.heap = w'.heap → X w → X w')
   (own : ownKnob C.prog.godebug = none) (started : os.Started) (noInit : C.prog.inits.idxOf? f = none) (hfn : C.prog.funcs[f]? = some fn)
   (witness : ∃ (w : World) (tape : Tape) (i : Input), w.os = os ∧ (w.forCall tape i).Shaped C.prog ∧ i.vars = [] ∧ Input.okWide C.prog (w.forCall tape i) .any w.heap.size f i ∧
     ((s.pre enc C.prog fn conds apart (w.forCall tape i).memory i.args ∧ X (w.forCall tape i).memory) ∧ sizedMet enc C.prog fn (OpenSpec.ofChange s) apart (w.forCall tape i).memory i.args) ∧ a.holds C.prog (lone (Frame.enter C.prog f i.args .normal) [] (w.forCall tape i)))
   (contract : ∀ (W : World) (base : Nat) (args : Array Value) (ds gs : List (DataW H)) (before : List MemPlace),
     (∀ (j : Nat) t v, fn.params[j]? = some t → args[j]? = some v → Value.okWide C.prog W .any base t v) →
     DataW.Whole enc C.prog fn.params.toList s.vars apart W args.toList ds gs before → X W → W.ShapedOpen C.prog →
     (DataW.weightsEach C.prog (fn.params.toList ++ s.plain.varTypes C.prog) (ds ++ gs)).all (· ≤ reachBytes) = true →
     Calls C.prog f args W fun e W' => ∃ v, e = .returned v ∧ s.post enc C.prog fn apart fresh handsOn again W args v W') :
   ReturnsInHanded a C os f .any (fun w args => (s.pre enc C.prog fn conds apart w args ∧ X w) ∧ sizedMet enc C.prog fn (OpenSpec.ofChange s) apart w args) (s.post enc C.prog fn apart fresh handsOn again) := by
 refine returnsInHanded_of_calls own started noInit witness fun w tape i _ hsh _ hok hpre _ => ?_
 obtain ⟨_, _, _, fn', hfn', _, _, _, _, hval⟩ := hok
 obtain rfl : fn' = fn := Option.some.inj (hfn'.symm.trans hfn)
 obtain ⟨⟨_, hx⟩, _, ds, gs, before, hw, hz⟩ := hpre
 refine (contract (w.forCall tape i) w.heap.size i.args ds gs before hval (DataW.Whole.of_heap (w' := w.forCall tape i) (by rfl) hw) (hX _ _ (by rfl) hx) hsh hz).mono fun e W' ⟨v, he, hp⟩ => ?_
 subst he
 exact ChangeSpec.post_blind hp
end Go.Proofs.YtalmflgkbmnghaaGreatDoor

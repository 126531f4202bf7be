import Derived.Test.YtbceajgipmjmlaaDoorQMz00
import Derived.Test.YtbceajgipmjmlaaDoorG03
import Derived.Shelf.Strings.Builder1
import Derived.Shelf.Strings.Builder2
import Derived.Shelf.Strings.BuilderF
import Derived.Shelf.Strings.BuilderK
import Derived.Shelf.Strings.Prefix
import Derived.Shelf.Bits.Mul64
import Derived.Shelf.Strings.Repeat
import Derived.Test.YtbceajgipmjmlaaDoorProg
/- IsoSmall: the law holds for every input; no condition but the row's own. -/
set_option linter.unusedVariables false
set_option linter.unusedSimpArgs false
set_option linter.unusedSectionVars false
/-
  DERIVED: THE SHELF's CONTRACTS AT THIS DUMP, IN PLAIN WORDS (tools/lay-plain.mjs out of 'TrydShelf.lean', which tools/lay-shelf.mjs wrote): THE SAME DECLARATIONS UNDER THE SAME NAMES: 'import', 'namespace', 'open', 'def', 'theorem' AND NOTHING ELSE: no command of the shelf's: FOR A HAND-IN. Each laying: the table of numbers ('.._ren') and one theorem, a field a fact of the dump's own or the kernel's comparison; each contract: ONE APPLICATION.
-/
namespace Go.Proofs
open Go.Shelf
def Tryd.lays105_ren : Go.Shelf.Ren := ⟨fun | 105 => 16 | 212 => 35 | 99 => 36 | 165 => 37 | 166 => 38 | 170 => 39 | 169 => 40 | 263 => 49 | 264 => 50 | 206 => 51 | 240 => 52 | 241 => 53 | 276 => 57 | 277 => 58 | n => n, fun | 9 => 9 | 3 => 3 | 4 => 4 | 20 => 20 | 0 => 0 | 46 => 69 | 109 => 70 | 5 => 5 | 72 => 75 | 76 => 79 | 51 => 93 | 146 => 94 | 53 => 33 | 148 => 96 | 70 => 73 | 37 => 31 | 75 => 78 | 127 => 98 | 164 => 100 | 80 => 82 | n => n, fun | n => n⟩
theorem Tryd.lays105 : Go.Proofs.Lays.n105 Tryd.prog Tryd.lays105_ren := {
  mixed := by kernel_rfl
  f99 := Tryd.func36.trans (congrArg some (by kernel_rfl))
  f105 := Tryd.func16.trans (congrArg some (by kernel_rfl))
  f165 := Tryd.func37.trans (congrArg some (by kernel_rfl))
  f166 := Tryd.func38.trans (congrArg some (by kernel_rfl))
  f169 := Tryd.func40.trans (congrArg some (by kernel_rfl))
  f170 := Tryd.func39.trans (congrArg some (by kernel_rfl))
  f206 := Tryd.func51.trans (congrArg some (by kernel_rfl))
  f212 := Tryd.func35.trans (congrArg some (by kernel_rfl))
  f240 := Tryd.func52.trans (congrArg some (by kernel_rfl))
  f241 := Tryd.func53.trans (congrArg some (by kernel_rfl))
  f263 := Tryd.func49.trans (congrArg some (by kernel_rfl))
  f264 := Tryd.func50.trans (congrArg some (by kernel_rfl))
  f276 := Tryd.func57.trans (congrArg some (by kernel_rfl))
  f277 := Tryd.func58.trans (congrArg some (by kernel_rfl))
  t0 := Tryd.underlying0
  a0 := Tryd.isAgg0
  z0 := Tryd.sizeOf0
  v0 := Tryd.zeroValue0
  t3 := Tryd.underlying3
  a3 := Tryd.isAgg3
  z3 := Tryd.sizeOf3
  v3 := Tryd.zeroValue3
  t4 := Tryd.underlying4
  a4 := Tryd.isAgg4
  z4 := Tryd.sizeOf4
  v4 := Tryd.zeroValue4
  t5 := Tryd.underlying5
  a5 := Tryd.isAgg5
  z5 := Tryd.sizeOf5
  v5 := Tryd.zeroValue5
  t9 := Tryd.underlying9
  a9 := Tryd.isAgg9
  z9 := Tryd.sizeOf9
  v9 := Tryd.zeroValue9
  t20 := Tryd.underlying20
  a20 := Tryd.isAgg20
  z20 := Tryd.sizeOf20
  v20 := Tryd.zeroValue20
  t37 := Tryd.underlying31
  a37 := Tryd.isAgg31
  z37 := Tryd.sizeOf31
  v37 := Tryd.zeroValue31
  t46 := Tryd.underlying69
  a46 := Tryd.isAgg69
  z46 := Tryd.sizeOf69
  v46 := Tryd.zeroValue69
  t51 := Tryd.underlying93
  a51 := Tryd.isAgg93
  z51 := Tryd.sizeOf93
  v51 := Tryd.zeroValue93
  t53 := Tryd.underlying33
  a53 := Tryd.isAgg33
  z53 := Tryd.sizeOf33
  v53 := Tryd.zeroValue33
  t70 := Tryd.underlying73
  a70 := Tryd.isAgg73
  z70 := Tryd.sizeOf73
  v70 := Tryd.zeroValue73
  t72 := Tryd.underlying75
  a72 := Tryd.isAgg75
  z72 := Tryd.sizeOf75
  v72 := Tryd.zeroValue75
  t75 := Tryd.underlying78
  a75 := Tryd.isAgg78
  z75 := Tryd.sizeOf78
  v75 := Tryd.zeroValue78
  t76 := Tryd.underlying79
  a76 := Tryd.isAgg79
  z76 := Tryd.sizeOf79
  v76 := Tryd.zeroValue79
  t109 := Tryd.underlying70
  a109 := Tryd.isAgg70
  z109 := Tryd.sizeOf70
  v109 := Tryd.zeroValue70
  t127 := Tryd.underlying98
  a127 := Tryd.isAgg98
  z127 := Tryd.sizeOf98
  v127 := Tryd.zeroValue98
  t146 := Tryd.underlying94
  a146 := Tryd.isAgg94
  z146 := Tryd.sizeOf94
  v146 := Tryd.zeroValue94
  t148 := Tryd.underlying96
  a148 := Tryd.isAgg96
  z148 := Tryd.sizeOf96
  v148 := Tryd.zeroValue96
  t164 := Tryd.underlying100
  a164 := Tryd.isAgg100
  z164 := Tryd.sizeOf100
  v164 := Tryd.zeroValue100 }
theorem Tryd.Builder_Extra_105 : Builder.Extra Tryd.prog Tryd.lays105_ren := {
  sizeBuilder := by kernel_rfl
  liesBuilder := by kernel_rfl
  t5 := Tryd.underlying5
  a5 := Tryd.isAgg5
  z5 := Tryd.sizeOf5
  v5 := Tryd.zeroValue5
  infoByte := by kernel_rfl
  cellsByte := by kernel_rfl
  sizeByte := by kernel_rfl
  neB5 := by decide }
open Go.RowKit Go.Lib in
theorem Tryd.strings_Repeat (s : ByteArray) (c : Nat) (w : World) (hc : c ≤ 9223372036854775807) (hlen : s.size * c ≤ 140737488355328) :
    Calls Tryd.prog 16 #[.string s, .int .i64 c] w fun e w' => e = .returned (.string ⟨(Lib.repeatL s.data.toList c).toArray⟩) ∧ Below w.heap.size w w' := Any.strings_Repeat Tryd.lays105 Tryd.Builder_Extra_105 s c w hc hlen
end Go.Proofs
namespace Go.Proofs.YtbceajgipmjmlaaDoor
open Go Go.RowKit Tw
theorem repL_len (b : UInt8) (n : Nat) : (Lib.repeatL [b] n).length = n := by rw [Lib.repeatL_length]; simp
theorem rep_any (b : UInt8) (n : Nat) (hn : n ≤ 1000) (w : World) : Calls Tryd.prog 16 #[strV [b], .int .i64 ((n : Nat) : Int)] w fun e w' => e = .returned (strV (Lib.repeatL [b] n)) ∧ Below w.heap.size w w' := by
  have h := Tryd.strings_Repeat ⟨#[b]⟩ n w (by omega) (by show (1 : Nat) * n ≤ _; omega)
  exact h
end Go.Proofs.YtbceajgipmjmlaaDoor
namespace Go.Proofs.YtbceajgipmjmlaaDoor
open Go Go.RowKit Tw
theorem names_get {k : Nat} (h : k < 5) : ∃ sx : List UInt8, (#[strV [67, 83, 81, 85, 51, 48, 53, 52, 51, 56, 51], strV [65, 65, 65, 85, 48, 48, 48, 48, 48, 48, 48], strV [90, 90, 90, 90, 57, 57, 57, 57, 57, 57, 57], strV [75, 85, 76, 74, 49, 50, 51, 52, 53, 54, 48], strV [72, 76, 88, 85, 50, 48, 48, 48, 48, 48, 53]] : Array Value)[0 + k * 1]? = some (strV sx) ∧ sx.length = 11 := by
  rcases k with _ | _ | _ | _ | _ | k
  · exact ⟨_, rfl, rfl⟩
  · exact ⟨_, rfl, rfl⟩
  · exact ⟨_, rfl, rfl⟩
  · exact ⟨_, rfl, rfl⟩
  · exact ⟨_, rfl, rfl⟩
  · omega
theorem byte_of {n : Nat} (h : n < 256) : ∃ c : UInt8, c.toNat = n := ⟨UInt8.ofNat n, by rw [UInt8.toNat_ofNat']; omega⟩
set_option maxRecDepth 100000 in
set_option maxHeartbeats 40000000 in
theorem IsoSmall_law (w : World) (hE : Env w)  : Calls Tryd.prog 5 #[] w fun e w' => e = .returned (.bool true) ∧ Below w.heap.size w w' := by
  have HE := Lib.hid hE
  clear hE
  go_enter Tryd.func5, Tryd.ntmps5
  refine wp_seq ?_
  refine wp_region_L (W0 := w) [] (KS.start w) ?_
  refine lm (v := .bool false) rfl rfl ?_
  refine wpL_done (fun W1 hW1 => ?_)
  refine (show Code.wp _ _ _ _ _ from ?_)
  refine wp_seq ?_
  refine wp_seq ?_
  refine wp_region_L (W0 := w) [] (hW1) ?_
  refine lm (v := .int .i64 0) rfl rfl ?_
  refine wpL_done (fun W2 hW2 => ?_)
  refine (show Code.wp _ _ _ _ _ from ?_)
  refine wp_block ?_
  go_loopw [1] (fun u1 wr => ∃ (bb : Nat), (bb ≤ 256) ∧ u1 = .int .i64 ((bb : Nat) : Int) ∧ KS w [] wr) (fun u1 _ => 256 - (intOf u1).toNat)
  case atStart => exact ⟨0, (by omega), rfl, hW2⟩
  case round =>
    obtain ⟨bb, hbb, rfl, hL3⟩ := hrel
    refine wp_seq ?_
    refine wp_seq ?_
    refine wp_region_L (W0 := w) [] (hL3) ?_
    refine lm (v := .int .i64 ((bb : Nat) : Int)) rfl rfl ?_
    refine lp (v := .bool (decide (bb < 256))) rfl rfl (run_bin rfl (vx := (.int .i64 ((bb : Nat) : Int))) (vy := (.int .i64 ((256 : Nat) : Int))) (by kernel_rfl) (by kernel_rfl) fun w => bn_lss rfl w) ?_
    refine wpL_done (fun W4 hW4 => ?_)
    refine (show Code.wp _ _ _ _ _ from ?_)
    cases hd1 : (decide (bb < 256)) with
    | false =>
      have h1 : ¬ (bb < 256) := of_decide_eq_false hd1
      clear hd1
      refine wp_cond_false rfl ?_
      refine wp_exit ?_
      refine (show Code.wp _ _ _ _ _ from ?_)
      refine wp_seq ?_
      refine wp_seq ?_
      refine wp_region_L (W0 := w) [] (hW4) ?_
      refine wpL_new (fun g => .slice (some ⟨g, 0, none⟩) 5 5) (obi := .cells #[strV [67, 83, 81, 85, 51, 48, 53, 52, 51, 56, 51], strV [65, 65, 65, 85, 48, 48, 48, 48, 48, 48, 48], strV [90, 90, 90, 90, 57, 57, 57, 57, 57, 57, 57], strV [75, 85, 76, 74, 49, 50, 51, 52, 53, 54, 48], strV [72, 76, 88, 85, 50, 48, 48, 48, 48, 48, 53]] 9 (0, 0)) rfl rfl (fun _ => by kernel_rfl) (fun _ => by simp only [List.setIfInBounds_toArray, List.set_cons_succ, List.set_cons_zero] <;> rfl) fun g1 Bg1 Fg1 => ?_
      refine lm (v := .int .i64 5) rfl rfl ?_
      refine lm (v := .int .i64 0) rfl rfl ?_
      refine wpL_done (fun W5 hW5 => ?_)
      refine (show Code.wp _ _ _ _ _ from ?_)
      refine wp_block ?_
      go_loopw [65] (fun u65 wr => ∃ (k : Nat), (k ≤ 5) ∧ u65 = .int .i64 ((k : Nat) : Int) ∧ KS w [(g1, .cells #[strV [67, 83, 81, 85, 51, 48, 53, 52, 51, 56, 51], strV [65, 65, 65, 85, 48, 48, 48, 48, 48, 48, 48], strV [90, 90, 90, 90, 57, 57, 57, 57, 57, 57, 57], strV [75, 85, 76, 74, 49, 50, 51, 52, 53, 54, 48], strV [72, 76, 88, 85, 50, 48, 48, 48, 48, 48, 53]] 9 (0, 0))] wr) (fun u65 _ => 5 - (intOf u65).toNat)
      case atStart => exact ⟨0, (by omega), rfl, hW5⟩
      case round =>
        obtain ⟨k, hk, rfl, hL6⟩ := hrel
        refine wp_seq ?_
        refine wp_region_L (W0 := w) [(g1, .cells #[strV [67, 83, 81, 85, 51, 48, 53, 52, 51, 56, 51], strV [65, 65, 65, 85, 48, 48, 48, 48, 48, 48, 48], strV [90, 90, 90, 90, 57, 57, 57, 57, 57, 57, 57], strV [75, 85, 76, 74, 49, 50, 51, 52, 53, 54, 48], strV [72, 76, 88, 85, 50, 48, 48, 48, 48, 48, 53]] 9 (0, 0))] (hL6) ?_
        refine lp (v := .bool (decide (k < 5))) rfl rfl (run_bin rfl (vx := (.int .i64 ((k : Nat) : Int))) (vy := (.int .i64 ((5 : Nat) : Int))) (by kernel_rfl) (by kernel_rfl) fun w => bn_lss rfl w) ?_
        refine wpL_done (fun W7 hW7 => ?_)
        refine (show Code.wp _ _ _ _ _ from ?_)
        refine wp_seq ?_
        cases hd2 : (decide (k < 5)) with
        | false =>
          have h2 : ¬ (k < 5) := of_decide_eq_false hd2
          clear hd2
          refine wp_cond_false rfl ?_
          refine wp_exit ?_
          refine (show Code.wp _ _ _ _ _ from ?_)
          refine wp_seq ?_
          refine wp_seq ?_
          refine wp_region_L (W0 := w) [(g1, .cells #[strV [67, 83, 81, 85, 51, 48, 53, 52, 51, 56, 51], strV [65, 65, 65, 85, 48, 48, 48, 48, 48, 48, 48], strV [90, 90, 90, 90, 57, 57, 57, 57, 57, 57, 57], strV [75, 85, 76, 74, 49, 50, 51, 52, 53, 54, 48], strV [72, 76, 88, 85, 50, 48, 48, 48, 48, 48, 53]] 9 (0, 0))] (hW7) ?_
          refine lm (v := .int .i64 0) rfl rfl ?_
          refine wpL_done (fun W8 hW8 => ?_)
          refine (show Code.wp _ _ _ _ _ from ?_)
          refine wp_block ?_
          go_loopw [13] (fun u13 wr => ∃ (m : Nat), (m ≤ 10000) ∧ u13 = .int .i64 ((m : Nat) : Int) ∧ KS w [(g1, .cells #[strV [67, 83, 81, 85, 51, 48, 53, 52, 51, 56, 51], strV [65, 65, 65, 85, 48, 48, 48, 48, 48, 48, 48], strV [90, 90, 90, 90, 57, 57, 57, 57, 57, 57, 57], strV [75, 85, 76, 74, 49, 50, 51, 52, 53, 54, 48], strV [72, 76, 88, 85, 50, 48, 48, 48, 48, 48, 53]] 9 (0, 0))] wr) (fun u13 _ => 10000 - (intOf u13).toNat)
          case atStart => exact ⟨0, (by omega), rfl, hW8⟩
          case round =>
            obtain ⟨m, hm, rfl, hL9⟩ := hrel
            refine wp_seq ?_
            refine wp_seq ?_
            refine wp_region_L (W0 := w) [(g1, .cells #[strV [67, 83, 81, 85, 51, 48, 53, 52, 51, 56, 51], strV [65, 65, 65, 85, 48, 48, 48, 48, 48, 48, 48], strV [90, 90, 90, 90, 57, 57, 57, 57, 57, 57, 57], strV [75, 85, 76, 74, 49, 50, 51, 52, 53, 54, 48], strV [72, 76, 88, 85, 50, 48, 48, 48, 48, 48, 53]] 9 (0, 0))] (hL9) ?_
            refine lm (v := .int .i64 ((m : Nat) : Int)) rfl rfl ?_
            refine lp (v := .bool (decide (m < 10000))) rfl rfl (run_bin rfl (vx := (.int .i64 ((m : Nat) : Int))) (vy := (.int .i64 ((10000 : Nat) : Int))) (by kernel_rfl) (by kernel_rfl) fun w => bn_lss rfl w) ?_
            refine wpL_done (fun W10 hW10 => ?_)
            refine (show Code.wp _ _ _ _ _ from ?_)
            cases hd3 : (decide (m < 10000)) with
            | false =>
              have h3 : ¬ (m < 10000) := of_decide_eq_false hd3
              clear hd3
              refine wp_cond_false rfl ?_
              refine wp_exit ?_
              refine (show Code.wp _ _ _ _ _ from ?_)
              refine wp_seq ?_
              refine wp_seq ?_
              refine wp_region_L (W0 := w) [(g1, .cells #[strV [67, 83, 81, 85, 51, 48, 53, 52, 51, 56, 51], strV [65, 65, 65, 85, 48, 48, 48, 48, 48, 48, 48], strV [90, 90, 90, 90, 57, 57, 57, 57, 57, 57, 57], strV [75, 85, 76, 74, 49, 50, 51, 52, 53, 54, 48], strV [72, 76, 88, 85, 50, 48, 48, 48, 48, 48, 53]] 9 (0, 0))] (hW10) ?_
              refine lm (v := .int .i64 27) rfl rfl ?_
              refine wpL_done (fun W11 hW11 => ?_)
              refine (show Code.wp _ _ _ _ _ from ?_)
              refine wp_block ?_
              go_loopw [14] (fun u14 wr => ∃ (n : Nat), (n ≤ 32) ∧ u14 = .int .i64 ((n : Nat) : Int) ∧ KS w [(g1, .cells #[strV [67, 83, 81, 85, 51, 48, 53, 52, 51, 56, 51], strV [65, 65, 65, 85, 48, 48, 48, 48, 48, 48, 48], strV [90, 90, 90, 90, 57, 57, 57, 57, 57, 57, 57], strV [75, 85, 76, 74, 49, 50, 51, 52, 53, 54, 48], strV [72, 76, 88, 85, 50, 48, 48, 48, 48, 48, 53]] 9 (0, 0))] wr) (fun u14 _ => 32 - (intOf u14).toNat)
              case atStart => exact ⟨27, (by omega), rfl, hW11⟩
              case round =>
                obtain ⟨n, hn, rfl, hL12⟩ := hrel
                refine wp_seq ?_
                refine wp_seq ?_
                refine wp_region_L (W0 := w) [(g1, .cells #[strV [67, 83, 81, 85, 51, 48, 53, 52, 51, 56, 51], strV [65, 65, 65, 85, 48, 48, 48, 48, 48, 48, 48], strV [90, 90, 90, 90, 57, 57, 57, 57, 57, 57, 57], strV [75, 85, 76, 74, 49, 50, 51, 52, 53, 54, 48], strV [72, 76, 88, 85, 50, 48, 48, 48, 48, 48, 53]] 9 (0, 0))] (hL12) ?_
                refine lm (v := .int .i64 ((n : Nat) : Int)) rfl rfl ?_
                refine lp (v := .bool (decide (n < 32))) rfl rfl (run_bin rfl (vx := (.int .i64 ((n : Nat) : Int))) (vy := (.int .i64 ((32 : Nat) : Int))) (by kernel_rfl) (by kernel_rfl) fun w => bn_lss rfl w) ?_
                refine wpL_done (fun W13 hW13 => ?_)
                refine (show Code.wp _ _ _ _ _ from ?_)
                cases hd4 : (decide (n < 32)) with
                | false =>
                  have h4 : ¬ (n < 32) := of_decide_eq_false hd4
                  clear hd4
                  refine wp_cond_false rfl ?_
                  refine wp_exit ?_
                  refine (show Code.wp _ _ _ _ _ from ?_)
                  refine wp_seq ?_
                  refine wp_region_L (W0 := w) [(g1, .cells #[strV [67, 83, 81, 85, 51, 48, 53, 52, 51, 56, 51], strV [65, 65, 65, 85, 48, 48, 48, 48, 48, 48, 48], strV [90, 90, 90, 90, 57, 57, 57, 57, 57, 57, 57], strV [75, 85, 76, 74, 49, 50, 51, 52, 53, 54, 48], strV [72, 76, 88, 85, 50, 48, 48, 48, 48, 48, 53]] 9 (0, 0))] (hW13) ?_
                  refine lv (v := .bool true) rfl rfl (yb_call (f := 12) (args := #[]) (fun _ => by kernel_rfl) fun W hW => awake_any W (HE.out.keep hW.1)) ?_
                  refine lm (v := .bool true) rfl rfl ?_
                  refine wpL_done (fun W14 hW14 => ?_)
                  refine (show Code.wp _ _ _ _ _ from ?_)
                  refine wp_ret ?_
                  try simp only [inBlock_ret, then_ret]
                  refine bodyPost_ret (v := .bool true) ?_ rfl ?_
                  · kernel_rfl
                  · exact ⟨rfl, hW14.1⟩
                | true =>
                  have h4 : n < 32 := of_decide_eq_true hd4
                  clear hd4
                  have lr1 := repL_len 32 n
                  have lr2 := repL_len 45 n
                  refine wp_cond_true rfl ?_
                  refine wp_skip ?_
                  refine (show Code.wp _ _ _ _ _ from ?_)
                  refine wp_seq ?_
                  refine wp_block ?_
                  refine wp_seq ?_
                  refine wp_region_L (W0 := w) [(g1, .cells #[strV [67, 83, 81, 85, 51, 48, 53, 52, 51, 56, 51], strV [65, 65, 65, 85, 48, 48, 48, 48, 48, 48, 48], strV [90, 90, 90, 90, 57, 57, 57, 57, 57, 57, 57], strV [75, 85, 76, 74, 49, 50, 51, 52, 53, 54, 48], strV [72, 76, 88, 85, 50, 48, 48, 48, 48, 48, 53]] 9 (0, 0))] (hW13) ?_
                  refine lm (v := .int .i64 ((n : Nat) : Int)) rfl rfl ?_
                  refine lv (v := strV (Lib.repeatL [32] n)) rfl rfl (yb_call (f := 16) (args := #[strV [32], .int .i64 ((n : Nat) : Int)]) (fun _ => by kernel_rfl) fun W hW => rep_any 32 n (by omega) W) ?_
                  refine lp (v := strV ((Lib.repeatL [32] n) ++ [67, 83, 81, 85, 51, 48, 53, 52, 51, 56, 51])) rfl rfl (run_bin rfl (vx := strV (Lib.repeatL [32] n)) (vy := strV [67, 83, 81, 85, 51, 48, 53, 52, 51, 56, 51]) (by kernel_rfl) (by kernel_rfl) fun w => bs_add (c := ((Lib.repeatL [32] n) ++ [67, 83, 81, 85, 51, 48, 53, 52, 51, 56, 51])) rfl (by first | omega | (simp; omega)) w) ?_
                  refine lv (v := .bool true) rfl rfl (yb_call (f := 10) (args := #[strV ((Lib.repeatL [32] n) ++ [67, 83, 81, 85, 51, 48, 53, 52, 51, 56, 51])]) (fun _ => by kernel_rfl) fun W hW => tells_any ((Lib.repeatL [32] n) ++ [67, 83, 81, 85, 51, 48, 53, 52, 51, 56, 51]) W (HE.out.keep hW.1)) ?_
                  refine lm (v := .bool false) rfl rfl ?_
                  refine lm (v := .bool false) rfl rfl ?_
                  refine lm (v := .int .i64 ((n : Nat) : Int)) rfl rfl ?_
                  refine lv (v := strV (Lib.repeatL [45] n)) rfl rfl (yb_call (f := 16) (args := #[strV [45], .int .i64 ((n : Nat) : Int)]) (fun _ => by kernel_rfl) fun W hW => rep_any 45 n (by omega) W) ?_
                  refine lp (v := strV ([67, 83, 81, 85, 51, 48, 53, 52, 51, 56] ++ (Lib.repeatL [45] n))) rfl rfl (run_bin rfl (vx := strV [67, 83, 81, 85, 51, 48, 53, 52, 51, 56]) (vy := strV (Lib.repeatL [45] n)) (by kernel_rfl) (by kernel_rfl) fun w => bs_add (c := ([67, 83, 81, 85, 51, 48, 53, 52, 51, 56] ++ (Lib.repeatL [45] n))) rfl (by first | omega | (simp; omega)) w) ?_
                  refine lp (v := strV (([67, 83, 81, 85, 51, 48, 53, 52, 51, 56] ++ (Lib.repeatL [45] n)) ++ [51])) rfl rfl (run_bin rfl (vx := strV ([67, 83, 81, 85, 51, 48, 53, 52, 51, 56] ++ (Lib.repeatL [45] n))) (vy := strV [51]) (by kernel_rfl) (by kernel_rfl) fun w => bs_add (c := (([67, 83, 81, 85, 51, 48, 53, 52, 51, 56] ++ (Lib.repeatL [45] n)) ++ [51])) rfl (by first | omega | (simp; omega)) w) ?_
                  refine lv (v := .bool true) rfl rfl (yb_call (f := 10) (args := #[strV (([67, 83, 81, 85, 51, 48, 53, 52, 51, 56] ++ (Lib.repeatL [45] n)) ++ [51])]) (fun _ => by kernel_rfl) fun W hW => tells_any (([67, 83, 81, 85, 51, 48, 53, 52, 51, 56] ++ (Lib.repeatL [45] n)) ++ [51]) W (HE.out.keep hW.1)) ?_
                  refine lm (v := .bool false) rfl rfl ?_
                  refine lm (v := .bool false) rfl rfl ?_
                  refine wpL_done (fun W15 hW15 => ?_)
                  refine (show Code.wp _ _ _ _ _ from ?_)
                  refine wp_cond_false rfl ?_
                  refine wp_skip ?_
                  refine (show Code.wp _ _ _ _ _ from ?_)
                  refine wp_region_L (W0 := w) [(g1, .cells #[strV [67, 83, 81, 85, 51, 48, 53, 52, 51, 56, 51], strV [65, 65, 65, 85, 48, 48, 48, 48, 48, 48, 48], strV [90, 90, 90, 90, 57, 57, 57, 57, 57, 57, 57], strV [75, 85, 76, 74, 49, 50, 51, 52, 53, 54, 48], strV [72, 76, 88, 85, 50, 48, 48, 48, 48, 48, 53]] 9 (0, 0))] (hW15) ?_
                  refine lm (v := .int .i64 ((n : Nat) : Int)) rfl rfl ?_
                  refine lp (v := .int .i64 (((n + 1) : Nat) : Int)) rfl rfl (run_bin rfl (vx := (.int .i64 ((n : Nat) : Int))) (vy := (.int .i64 ((1 : Nat) : Int))) (by kernel_rfl) (by kernel_rfl) fun w => bn_add (z := (n + 1)) rfl (wr_i64 (by omega)) w) ?_
                  refine lm (v := .int .i64 (((n + 1) : Nat) : Int)) rfl rfl ?_
                  refine wpL_done (fun W16 hW16 => ?_)
                  go_roundw
                  case rel =>
                    repeat apply Exists.intro
                    exact ⟨⟨n + 1, (by omega), rfl, hW16⟩, rfl⟩
                  case measure => (show 32 - (intOf (.int .i64 (((n + 1) : Nat) : Int))).toNat < 32 - (intOf (.int .i64 ((n : Nat) : Int))).toNat); simp only [intOf]; omega
            | true =>
              have h3 : m < 10000 := of_decide_eq_true hd3
              clear hd3
              refine wp_cond_true rfl ?_
              refine wp_skip ?_
              refine (show Code.wp _ _ _ _ _ from ?_)
              refine wp_seq ?_
              refine wp_block ?_
              refine wp_seq ?_
              refine wp_region_V (W0 := w) [(g1, .cells #[strV [67, 83, 81, 85, 51, 48, 53, 52, 51, 56, 51], strV [65, 65, 65, 85, 48, 48, 48, 48, 48, 48, 48], strV [90, 90, 90, 90, 57, 57, 57, 57, 57, 57, 57], strV [75, 85, 76, 74, 49, 50, 51, 52, 53, 54, 48], strV [72, 76, 88, 85, 50, 48, 48, 48, 48, 48, 53]] 9 (0, 0))] (by kernel_rfl) (hW10) ?_
              refine vm (i := 0) (v := .int .i64 ((m : Nat) : Int)) rfl rfl rfl ?_
              refine vp (i := 1) (v := .int .i64 (((m % 10) : Nat) : Int)) rfl rfl rfl (run_bin rfl (vx := (.int .i64 ((m : Nat) : Int))) (vy := (.int .i64 ((10 : Nat) : Int))) (by kernel_rfl) (by kernel_rfl) fun w => bn_rem (z := (m % 10)) rfl (by omega) w) ?_
              obtain ⟨b2, hb2⟩ : ∃ b, ([48, 50, 52, 53, 71, 82, 103, 85, 49, 32] : List UInt8)[(m % 10)]? = some b := ⟨_, List.getElem?_eq_getElem (by (first | omega | (simp <;> omega)))⟩
              have lb2 := b2.toNat_lt
              refine vp (i := 2) (v := .int .u8 ((b2.toNat : Nat) : Int)) rfl rfl rfl (run_idxS (j := .i64) (l := [48, 50, 52, 53, 71, 82, 103, 85, 49, 32]) (k := (m % 10)) (b := b2) rfl Tryd.underlying9 (by kernel_rfl) (by kernel_rfl) hb2) ?_
              refine vm (i := 3) (v := .int .i64 ((m : Nat) : Int)) rfl rfl rfl ?_
              refine vp (i := 4) (v := .int .i64 (((m / 10) : Nat) : Int)) rfl rfl rfl (run_bin rfl (vx := (.int .i64 ((m : Nat) : Int))) (vy := (.int .i64 ((10 : Nat) : Int))) (by kernel_rfl) (by kernel_rfl) fun w => bn_quo (z := (m / 10)) rfl (by omega) (wr_i64 (by omega)) w) ?_
              refine vp (i := 5) (v := .int .i64 ((((m / 10) % 10) : Nat) : Int)) rfl rfl rfl (run_bin rfl (vx := (.int .i64 (((m / 10) : Nat) : Int))) (vy := (.int .i64 ((10 : Nat) : Int))) (by kernel_rfl) (by kernel_rfl) fun w => bn_rem (z := ((m / 10) % 10)) rfl (by omega) w) ?_
              obtain ⟨b3, hb3⟩ : ∃ b, ([48, 50, 52, 53, 71, 82, 103, 85, 49, 32] : List UInt8)[((m / 10) % 10)]? = some b := ⟨_, List.getElem?_eq_getElem (by (first | omega | (simp <;> omega)))⟩
              have lb3 := b3.toNat_lt
              refine vp (i := 6) (v := .int .u8 ((b3.toNat : Nat) : Int)) rfl rfl rfl (run_idxS (j := .i64) (l := [48, 50, 52, 53, 71, 82, 103, 85, 49, 32]) (k := ((m / 10) % 10)) (b := b3) rfl Tryd.underlying9 (by kernel_rfl) (by kernel_rfl) hb3) ?_
              refine vm (i := 7) (v := .int .i64 ((m : Nat) : Int)) rfl rfl rfl ?_
              refine vp (i := 8) (v := .int .i64 (((m / 100) : Nat) : Int)) rfl rfl rfl (run_bin rfl (vx := (.int .i64 ((m : Nat) : Int))) (vy := (.int .i64 ((100 : Nat) : Int))) (by kernel_rfl) (by kernel_rfl) fun w => bn_quo (z := (m / 100)) rfl (by omega) (wr_i64 (by omega)) w) ?_
              refine vp (i := 9) (v := .int .i64 ((((m / 100) % 10) : Nat) : Int)) rfl rfl rfl (run_bin rfl (vx := (.int .i64 (((m / 100) : Nat) : Int))) (vy := (.int .i64 ((10 : Nat) : Int))) (by kernel_rfl) (by kernel_rfl) fun w => bn_rem (z := ((m / 100) % 10)) rfl (by omega) w) ?_
              obtain ⟨b4, hb4⟩ : ∃ b, ([48, 50, 52, 53, 71, 82, 103, 85, 49, 32] : List UInt8)[((m / 100) % 10)]? = some b := ⟨_, List.getElem?_eq_getElem (by (first | omega | (simp <;> omega)))⟩
              have lb4 := b4.toNat_lt
              refine vp (i := 10) (v := .int .u8 ((b4.toNat : Nat) : Int)) rfl rfl rfl (run_idxS (j := .i64) (l := [48, 50, 52, 53, 71, 82, 103, 85, 49, 32]) (k := ((m / 100) % 10)) (b := b4) rfl Tryd.underlying9 (by kernel_rfl) (by kernel_rfl) hb4) ?_
              refine vm (i := 11) (v := .int .i64 ((m : Nat) : Int)) rfl rfl rfl ?_
              refine vp (i := 12) (v := .int .i64 (((m / 1000) : Nat) : Int)) rfl rfl rfl (run_bin rfl (vx := (.int .i64 ((m : Nat) : Int))) (vy := (.int .i64 ((1000 : Nat) : Int))) (by kernel_rfl) (by kernel_rfl) fun w => bn_quo (z := (m / 1000)) rfl (by omega) (wr_i64 (by omega)) w) ?_
              obtain ⟨b5, hb5⟩ : ∃ b, ([48, 50, 52, 53, 71, 82, 103, 85, 49, 32] : List UInt8)[(m / 1000)]? = some b := ⟨_, List.getElem?_eq_getElem (by (first | omega | (simp <;> omega)))⟩
              have lb5 := b5.toNat_lt
              refine vp (i := 13) (v := .int .u8 ((b5.toNat : Nat) : Int)) rfl rfl rfl (run_idxS (j := .i64) (l := [48, 50, 52, 53, 71, 82, 103, 85, 49, 32]) (k := (m / 1000)) (b := b5) rfl Tryd.underlying9 (by kernel_rfl) (by kernel_rfl) hb5) ?_
              refine wpV_ns (fun g => .slice (some ⟨g, 0, none⟩) 4 4) (i := 14) (obi := .cells #[.int .u8 ((b2.toNat : Nat) : Int), .int .u8 ((b3.toNat : Nat) : Int), .int .u8 ((b4.toNat : Nat) : Int), .int .u8 ((b5.toNat : Nat) : Int)] 5 (0, 0)) rfl rfl rfl (by kernel_rfl) (fun _ => by kernel_rfl) (fun _ => by simp only [List.setIfInBounds_toArray, List.set_cons_succ, List.set_cons_zero] <;> rfl) fun g6 Bg6 Fg6 => ?_
              refine vv (i := 15) (v := strV [b2, b3, b4, b5]) rfl rfl rfl (yb_str (n := 4) (cap := 4) (l := [b2, b3, b4, b5]) rfl Tryd.underlying31 Tryd.underlying5 Tryd.underlying9 (by kernel_rfl) rfl (.head _) (by first | rfl | (simp [RowB, u8s]; omega))) ?_
              refine vv (i := 16) (v := .bool true) rfl rfl rfl (yb_call (f := 10) (args := #[strV [b2, b3, b4, b5]]) (fun _ => by kernel_rfl) fun W hW => tells_any [b2, b3, b4, b5] W (HE.out.keep hW.1)) ?_
              refine vm (i := 17) (v := .bool false) rfl rfl rfl ?_
              refine wpV_done (by kernel_rfl) (fun W17 hW17 => ?_) _
              refine (show Code.wp _ _ _ _ _ from ?_)
              refine wp_cond_false rfl ?_
              refine wp_skip ?_
              refine (show Code.wp _ _ _ _ _ from ?_)
              refine wp_region_L (W0 := w) [(g6, .cells #[.int .u8 ((b2.toNat : Nat) : Int), .int .u8 ((b3.toNat : Nat) : Int), .int .u8 ((b4.toNat : Nat) : Int), .int .u8 ((b5.toNat : Nat) : Int)] 5 (0, 0)), (g1, .cells #[strV [67, 83, 81, 85, 51, 48, 53, 52, 51, 56, 51], strV [65, 65, 65, 85, 48, 48, 48, 48, 48, 48, 48], strV [90, 90, 90, 90, 57, 57, 57, 57, 57, 57, 57], strV [75, 85, 76, 74, 49, 50, 51, 52, 53, 54, 48], strV [72, 76, 88, 85, 50, 48, 48, 48, 48, 48, 53]] 9 (0, 0))] (hW17) ?_
              refine lm (v := .int .i64 ((m : Nat) : Int)) rfl rfl ?_
              refine lp (v := .int .i64 (((m + 1) : Nat) : Int)) rfl rfl (run_bin rfl (vx := (.int .i64 ((m : Nat) : Int))) (vy := (.int .i64 ((1 : Nat) : Int))) (by kernel_rfl) (by kernel_rfl) fun w => bn_add (z := (m + 1)) rfl (wr_i64 (by omega)) w) ?_
              refine lm (v := .int .i64 (((m + 1) : Nat) : Int)) rfl rfl ?_
              refine wpL_done (fun W18 hW18 => ?_)
              go_roundw
              case rel =>
                repeat apply Exists.intro
                exact ⟨⟨m + 1, (by omega), rfl, (hW18.sub (fun p hp => (.tail _ hp)))⟩, rfl⟩
              case measure => (show 10000 - (intOf (.int .i64 (((m + 1) : Nat) : Int))).toNat < 10000 - (intOf (.int .i64 ((m : Nat) : Int))).toNat); simp only [intOf]; omega
        | true =>
          have h2 : k < 5 := of_decide_eq_true hd2
          clear hd2
          refine wp_cond_true rfl ?_
          refine wp_skip ?_
          refine (show Code.wp _ _ _ _ _ from ?_)
          refine wp_seq ?_
          refine wp_block ?_
          refine wp_seq ?_
          refine wp_region_L (W0 := w) [(g1, .cells #[strV [67, 83, 81, 85, 51, 48, 53, 52, 51, 56, 51], strV [65, 65, 65, 85, 48, 48, 48, 48, 48, 48, 48], strV [90, 90, 90, 90, 57, 57, 57, 57, 57, 57, 57], strV [75, 85, 76, 74, 49, 50, 51, 52, 53, 54, 48], strV [72, 76, 88, 85, 50, 48, 48, 48, 48, 48, 53]] 9 (0, 0))] (hW7) ?_
          refine lp (v := .pointer (some ⟨g1, 0 + k * 1, none⟩)) rfl rfl (run_idxL (j := .i64) (n := 5) (cap := 5) (b := g1) (off := 0) (k := k) (sz := 1) rfl Tryd.underlying30 (by kernel_rfl) (by kernel_rfl) (by kernel_rfl) (by omega)) ?_
          obtain ⟨sx, hs, ls⟩ := names_get (k := k) (by assumption)
          refine lv (v := strV sx) rfl rfl (yb_cell (off := 0 + k * 1) rfl (by kernel_rfl) (.head _) Tryd.underlying9 rfl hs) ?_
          refine lm (v := strV sx) rfl rfl ?_
          refine wpL_done (fun W19 hW19 => ?_)
          refine (show Code.wp _ _ _ _ _ from ?_)
          refine wp_seq ?_
          refine wp_region_L (W0 := w) [(g1, .cells #[strV [67, 83, 81, 85, 51, 48, 53, 52, 51, 56, 51], strV [65, 65, 65, 85, 48, 48, 48, 48, 48, 48, 48], strV [90, 90, 90, 90, 57, 57, 57, 57, 57, 57, 57], strV [75, 85, 76, 74, 49, 50, 51, 52, 53, 54, 48], strV [72, 76, 88, 85, 50, 48, 48, 48, 48, 48, 53]] 9 (0, 0))] (hW19) ?_
          refine lm (v := .int .i64 0) rfl rfl ?_
          refine wpL_done (fun W20 hW20 => ?_)
          refine (show Code.wp _ _ _ _ _ from ?_)
          refine wp_block ?_
          go_loopw [8] (fun u8 wr => ∃ (i : Nat), (i ≤ 11) ∧ u8 = .int .i64 ((i : Nat) : Int) ∧ KS w [(g1, .cells #[strV [67, 83, 81, 85, 51, 48, 53, 52, 51, 56, 51], strV [65, 65, 65, 85, 48, 48, 48, 48, 48, 48, 48], strV [90, 90, 90, 90, 57, 57, 57, 57, 57, 57, 57], strV [75, 85, 76, 74, 49, 50, 51, 52, 53, 54, 48], strV [72, 76, 88, 85, 50, 48, 48, 48, 48, 48, 53]] 9 (0, 0))] wr) (fun u8 _ => 11 - (intOf u8).toNat)
          case atStart => exact ⟨0, (by omega), rfl, hW20⟩
          case round =>
            obtain ⟨i, hi, rfl, hL21⟩ := hrel
            refine wp_seq ?_
            refine wp_seq ?_
            refine wp_region_L (W0 := w) [(g1, .cells #[strV [67, 83, 81, 85, 51, 48, 53, 52, 51, 56, 51], strV [65, 65, 65, 85, 48, 48, 48, 48, 48, 48, 48], strV [90, 90, 90, 90, 57, 57, 57, 57, 57, 57, 57], strV [75, 85, 76, 74, 49, 50, 51, 52, 53, 54, 48], strV [72, 76, 88, 85, 50, 48, 48, 48, 48, 48, 53]] 9 (0, 0))] (hL21) ?_
            refine lm (v := .int .i64 ((i : Nat) : Int)) rfl rfl ?_
            refine lm (v := strV sx) rfl rfl ?_
            refine lp (v := .int .i64 ((sx.length : Nat) : Int)) rfl rfl (run_lenS (l := sx) rfl Tryd.underlying9 (by kernel_rfl)) ?_
            refine lp (v := .bool (decide (i < sx.length))) rfl rfl (run_bin rfl (vx := (.int .i64 ((i : Nat) : Int))) (vy := (.int .i64 ((sx.length : Nat) : Int))) (by kernel_rfl) (by kernel_rfl) fun w => bn_lss rfl w) ?_
            refine wpL_done (fun W22 hW22 => ?_)
            refine (show Code.wp _ _ _ _ _ from ?_)
            cases hd5 : (decide (i < sx.length)) with
            | false =>
              have h5 : ¬ (i < sx.length) := of_decide_eq_false hd5
              clear hd5
              refine wp_cond_false rfl ?_
              refine wp_exit ?_
              refine (show Code.wp _ _ _ _ _ from ?_)
              refine wp_region_L (W0 := w) [(g1, .cells #[strV [67, 83, 81, 85, 51, 48, 53, 52, 51, 56, 51], strV [65, 65, 65, 85, 48, 48, 48, 48, 48, 48, 48], strV [90, 90, 90, 90, 57, 57, 57, 57, 57, 57, 57], strV [75, 85, 76, 74, 49, 50, 51, 52, 53, 54, 48], strV [72, 76, 88, 85, 50, 48, 48, 48, 48, 48, 53]] 9 (0, 0))] (hW22) ?_
              refine lp (v := .int .i64 (((k + 1) : Nat) : Int)) rfl rfl (run_bin rfl (vx := (.int .i64 ((k : Nat) : Int))) (vy := (.int .i64 ((1 : Nat) : Int))) (by kernel_rfl) (by kernel_rfl) fun w => bn_add (z := (k + 1)) rfl (wr_i64 (by omega)) w) ?_
              refine lm (v := .int .i64 (((k + 1) : Nat) : Int)) rfl rfl ?_
              refine wpL_done (fun W23 hW23 => ?_)
              go_roundw
              case rel =>
                repeat apply Exists.intro
                exact ⟨⟨k + 1, (by omega), rfl, hW23⟩, rfl⟩
              case measure => (show 5 - (intOf (.int .i64 (((k + 1) : Nat) : Int))).toNat < 5 - (intOf (.int .i64 ((k : Nat) : Int))).toNat); simp only [intOf]; omega
            | true =>
              have h5 : i < sx.length := of_decide_eq_true hd5
              clear hd5
              refine wp_cond_true rfl ?_
              refine wp_skip ?_
              refine (show Code.wp _ _ _ _ _ from ?_)
              refine wp_seq ?_
              refine wp_block ?_
              refine wp_seq ?_
              refine wp_seq ?_
              refine wp_region_L (W0 := w) [(g1, .cells #[strV [67, 83, 81, 85, 51, 48, 53, 52, 51, 56, 51], strV [65, 65, 65, 85, 48, 48, 48, 48, 48, 48, 48], strV [90, 90, 90, 90, 57, 57, 57, 57, 57, 57, 57], strV [75, 85, 76, 74, 49, 50, 51, 52, 53, 54, 48], strV [72, 76, 88, 85, 50, 48, 48, 48, 48, 48, 53]] 9 (0, 0))] (hW22) ?_
              refine lm (v := .int .i64 0) rfl rfl ?_
              refine wpL_done (fun W24 hW24 => ?_)
              refine (show Code.wp _ _ _ _ _ from ?_)
              refine wp_block ?_
              go_loopw [9] (fun u9 wr => ∃ (q : Nat), (q ≤ 256) ∧ u9 = .int .i64 ((q : Nat) : Int) ∧ KS w [(g1, .cells #[strV [67, 83, 81, 85, 51, 48, 53, 52, 51, 56, 51], strV [65, 65, 65, 85, 48, 48, 48, 48, 48, 48, 48], strV [90, 90, 90, 90, 57, 57, 57, 57, 57, 57, 57], strV [75, 85, 76, 74, 49, 50, 51, 52, 53, 54, 48], strV [72, 76, 88, 85, 50, 48, 48, 48, 48, 48, 53]] 9 (0, 0))] wr) (fun u9 _ => 256 - (intOf u9).toNat)
              case atStart => exact ⟨0, (by omega), rfl, hW24⟩
              case round =>
                obtain ⟨q, hq, rfl, hL25⟩ := hrel
                refine wp_seq ?_
                refine wp_seq ?_
                refine wp_region_L (W0 := w) [(g1, .cells #[strV [67, 83, 81, 85, 51, 48, 53, 52, 51, 56, 51], strV [65, 65, 65, 85, 48, 48, 48, 48, 48, 48, 48], strV [90, 90, 90, 90, 57, 57, 57, 57, 57, 57, 57], strV [75, 85, 76, 74, 49, 50, 51, 52, 53, 54, 48], strV [72, 76, 88, 85, 50, 48, 48, 48, 48, 48, 53]] 9 (0, 0))] (hL25) ?_
                refine lm (v := .int .i64 ((q : Nat) : Int)) rfl rfl ?_
                refine lp (v := .bool (decide (q < 256))) rfl rfl (run_bin rfl (vx := (.int .i64 ((q : Nat) : Int))) (vy := (.int .i64 ((256 : Nat) : Int))) (by kernel_rfl) (by kernel_rfl) fun w => bn_lss rfl w) ?_
                refine wpL_done (fun W26 hW26 => ?_)
                refine (show Code.wp _ _ _ _ _ from ?_)
                cases hd6 : (decide (q < 256)) with
                | false =>
                  have h6 : ¬ (q < 256) := of_decide_eq_false hd6
                  clear hd6
                  refine wp_cond_false rfl ?_
                  refine wp_exit ?_
                  refine (show Code.wp _ _ _ _ _ from ?_)
                  refine wp_seq ?_
                  refine wp_seq ?_
                  refine wp_region_L (W0 := w) [(g1, .cells #[strV [67, 83, 81, 85, 51, 48, 53, 52, 51, 56, 51], strV [65, 65, 65, 85, 48, 48, 48, 48, 48, 48, 48], strV [90, 90, 90, 90, 57, 57, 57, 57, 57, 57, 57], strV [75, 85, 76, 74, 49, 50, 51, 52, 53, 54, 48], strV [72, 76, 88, 85, 50, 48, 48, 48, 48, 48, 53]] 9 (0, 0))] (hW26) ?_
                  refine lm (v := .int .i64 0) rfl rfl ?_
                  refine wpL_done (fun W27 hW27 => ?_)
                  refine (show Code.wp _ _ _ _ _ from ?_)
                  refine wp_block ?_
                  go_loopw [11] (fun u11 wr => ∃ (d : Nat), (d ≤ 10) ∧ u11 = .int .i64 ((d : Nat) : Int) ∧ KS w [(g1, .cells #[strV [67, 83, 81, 85, 51, 48, 53, 52, 51, 56, 51], strV [65, 65, 65, 85, 48, 48, 48, 48, 48, 48, 48], strV [90, 90, 90, 90, 57, 57, 57, 57, 57, 57, 57], strV [75, 85, 76, 74, 49, 50, 51, 52, 53, 54, 48], strV [72, 76, 88, 85, 50, 48, 48, 48, 48, 48, 53]] 9 (0, 0))] wr) (fun u11 _ => 10 - (intOf u11).toNat)
                  case atStart => exact ⟨0, (by omega), rfl, hW27⟩
                  case round =>
                    obtain ⟨d, hd, rfl, hL28⟩ := hrel
                    refine wp_seq ?_
                    refine wp_seq ?_
                    refine wp_region_L (W0 := w) [(g1, .cells #[strV [67, 83, 81, 85, 51, 48, 53, 52, 51, 56, 51], strV [65, 65, 65, 85, 48, 48, 48, 48, 48, 48, 48], strV [90, 90, 90, 90, 57, 57, 57, 57, 57, 57, 57], strV [75, 85, 76, 74, 49, 50, 51, 52, 53, 54, 48], strV [72, 76, 88, 85, 50, 48, 48, 48, 48, 48, 53]] 9 (0, 0))] (hL28) ?_
                    refine lm (v := .int .i64 ((d : Nat) : Int)) rfl rfl ?_
                    refine lp (v := .bool (decide (d < 10))) rfl rfl (run_bin rfl (vx := (.int .i64 ((d : Nat) : Int))) (vy := (.int .i64 ((10 : Nat) : Int))) (by kernel_rfl) (by kernel_rfl) fun w => bn_lss rfl w) ?_
                    refine wpL_done (fun W29 hW29 => ?_)
                    refine (show Code.wp _ _ _ _ _ from ?_)
                    cases hd7 : (decide (d < 10)) with
                    | false =>
                      have h7 : ¬ (d < 10) := of_decide_eq_false hd7
                      clear hd7
                      refine wp_cond_false rfl ?_
                      refine wp_exit ?_
                      refine (show Code.wp _ _ _ _ _ from ?_)
                      refine wp_seq ?_
                      refine wp_region_V (W0 := w) [(g1, .cells #[strV [67, 83, 81, 85, 51, 48, 53, 52, 51, 56, 51], strV [65, 65, 65, 85, 48, 48, 48, 48, 48, 48, 48], strV [90, 90, 90, 90, 57, 57, 57, 57, 57, 57, 57], strV [75, 85, 76, 74, 49, 50, 51, 52, 53, 54, 48], strV [72, 76, 88, 85, 50, 48, 48, 48, 48, 48, 53]] 9 (0, 0))] (by kernel_rfl) (hW29) ?_
                      refine vm (i := 0) (v := strV sx) rfl rfl rfl ?_
                      refine vm (i := 1) (v := .int .i64 ((i : Nat) : Int)) rfl rfl rfl ?_
                      refine vp (i := 2) (v := strV (sx.take i)) rfl rfl rfl (run_slH (k2 := .i64) (l := sx) (r := (sx.take i)) (j := i) rfl Tryd.underlying9 (by kernel_rfl) (by kernel_rfl) (by first | omega | (simp; omega)) rfl) ?_
                      refine vm (i := 3) (v := strV sx) rfl rfl rfl ?_
                      refine vm (i := 4) (v := .int .i64 ((i : Nat) : Int)) rfl rfl rfl ?_
                      refine vp (i := 5) (v := .int .i64 (((i + 1) : Nat) : Int)) rfl rfl rfl (run_bin rfl (vx := (.int .i64 ((i : Nat) : Int))) (vy := (.int .i64 ((1 : Nat) : Int))) (by kernel_rfl) (by kernel_rfl) fun w => bn_add (z := (i + 1)) rfl (wr_i64 (by omega)) w) ?_
                      refine vp (i := 6) (v := strV (sx.drop (i + 1))) rfl rfl rfl (run_slL (k1 := .i64) (l := sx) (r := (sx.drop (i + 1))) (i := (i + 1)) rfl Tryd.underlying9 (by kernel_rfl) (by kernel_rfl) (by first | omega | (simp; omega)) rfl) ?_
                      refine vp (i := 7) (v := strV ((sx.take i) ++ (sx.drop (i + 1)))) rfl rfl rfl (run_bin rfl (vx := strV (sx.take i)) (vy := strV (sx.drop (i + 1))) (by kernel_rfl) (by kernel_rfl) fun w => bs_add (c := ((sx.take i) ++ (sx.drop (i + 1)))) rfl (by first | omega | (simp; omega)) w) ?_
                      refine vv (i := 8) (v := .bool true) rfl rfl rfl (yb_call (f := 10) (args := #[strV ((sx.take i) ++ (sx.drop (i + 1)))]) (fun _ => by kernel_rfl) fun W hW => tells_any ((sx.take i) ++ (sx.drop (i + 1))) W (HE.out.keep hW.1)) ?_
                      refine vm (i := 9) (v := .bool false) rfl rfl rfl ?_
                      refine vm (i := 10) (v := .bool false) rfl rfl rfl ?_
                      refine vm (i := 11) (v := strV sx) rfl rfl rfl ?_
                      refine vm (i := 12) (v := .int .i64 ((i : Nat) : Int)) rfl rfl rfl ?_
                      refine vp (i := 13) (v := strV (sx.take i)) rfl rfl rfl (run_slH (k2 := .i64) (l := sx) (r := (sx.take i)) (j := i) rfl Tryd.underlying9 (by kernel_rfl) (by kernel_rfl) (by first | omega | (simp; omega)) rfl) ?_
                      refine vv (i := 14) (v := .bool true) rfl rfl rfl (yb_call (f := 11) (args := #[strV (sx.take i)]) (fun _ => by kernel_rfl) fun W hW => misses_any (sx.take i) W) ?_
                      refine vm (i := 15) (v := .bool false) rfl rfl rfl ?_
                      refine vm (i := 16) (v := .bool false) rfl rfl rfl ?_
                      refine wpV_done (by kernel_rfl) (fun W30 hW30 => ?_) _
                      refine (show Code.wp _ _ _ _ _ from ?_)
                      refine wp_cond_false rfl ?_
                      refine wp_skip ?_
                      refine (show Code.wp _ _ _ _ _ from ?_)
                      refine wp_region_L (W0 := w) [(g1, .cells #[strV [67, 83, 81, 85, 51, 48, 53, 52, 51, 56, 51], strV [65, 65, 65, 85, 48, 48, 48, 48, 48, 48, 48], strV [90, 90, 90, 90, 57, 57, 57, 57, 57, 57, 57], strV [75, 85, 76, 74, 49, 50, 51, 52, 53, 54, 48], strV [72, 76, 88, 85, 50, 48, 48, 48, 48, 48, 53]] 9 (0, 0))] (hW30) ?_
                      refine lm (v := .int .i64 ((i : Nat) : Int)) rfl rfl ?_
                      refine lp (v := .int .i64 (((i + 1) : Nat) : Int)) rfl rfl (run_bin rfl (vx := (.int .i64 ((i : Nat) : Int))) (vy := (.int .i64 ((1 : Nat) : Int))) (by kernel_rfl) (by kernel_rfl) fun w => bn_add (z := (i + 1)) rfl (wr_i64 (by omega)) w) ?_
                      refine lm (v := .int .i64 (((i + 1) : Nat) : Int)) rfl rfl ?_
                      refine wpL_done (fun W31 hW31 => ?_)
                      go_roundw
                      case rel =>
                        repeat apply Exists.intro
                        exact ⟨⟨i + 1, (by omega), rfl, hW31⟩, rfl⟩
                      case measure => (show 11 - (intOf (.int .i64 (((i + 1) : Nat) : Int))).toNat < 11 - (intOf (.int .i64 ((i : Nat) : Int))).toNat); simp only [intOf]; omega
                    | true =>
                      have h7 : d < 10 := of_decide_eq_true hd7
                      clear hd7
                      refine wp_cond_true rfl ?_
                      refine wp_skip ?_
                      refine (show Code.wp _ _ _ _ _ from ?_)
                      refine wp_seq ?_
                      refine wp_block ?_
                      refine wp_seq ?_
                      refine wp_region_L (W0 := w) [(g1, .cells #[strV [67, 83, 81, 85, 51, 48, 53, 52, 51, 56, 51], strV [65, 65, 65, 85, 48, 48, 48, 48, 48, 48, 48], strV [90, 90, 90, 90, 57, 57, 57, 57, 57, 57, 57], strV [75, 85, 76, 74, 49, 50, 51, 52, 53, 54, 48], strV [72, 76, 88, 85, 50, 48, 48, 48, 48, 48, 53]] 9 (0, 0))] (hW29) ?_
                      refine lm (v := .int .i64 ((d : Nat) : Int)) rfl rfl ?_
                      refine lp (v := .int .i64 (((48 + d) : Nat) : Int)) rfl rfl (run_bin rfl (vx := (.int .i64 ((48 : Nat) : Int))) (vy := (.int .i64 ((d : Nat) : Int))) (by kernel_rfl) (by kernel_rfl) fun w => bn_add (z := (48 + d)) rfl (wr_i64 (by omega)) w) ?_
                      refine lp (v := .int .u8 (((48 + d) : Nat) : Int)) rfl rfl (run_conv rfl (vx := (.int .i64 (((48 + d) : Nat) : Int))) (by kernel_rfl) fun w => cv_int Tryd.underlying3 Tryd.underlying5 (wr_u8 (by omega)) w) ?_
                      refine wpL_new (fun g => .slice (some ⟨g, 0, none⟩) 1 1) (obi := .cells #[.int .u8 (((48 + d) : Nat) : Int)] 5 (0, 0)) rfl rfl (fun _ => by kernel_rfl) (fun _ => by simp only [List.setIfInBounds_toArray, List.set_cons_succ, List.set_cons_zero] <;> rfl) fun g7 Bg7 Fg7 => ?_
                      refine lv (v := strV [UInt8.ofNat (48 + d)]) rfl rfl (yb_str (n := 1) (cap := 1) (l := [UInt8.ofNat (48 + d)]) rfl Tryd.underlying31 Tryd.underlying5 Tryd.underlying9 (by kernel_rfl) rfl (.head _) (by first | rfl | (simp [RowB, u8s]; omega))) ?_
                      refine lm (v := strV [UInt8.ofNat (48 + d)]) rfl rfl ?_
                      refine wpL_done (fun W32 hW32 => ?_)
                      refine (show Code.wp _ _ _ _ _ from ?_)
                      refine wp_seq ?_
                      refine wp_region_V (W0 := w) [(g7, .cells #[.int .u8 (((48 + d) : Nat) : Int)] 5 (0, 0)), (g1, .cells #[strV [67, 83, 81, 85, 51, 48, 53, 52, 51, 56, 51], strV [65, 65, 65, 85, 48, 48, 48, 48, 48, 48, 48], strV [90, 90, 90, 90, 57, 57, 57, 57, 57, 57, 57], strV [75, 85, 76, 74, 49, 50, 51, 52, 53, 54, 48], strV [72, 76, 88, 85, 50, 48, 48, 48, 48, 48, 53]] 9 (0, 0))] (by kernel_rfl) (hW32) ?_
                      refine vm (i := 0) (v := strV sx) rfl rfl rfl ?_
                      refine vp (i := 1) (v := strV (sx.take 10)) rfl rfl rfl (run_slH (k2 := .i64) (l := sx) (r := (sx.take 10)) (j := 10) rfl Tryd.underlying9 (by kernel_rfl) (by kernel_rfl) (by first | omega | (simp; omega)) rfl) ?_
                      refine vm (i := 2) (v := strV [UInt8.ofNat (48 + d)]) rfl rfl rfl ?_
                      refine vp (i := 3) (v := strV ((sx.take 10) ++ [UInt8.ofNat (48 + d)])) rfl rfl rfl (run_bin rfl (vx := strV (sx.take 10)) (vy := strV [UInt8.ofNat (48 + d)]) (by kernel_rfl) (by kernel_rfl) fun w => bs_add (c := ((sx.take 10) ++ [UInt8.ofNat (48 + d)])) rfl (by first | omega | (simp; omega)) w) ?_
                      refine vv (i := 4) (v := .bool true) rfl rfl rfl (yb_call (f := 11) (args := #[strV ((sx.take 10) ++ [UInt8.ofNat (48 + d)])]) (fun _ => by kernel_rfl) fun W hW => misses_any ((sx.take 10) ++ [UInt8.ofNat (48 + d)]) W) ?_
                      refine vm (i := 5) (v := .bool false) rfl rfl rfl ?_
                      refine vm (i := 6) (v := .bool false) rfl rfl rfl ?_
                      refine vm (i := 7) (v := .int .i64 ((i : Nat) : Int)) rfl rfl rfl ?_
                      refine vp (i := 8) (v := .bool (decide (i < 10))) rfl rfl rfl (run_bin rfl (vx := (.int .i64 ((i : Nat) : Int))) (vy := (.int .i64 ((10 : Nat) : Int))) (by kernel_rfl) (by kernel_rfl) fun w => bn_lss rfl w) ?_
                      refine vm (i := 9) (v := .bool (decide (i < 10))) rfl rfl rfl ?_
                      cases hd8 : (decide (i < 10)) with
                      | false =>
                        have h8 : ¬ (i < 10) := of_decide_eq_false hd8
                        clear hd8
                        refine vn (i := 10) rfl rfl ?_
                        refine vn (i := 11) rfl rfl ?_
                        refine vn (i := 12) rfl rfl ?_
                        refine vn (i := 13) rfl rfl ?_
                        refine vn (i := 14) rfl rfl ?_
                        refine vn (i := 15) rfl rfl ?_
                        refine vn (i := 16) rfl rfl ?_
                        refine vn (i := 17) rfl rfl ?_
                        refine vn (i := 18) rfl rfl ?_
                        refine vn (i := 19) rfl rfl ?_
                        refine vn (i := 20) rfl rfl ?_
                        refine vn (i := 21) rfl rfl ?_
                        refine vn (i := 22) rfl rfl ?_
                        refine vm (i := 23) (v := .bool false) rfl rfl rfl ?_
                        refine vm (i := 24) (v := .bool false) rfl rfl rfl ?_
                        refine wpV_done (by kernel_rfl) (fun W33 hW33 => ?_) _
                        refine (show Code.wp _ _ _ _ _ from ?_)
                        refine wp_cond_false rfl ?_
                        refine wp_skip ?_
                        refine (show Code.wp _ _ _ _ _ from ?_)
                        refine wp_region_L (W0 := w) [(g7, .cells #[.int .u8 (((48 + d) : Nat) : Int)] 5 (0, 0)), (g1, .cells #[strV [67, 83, 81, 85, 51, 48, 53, 52, 51, 56, 51], strV [65, 65, 65, 85, 48, 48, 48, 48, 48, 48, 48], strV [90, 90, 90, 90, 57, 57, 57, 57, 57, 57, 57], strV [75, 85, 76, 74, 49, 50, 51, 52, 53, 54, 48], strV [72, 76, 88, 85, 50, 48, 48, 48, 48, 48, 53]] 9 (0, 0))] (hW33) ?_
                        refine lm (v := .int .i64 ((d : Nat) : Int)) rfl rfl ?_
                        refine lp (v := .int .i64 (((d + 1) : Nat) : Int)) rfl rfl (run_bin rfl (vx := (.int .i64 ((d : Nat) : Int))) (vy := (.int .i64 ((1 : Nat) : Int))) (by kernel_rfl) (by kernel_rfl) fun w => bn_add (z := (d + 1)) rfl (wr_i64 (by omega)) w) ?_
                        refine lm (v := .int .i64 (((d + 1) : Nat) : Int)) rfl rfl ?_
                        refine wpL_done (fun W34 hW34 => ?_)
                        go_roundw
                        case rel =>
                          repeat apply Exists.intro
                          exact ⟨⟨d + 1, (by omega), rfl, (hW34.sub (fun p hp => (.tail _ hp)))⟩, rfl⟩
                        case measure => (show 10 - (intOf (.int .i64 (((d + 1) : Nat) : Int))).toNat < 10 - (intOf (.int .i64 ((d : Nat) : Int))).toNat); simp only [intOf]; omega
                      | true =>
                        have h8 : i < 10 := of_decide_eq_true hd8
                        clear hd8
                        refine vm (i := 10) (v := strV sx) rfl rfl rfl ?_
                        refine vm (i := 11) (v := .int .i64 ((i : Nat) : Int)) rfl rfl rfl ?_
                        refine vp (i := 12) (v := strV (sx.take i)) rfl rfl rfl (run_slH (k2 := .i64) (l := sx) (r := (sx.take i)) (j := i) rfl Tryd.underlying9 (by kernel_rfl) (by kernel_rfl) (by first | omega | (simp; omega)) rfl) ?_
                        refine vp (i := 13) (v := strV ((sx.take i) ++ [53])) rfl rfl rfl (run_bin rfl (vx := strV (sx.take i)) (vy := strV [53]) (by kernel_rfl) (by kernel_rfl) fun w => bs_add (c := ((sx.take i) ++ [53])) rfl (by first | omega | (simp; omega)) w) ?_
                        refine vm (i := 14) (v := strV sx) rfl rfl rfl ?_
                        refine vm (i := 15) (v := .int .i64 ((i : Nat) : Int)) rfl rfl rfl ?_
                        refine vp (i := 16) (v := .int .i64 (((i + 1) : Nat) : Int)) rfl rfl rfl (run_bin rfl (vx := (.int .i64 ((i : Nat) : Int))) (vy := (.int .i64 ((1 : Nat) : Int))) (by kernel_rfl) (by kernel_rfl) fun w => bn_add (z := (i + 1)) rfl (wr_i64 (by omega)) w) ?_
                        refine vp (i := 17) (v := strV ((sx.take 10).drop (i + 1))) rfl rfl rfl (run_slT (k1 := .i64) (k2 := .i64) (l := sx) (r := ((sx.take 10).drop (i + 1))) (i := (i + 1)) (j := 10) rfl Tryd.underlying9 (by kernel_rfl) (by kernel_rfl) (by kernel_rfl) (by omega) (by first | omega | (simp; omega)) rfl) ?_
                        refine vp (i := 18) (v := strV (((sx.take i) ++ [53]) ++ ((sx.take 10).drop (i + 1)))) rfl rfl rfl (run_bin rfl (vx := strV ((sx.take i) ++ [53])) (vy := strV ((sx.take 10).drop (i + 1))) (by kernel_rfl) (by kernel_rfl) fun w => bs_add (c := (((sx.take i) ++ [53]) ++ ((sx.take 10).drop (i + 1)))) rfl (by first | omega | (simp; omega)) w) ?_
                        refine vm (i := 19) (v := strV [UInt8.ofNat (48 + d)]) rfl rfl rfl ?_
                        refine vp (i := 20) (v := strV ((((sx.take i) ++ [53]) ++ ((sx.take 10).drop (i + 1))) ++ [UInt8.ofNat (48 + d)])) rfl rfl rfl (run_bin rfl (vx := strV (((sx.take i) ++ [53]) ++ ((sx.take 10).drop (i + 1)))) (vy := strV [UInt8.ofNat (48 + d)]) (by kernel_rfl) (by kernel_rfl) fun w => bs_add (c := ((((sx.take i) ++ [53]) ++ ((sx.take 10).drop (i + 1))) ++ [UInt8.ofNat (48 + d)])) rfl (by first | omega | (simp; omega)) w) ?_
                        refine vv (i := 21) (v := .bool true) rfl rfl rfl (yb_call (f := 11) (args := #[strV ((((sx.take i) ++ [53]) ++ ((sx.take 10).drop (i + 1))) ++ [UInt8.ofNat (48 + d)])]) (fun _ => by kernel_rfl) fun W hW => misses_any ((((sx.take i) ++ [53]) ++ ((sx.take 10).drop (i + 1))) ++ [UInt8.ofNat (48 + d)]) W) ?_
                        refine vm (i := 22) (v := .bool false) rfl rfl rfl ?_
                        refine vm (i := 23) (v := .bool false) rfl rfl rfl ?_
                        refine vm (i := 24) (v := .bool false) rfl rfl rfl ?_
                        refine wpV_done (by kernel_rfl) (fun W35 hW35 => ?_) _
                        refine (show Code.wp _ _ _ _ _ from ?_)
                        refine wp_cond_false rfl ?_
                        refine wp_skip ?_
                        refine (show Code.wp _ _ _ _ _ from ?_)
                        refine wp_region_L (W0 := w) [(g7, .cells #[.int .u8 (((48 + d) : Nat) : Int)] 5 (0, 0)), (g1, .cells #[strV [67, 83, 81, 85, 51, 48, 53, 52, 51, 56, 51], strV [65, 65, 65, 85, 48, 48, 48, 48, 48, 48, 48], strV [90, 90, 90, 90, 57, 57, 57, 57, 57, 57, 57], strV [75, 85, 76, 74, 49, 50, 51, 52, 53, 54, 48], strV [72, 76, 88, 85, 50, 48, 48, 48, 48, 48, 53]] 9 (0, 0))] (hW35) ?_
                        refine lm (v := .int .i64 ((d : Nat) : Int)) rfl rfl ?_
                        refine lp (v := .int .i64 (((d + 1) : Nat) : Int)) rfl rfl (run_bin rfl (vx := (.int .i64 ((d : Nat) : Int))) (vy := (.int .i64 ((1 : Nat) : Int))) (by kernel_rfl) (by kernel_rfl) fun w => bn_add (z := (d + 1)) rfl (wr_i64 (by omega)) w) ?_
                        refine lm (v := .int .i64 (((d + 1) : Nat) : Int)) rfl rfl ?_
                        refine wpL_done (fun W36 hW36 => ?_)
                        go_roundw
                        case rel =>
                          repeat apply Exists.intro
                          exact ⟨⟨d + 1, (by omega), rfl, (hW36.sub (fun p hp => (.tail _ hp)))⟩, rfl⟩
                        case measure => (show 10 - (intOf (.int .i64 (((d + 1) : Nat) : Int))).toNat < 10 - (intOf (.int .i64 ((d : Nat) : Int))).toNat); simp only [intOf]; omega
                | true =>
                  have h6 : q < 256 := of_decide_eq_true hd6
                  clear hd6
                  refine wp_cond_true rfl ?_
                  refine wp_skip ?_
                  refine (show Code.wp _ _ _ _ _ from ?_)
                  refine wp_seq ?_
                  refine wp_block ?_
                  refine wp_seq ?_
                  refine wp_region_L (W0 := w) [(g1, .cells #[strV [67, 83, 81, 85, 51, 48, 53, 52, 51, 56, 51], strV [65, 65, 65, 85, 48, 48, 48, 48, 48, 48, 48], strV [90, 90, 90, 90, 57, 57, 57, 57, 57, 57, 57], strV [75, 85, 76, 74, 49, 50, 51, 52, 53, 54, 48], strV [72, 76, 88, 85, 50, 48, 48, 48, 48, 48, 53]] 9 (0, 0))] (hW26) ?_
                  refine lm (v := .int .i64 ((q : Nat) : Int)) rfl rfl ?_
                  refine lp (v := .int .u8 ((q : Nat) : Int)) rfl rfl (run_conv rfl (vx := (.int .i64 ((q : Nat) : Int))) (by kernel_rfl) fun w => cv_int Tryd.underlying3 Tryd.underlying5 (wr_u8 (by omega)) w) ?_
                  refine wpL_new (fun g => .slice (some ⟨g, 0, none⟩) 1 1) (obi := .cells #[.int .u8 ((q : Nat) : Int)] 5 (0, 0)) rfl rfl (fun _ => by kernel_rfl) (fun _ => by simp only [List.setIfInBounds_toArray, List.set_cons_succ, List.set_cons_zero] <;> rfl) fun g8 Bg8 Fg8 => ?_
                  refine lv (v := strV [UInt8.ofNat q]) rfl rfl (yb_str (n := 1) (cap := 1) (l := [UInt8.ofNat q]) rfl Tryd.underlying31 Tryd.underlying5 Tryd.underlying9 (by kernel_rfl) rfl (.head _) (by first | rfl | (simp [RowB, u8s]; omega))) ?_
                  refine lm (v := strV [UInt8.ofNat q]) rfl rfl ?_
                  refine wpL_done (fun W37 hW37 => ?_)
                  refine (show Code.wp _ _ _ _ _ from ?_)
                  refine wp_seq ?_
                  refine wp_region_V (W0 := w) [(g8, .cells #[.int .u8 ((q : Nat) : Int)] 5 (0, 0)), (g1, .cells #[strV [67, 83, 81, 85, 51, 48, 53, 52, 51, 56, 51], strV [65, 65, 65, 85, 48, 48, 48, 48, 48, 48, 48], strV [90, 90, 90, 90, 57, 57, 57, 57, 57, 57, 57], strV [75, 85, 76, 74, 49, 50, 51, 52, 53, 54, 48], strV [72, 76, 88, 85, 50, 48, 48, 48, 48, 48, 53]] 9 (0, 0))] (by kernel_rfl) (hW37) ?_
                  refine vm (i := 0) (v := strV sx) rfl rfl rfl ?_
                  refine vm (i := 1) (v := .int .i64 ((i : Nat) : Int)) rfl rfl rfl ?_
                  refine vp (i := 2) (v := strV (sx.take i)) rfl rfl rfl (run_slH (k2 := .i64) (l := sx) (r := (sx.take i)) (j := i) rfl Tryd.underlying9 (by kernel_rfl) (by kernel_rfl) (by first | omega | (simp; omega)) rfl) ?_
                  refine vm (i := 3) (v := strV [UInt8.ofNat q]) rfl rfl rfl ?_
                  refine vp (i := 4) (v := strV ((sx.take i) ++ [UInt8.ofNat q])) rfl rfl rfl (run_bin rfl (vx := strV (sx.take i)) (vy := strV [UInt8.ofNat q]) (by kernel_rfl) (by kernel_rfl) fun w => bs_add (c := ((sx.take i) ++ [UInt8.ofNat q])) rfl (by first | omega | (simp; omega)) w) ?_
                  refine vm (i := 5) (v := strV sx) rfl rfl rfl ?_
                  refine vm (i := 6) (v := .int .i64 ((i : Nat) : Int)) rfl rfl rfl ?_
                  refine vp (i := 7) (v := .int .i64 (((i + 1) : Nat) : Int)) rfl rfl rfl (run_bin rfl (vx := (.int .i64 ((i : Nat) : Int))) (vy := (.int .i64 ((1 : Nat) : Int))) (by kernel_rfl) (by kernel_rfl) fun w => bn_add (z := (i + 1)) rfl (wr_i64 (by omega)) w) ?_
                  refine vp (i := 8) (v := strV (sx.drop (i + 1))) rfl rfl rfl (run_slL (k1 := .i64) (l := sx) (r := (sx.drop (i + 1))) (i := (i + 1)) rfl Tryd.underlying9 (by kernel_rfl) (by kernel_rfl) (by first | omega | (simp; omega)) rfl) ?_
                  refine vp (i := 9) (v := strV (((sx.take i) ++ [UInt8.ofNat q]) ++ (sx.drop (i + 1)))) rfl rfl rfl (run_bin rfl (vx := strV ((sx.take i) ++ [UInt8.ofNat q])) (vy := strV (sx.drop (i + 1))) (by kernel_rfl) (by kernel_rfl) fun w => bs_add (c := (((sx.take i) ++ [UInt8.ofNat q]) ++ (sx.drop (i + 1)))) rfl (by first | omega | (simp; omega)) w) ?_
                  refine vv (i := 10) (v := .bool true) rfl rfl rfl (yb_call (f := 10) (args := #[strV (((sx.take i) ++ [UInt8.ofNat q]) ++ (sx.drop (i + 1)))]) (fun _ => by kernel_rfl) fun W hW => tells_any (((sx.take i) ++ [UInt8.ofNat q]) ++ (sx.drop (i + 1))) W (HE.out.keep hW.1)) ?_
                  refine vm (i := 11) (v := .bool false) rfl rfl rfl ?_
                  refine vm (i := 12) (v := .bool false) rfl rfl rfl ?_
                  refine vm (i := 13) (v := strV sx) rfl rfl rfl ?_
                  refine vm (i := 14) (v := .int .i64 ((i : Nat) : Int)) rfl rfl rfl ?_
                  refine vp (i := 15) (v := strV (sx.take i)) rfl rfl rfl (run_slH (k2 := .i64) (l := sx) (r := (sx.take i)) (j := i) rfl Tryd.underlying9 (by kernel_rfl) (by kernel_rfl) (by first | omega | (simp; omega)) rfl) ?_
                  refine vm (i := 16) (v := strV [UInt8.ofNat q]) rfl rfl rfl ?_
                  refine vp (i := 17) (v := strV ((sx.take i) ++ [UInt8.ofNat q])) rfl rfl rfl (run_bin rfl (vx := strV (sx.take i)) (vy := strV [UInt8.ofNat q]) (by kernel_rfl) (by kernel_rfl) fun w => bs_add (c := ((sx.take i) ++ [UInt8.ofNat q])) rfl (by first | omega | (simp; omega)) w) ?_
                  refine vm (i := 18) (v := strV sx) rfl rfl rfl ?_
                  refine vm (i := 19) (v := .int .i64 ((i : Nat) : Int)) rfl rfl rfl ?_
                  refine vp (i := 20) (v := strV (sx.drop i)) rfl rfl rfl (run_slL (k1 := .i64) (l := sx) (r := (sx.drop i)) (i := i) rfl Tryd.underlying9 (by kernel_rfl) (by kernel_rfl) (by first | omega | (simp; omega)) rfl) ?_
                  refine vp (i := 21) (v := strV (((sx.take i) ++ [UInt8.ofNat q]) ++ (sx.drop i))) rfl rfl rfl (run_bin rfl (vx := strV ((sx.take i) ++ [UInt8.ofNat q])) (vy := strV (sx.drop i)) (by kernel_rfl) (by kernel_rfl) fun w => bs_add (c := (((sx.take i) ++ [UInt8.ofNat q]) ++ (sx.drop i))) rfl (by first | omega | (simp; omega)) w) ?_
                  refine vv (i := 22) (v := .bool true) rfl rfl rfl (yb_call (f := 10) (args := #[strV (((sx.take i) ++ [UInt8.ofNat q]) ++ (sx.drop i))]) (fun _ => by kernel_rfl) fun W hW => tells_any (((sx.take i) ++ [UInt8.ofNat q]) ++ (sx.drop i)) W (HE.out.keep hW.1)) ?_
                  refine vm (i := 23) (v := .bool false) rfl rfl rfl ?_
                  refine vm (i := 24) (v := .bool false) rfl rfl rfl ?_
                  refine vm (i := 25) (v := .bool false) rfl rfl rfl ?_
                  refine vm (i := 26) (v := strV sx) rfl rfl rfl ?_
                  refine vm (i := 27) (v := .int .i64 ((i : Nat) : Int)) rfl rfl rfl ?_
                  refine vp (i := 28) (v := strV (sx.take i)) rfl rfl rfl (run_slH (k2 := .i64) (l := sx) (r := (sx.take i)) (j := i) rfl Tryd.underlying9 (by kernel_rfl) (by kernel_rfl) (by first | omega | (simp; omega)) rfl) ?_
                  refine vm (i := 29) (v := strV [UInt8.ofNat q]) rfl rfl rfl ?_
                  refine vp (i := 30) (v := strV ((sx.take i) ++ [UInt8.ofNat q])) rfl rfl rfl (run_bin rfl (vx := strV (sx.take i)) (vy := strV [UInt8.ofNat q]) (by kernel_rfl) (by kernel_rfl) fun w => bs_add (c := ((sx.take i) ++ [UInt8.ofNat q])) rfl (by first | omega | (simp; omega)) w) ?_
                  refine vv (i := 31) (v := .bool true) rfl rfl rfl (yb_call (f := 10) (args := #[strV ((sx.take i) ++ [UInt8.ofNat q])]) (fun _ => by kernel_rfl) fun W hW => tells_any ((sx.take i) ++ [UInt8.ofNat q]) W (HE.out.keep hW.1)) ?_
                  refine vm (i := 32) (v := .bool false) rfl rfl rfl ?_
                  refine vm (i := 33) (v := .bool false) rfl rfl rfl ?_
                  refine wpV_done (by kernel_rfl) (fun W38 hW38 => ?_) _
                  refine (show Code.wp _ _ _ _ _ from ?_)
                  refine wp_cond_false rfl ?_
                  refine wp_skip ?_
                  refine (show Code.wp _ _ _ _ _ from ?_)
                  refine wp_region_L (W0 := w) [(g8, .cells #[.int .u8 ((q : Nat) : Int)] 5 (0, 0)), (g1, .cells #[strV [67, 83, 81, 85, 51, 48, 53, 52, 51, 56, 51], strV [65, 65, 65, 85, 48, 48, 48, 48, 48, 48, 48], strV [90, 90, 90, 90, 57, 57, 57, 57, 57, 57, 57], strV [75, 85, 76, 74, 49, 50, 51, 52, 53, 54, 48], strV [72, 76, 88, 85, 50, 48, 48, 48, 48, 48, 53]] 9 (0, 0))] (hW38) ?_
                  refine lm (v := .int .i64 ((q : Nat) : Int)) rfl rfl ?_
                  refine lp (v := .int .i64 (((q + 1) : Nat) : Int)) rfl rfl (run_bin rfl (vx := (.int .i64 ((q : Nat) : Int))) (vy := (.int .i64 ((1 : Nat) : Int))) (by kernel_rfl) (by kernel_rfl) fun w => bn_add (z := (q + 1)) rfl (wr_i64 (by omega)) w) ?_
                  refine lm (v := .int .i64 (((q + 1) : Nat) : Int)) rfl rfl ?_
                  refine wpL_done (fun W39 hW39 => ?_)
                  go_roundw
                  case rel =>
                    repeat apply Exists.intro
                    exact ⟨⟨q + 1, (by omega), rfl, (hW39.sub (fun p hp => (.tail _ hp)))⟩, rfl⟩
                  case measure => (show 256 - (intOf (.int .i64 (((q + 1) : Nat) : Int))).toNat < 256 - (intOf (.int .i64 ((q : Nat) : Int))).toNat); simp only [intOf]; omega
    | true =>
      have h1 : bb < 256 := of_decide_eq_true hd1
      clear hd1
      obtain ⟨c, hc⟩ := byte_of h1
      refine wp_cond_true rfl ?_
      refine wp_skip ?_
      refine (show Code.wp _ _ _ _ _ from ?_)
      refine wp_seq ?_
      refine wp_block ?_
      refine wp_seq ?_
      refine wp_region_L (W0 := w) [] (hW4) ?_
      refine lm (v := .int .i64 ((bb : Nat) : Int)) rfl rfl ?_
      refine lp (v := .int .u8 ((bb : Nat) : Int)) rfl rfl (run_conv rfl (vx := (.int .i64 ((bb : Nat) : Int))) (by kernel_rfl) fun w => cv_int Tryd.underlying3 Tryd.underlying5 (wr_u8 (by omega)) w) ?_
      refine lv (v := .tuple #[.int .i64 (((vN c) : Nat) : Int), .bool (isDig c || isCap c)]) rfl rfl (yb_call (f := 14) (args := #[.int .u8 ((bb : Nat) : Int)]) (fun _ => by kernel_rfl) fun W hW => (by have h := Value_any c W; rw [hc] at h; exact h)) ?_
      refine lm (v := .tuple #[.int .i64 (((vN c) : Nat) : Int), .bool (isDig c || isCap c)]) rfl rfl ?_
      refine lm (v := .int .i64 (((vN c) : Nat) : Int)) rfl rfl ?_
      refine lm (v := .bool (isDig c || isCap c)) rfl rfl ?_
      refine lm (v := .int .i64 (((vN c) : Nat) : Int)) rfl rfl ?_
      refine lm (v := .bool (isDig c || isCap c)) rfl rfl ?_
      refine wpL_done (fun W40 hW40 => ?_)
      refine (show Code.wp _ _ _ _ _ from ?_)
      refine wp_seq ?_
      refine wp_region_L (W0 := w) [] (hW40) ?_
      refine lm (v := .int .i64 ((bb : Nat) : Int)) rfl rfl ?_
      refine lp (v := .int .u8 ((bb : Nat) : Int)) rfl rfl (run_conv rfl (vx := (.int .i64 ((bb : Nat) : Int))) (by kernel_rfl) fun w => cv_int Tryd.underlying3 Tryd.underlying5 (wr_u8 (by omega)) w) ?_
      refine lv (v := .tuple #[.int .i64 (((vN c) : Nat) : Int), .bool (isDig c || isCap c)]) rfl rfl (yb_call (f := 15) (args := #[.int .u8 ((bb : Nat) : Int)]) (fun _ => by kernel_rfl) fun W hW => (by have h := RValue_any c W; rw [hc] at h; exact h)) ?_
      refine lm (v := .tuple #[.int .i64 (((vN c) : Nat) : Int), .bool (isDig c || isCap c)]) rfl rfl ?_
      refine lm (v := .int .i64 (((vN c) : Nat) : Int)) rfl rfl ?_
      refine lm (v := .bool (isDig c || isCap c)) rfl rfl ?_
      refine lm (v := .int .i64 (((vN c) : Nat) : Int)) rfl rfl ?_
      refine lm (v := .bool (isDig c || isCap c)) rfl rfl ?_
      refine wpL_done (fun W41 hW41 => ?_)
      refine (show Code.wp _ _ _ _ _ from ?_)
      refine wp_seq ?_
      refine wp_region_L (W0 := w) [] (hW41) ?_
      refine lm (v := .int .i64 (((vN c) : Nat) : Int)) rfl rfl ?_
      refine lm (v := .int .i64 (((vN c) : Nat) : Int)) rfl rfl ?_
      refine lp (v := .bool false) rfl rfl (run_bin rfl (vx := (.int .i64 (((vN c) : Nat) : Int))) (vy := (.int .i64 (((vN c) : Nat) : Int))) (by kernel_rfl) (by kernel_rfl) fun w => bn_neq (decide_eq_true rfl) w) ?_
      refine lm (v := .bool false) rfl rfl ?_
      refine lm (v := .bool (isDig c || isCap c)) rfl rfl ?_
      refine lm (v := .bool (isDig c || isCap c)) rfl rfl ?_
      cases h9 : (isDig c || isCap c) with
      | false =>
        refine lm (v := .bool false) rfl rfl ?_
        refine lm (v := .bool false) rfl rfl ?_
        refine lm (v := .bool false) rfl rfl ?_
        refine lm (v := .int .i64 ((bb : Nat) : Int)) rfl rfl ?_
        refine lp (v := .int .u8 ((bb : Nat) : Int)) rfl rfl (run_conv rfl (vx := (.int .i64 ((bb : Nat) : Int))) (by kernel_rfl) fun w => cv_int Tryd.underlying3 Tryd.underlying5 (wr_u8 (by omega)) w) ?_
        refine lm (v := .agg #[.int .u8 ((bb : Nat) : Int), .bool false, .bool false]) rfl rfl ?_
        refine lv (v := .bool true) rfl rfl (yb_call (f := 13) (args := #[.agg #[.int .u8 ((bb : Nat) : Int), .bool false, .bool false]]) (fun _ => by kernel_rfl) fun W hW => coded_any bb false false W (HE.out.keep hW.1)) ?_
        refine lm (v := .bool false) rfl rfl ?_
        refine lm (v := .bool false) rfl rfl ?_
        refine lm (v := .bool false) rfl rfl ?_
        refine lm (v := .int .i64 ((bb : Nat) : Int)) rfl rfl ?_
        refine lp (v := .int .u8 ((bb : Nat) : Int)) rfl rfl (run_conv rfl (vx := (.int .i64 ((bb : Nat) : Int))) (by kernel_rfl) fun w => cv_int Tryd.underlying3 Tryd.underlying5 (wr_u8 (by omega)) w) ?_
        refine lm (v := .int .i64 ((bb : Nat) : Int)) rfl rfl ?_
        refine lp (v := .int .i64 (((bb % 2) : Nat) : Int)) rfl rfl (run_bin rfl (vx := (.int .i64 ((bb : Nat) : Int))) (vy := (.int .i64 ((2 : Nat) : Int))) (by kernel_rfl) (by kernel_rfl) fun w => bn_rem (z := (bb % 2)) rfl (by omega) w) ?_
        refine lp (v := .bool (decide ((bb % 2) = 1))) rfl rfl (run_bin rfl (vx := (.int .i64 (((bb % 2) : Nat) : Int))) (vy := (.int .i64 ((1 : Nat) : Int))) (by kernel_rfl) (by kernel_rfl) fun w => bn_eql rfl w) ?_
        refine lm (v := .agg #[.int .u8 ((bb : Nat) : Int), .bool true, .bool (decide ((bb % 2) = 1))]) rfl rfl ?_
        refine lv (v := .bool true) rfl rfl (yb_call (f := 13) (args := #[.agg #[.int .u8 ((bb : Nat) : Int), .bool true, .bool (decide ((bb % 2) = 1))]]) (fun _ => by kernel_rfl) fun W hW => coded_any bb true (decide ((bb % 2) = 1)) W (HE.out.keep hW.1)) ?_
        refine lm (v := .bool false) rfl rfl ?_
        refine lm (v := .bool false) rfl rfl ?_
        refine lm (v := .bool false) rfl rfl ?_
        refine lm (v := .int .i64 ((bb : Nat) : Int)) rfl rfl ?_
        refine lp (v := .int .u8 ((bb : Nat) : Int)) rfl rfl (run_conv rfl (vx := (.int .i64 ((bb : Nat) : Int))) (by kernel_rfl) fun w => cv_int Tryd.underlying3 Tryd.underlying5 (wr_u8 (by omega)) w) ?_
        refine lm (v := .agg #[.int .u8 ((bb : Nat) : Int), .bool false, .bool true]) rfl rfl ?_
        refine lv (v := .bool true) rfl rfl (yb_call (f := 13) (args := #[.agg #[.int .u8 ((bb : Nat) : Int), .bool false, .bool true]]) (fun _ => by kernel_rfl) fun W hW => coded_any bb false true W (HE.out.keep hW.1)) ?_
        refine lm (v := .bool false) rfl rfl ?_
        refine lm (v := .bool false) rfl rfl ?_
        refine wpL_done (fun W42 hW42 => ?_)
        refine (show Code.wp _ _ _ _ _ from ?_)
        refine wp_cond_false rfl ?_
        refine wp_skip ?_
        refine (show Code.wp _ _ _ _ _ from ?_)
        refine wp_region_L (W0 := w) [] (hW42) ?_
        refine lm (v := .int .i64 ((bb : Nat) : Int)) rfl rfl ?_
        refine lp (v := .int .i64 (((bb + 1) : Nat) : Int)) rfl rfl (run_bin rfl (vx := (.int .i64 ((bb : Nat) : Int))) (vy := (.int .i64 ((1 : Nat) : Int))) (by kernel_rfl) (by kernel_rfl) fun w => bn_add (z := (bb + 1)) rfl (wr_i64 (by omega)) w) ?_
        refine lm (v := .int .i64 (((bb + 1) : Nat) : Int)) rfl rfl ?_
        refine wpL_done (fun W43 hW43 => ?_)
        go_roundw
        case rel =>
          repeat apply Exists.intro
          exact ⟨⟨bb + 1, (by omega), rfl, hW43⟩, rfl⟩
        case measure => (show 256 - (intOf (.int .i64 (((bb + 1) : Nat) : Int))).toNat < 256 - (intOf (.int .i64 ((bb : Nat) : Int))).toNat); simp only [intOf]; omega
      | true =>
        refine lm (v := .bool false) rfl rfl ?_
        refine lm (v := .bool false) rfl rfl ?_
        refine lm (v := .bool false) rfl rfl ?_
        refine lm (v := .int .i64 ((bb : Nat) : Int)) rfl rfl ?_
        refine lp (v := .int .u8 ((bb : Nat) : Int)) rfl rfl (run_conv rfl (vx := (.int .i64 ((bb : Nat) : Int))) (by kernel_rfl) fun w => cv_int Tryd.underlying3 Tryd.underlying5 (wr_u8 (by omega)) w) ?_
        refine lm (v := .agg #[.int .u8 ((bb : Nat) : Int), .bool false, .bool false]) rfl rfl ?_
        refine lv (v := .bool true) rfl rfl (yb_call (f := 13) (args := #[.agg #[.int .u8 ((bb : Nat) : Int), .bool false, .bool false]]) (fun _ => by kernel_rfl) fun W hW => coded_any bb false false W (HE.out.keep hW.1)) ?_
        refine lm (v := .bool false) rfl rfl ?_
        refine lm (v := .bool false) rfl rfl ?_
        refine lm (v := .bool false) rfl rfl ?_
        refine lm (v := .int .i64 ((bb : Nat) : Int)) rfl rfl ?_
        refine lp (v := .int .u8 ((bb : Nat) : Int)) rfl rfl (run_conv rfl (vx := (.int .i64 ((bb : Nat) : Int))) (by kernel_rfl) fun w => cv_int Tryd.underlying3 Tryd.underlying5 (wr_u8 (by omega)) w) ?_
        refine lm (v := .int .i64 ((bb : Nat) : Int)) rfl rfl ?_
        refine lp (v := .int .i64 (((bb % 2) : Nat) : Int)) rfl rfl (run_bin rfl (vx := (.int .i64 ((bb : Nat) : Int))) (vy := (.int .i64 ((2 : Nat) : Int))) (by kernel_rfl) (by kernel_rfl) fun w => bn_rem (z := (bb % 2)) rfl (by omega) w) ?_
        refine lp (v := .bool (decide ((bb % 2) = 1))) rfl rfl (run_bin rfl (vx := (.int .i64 (((bb % 2) : Nat) : Int))) (vy := (.int .i64 ((1 : Nat) : Int))) (by kernel_rfl) (by kernel_rfl) fun w => bn_eql rfl w) ?_
        refine lm (v := .agg #[.int .u8 ((bb : Nat) : Int), .bool true, .bool (decide ((bb % 2) = 1))]) rfl rfl ?_
        refine lv (v := .bool true) rfl rfl (yb_call (f := 13) (args := #[.agg #[.int .u8 ((bb : Nat) : Int), .bool true, .bool (decide ((bb % 2) = 1))]]) (fun _ => by kernel_rfl) fun W hW => coded_any bb true (decide ((bb % 2) = 1)) W (HE.out.keep hW.1)) ?_
        refine lm (v := .bool false) rfl rfl ?_
        refine lm (v := .bool false) rfl rfl ?_
        refine lm (v := .bool false) rfl rfl ?_
        refine lm (v := .int .i64 ((bb : Nat) : Int)) rfl rfl ?_
        refine lp (v := .int .u8 ((bb : Nat) : Int)) rfl rfl (run_conv rfl (vx := (.int .i64 ((bb : Nat) : Int))) (by kernel_rfl) fun w => cv_int Tryd.underlying3 Tryd.underlying5 (wr_u8 (by omega)) w) ?_
        refine lm (v := .agg #[.int .u8 ((bb : Nat) : Int), .bool false, .bool true]) rfl rfl ?_
        refine lv (v := .bool true) rfl rfl (yb_call (f := 13) (args := #[.agg #[.int .u8 ((bb : Nat) : Int), .bool false, .bool true]]) (fun _ => by kernel_rfl) fun W hW => coded_any bb false true W (HE.out.keep hW.1)) ?_
        refine lm (v := .bool false) rfl rfl ?_
        refine lm (v := .bool false) rfl rfl ?_
        refine wpL_done (fun W44 hW44 => ?_)
        refine (show Code.wp _ _ _ _ _ from ?_)
        refine wp_cond_false rfl ?_
        refine wp_skip ?_
        refine (show Code.wp _ _ _ _ _ from ?_)
        refine wp_region_L (W0 := w) [] (hW44) ?_
        refine lm (v := .int .i64 ((bb : Nat) : Int)) rfl rfl ?_
        refine lp (v := .int .i64 (((bb + 1) : Nat) : Int)) rfl rfl (run_bin rfl (vx := (.int .i64 ((bb : Nat) : Int))) (vy := (.int .i64 ((1 : Nat) : Int))) (by kernel_rfl) (by kernel_rfl) fun w => bn_add (z := (bb + 1)) rfl (wr_i64 (by omega)) w) ?_
        refine lm (v := .int .i64 (((bb + 1) : Nat) : Int)) rfl rfl ?_
        refine wpL_done (fun W45 hW45 => ?_)
        go_roundw
        case rel =>
          repeat apply Exists.intro
          exact ⟨⟨bb + 1, (by omega), rfl, hW45⟩, rfl⟩
        case measure => (show 256 - (intOf (.int .i64 (((bb + 1) : Nat) : Int))).toNat < 256 - (intOf (.int .i64 ((bb : Nat) : Int))).toNat); simp only [intOf]; omega
end Go.Proofs.YtbceajgipmjmlaaDoor
/- IsoSmall holds for every input: the program's own answer is true, wherever the listed variables are as the program's text lays them; each argument reads afterwards as it read before. -/
namespace Go.Proofs.YtbceajgipmjmlaaDoor
open Go.ChangeShapes Go.WideShapes Go.ChangeAt Go.RowKit Tw
set_option maxRecDepth 100000 in
theorem isoSmall_lifted (os : Os) (started : os.Started) (H : Type) (enc : TypeId × Value → H) :
    ReturnsInHanded {} Tryd.checked os 5 .any (fun w args => (Rows.isoSmallSpec.pre enc Tryd.prog Tryd.f5 Rows.isoSmallRow.domain false w args ∧ laidMetH Tryd.prog laidN w) ∧ sizedMet enc Tryd.prog Tryd.f5 (OpenSpec.ofChange Rows.isoSmallSpec) false w args) (Rows.isoSmallSpec.post enc Tryd.prog Tryd.f5 false true false false) := by
  refine handed_and_sized (C := Tryd.checked) (X := fun w => laidMetH Tryd.prog laidN w) (fun _ _ hh h => h.of_heap hh) own started (by kernel_rfl) Tryd.func5
    (ChangeSpec.witness_shaped (enc := enc) (C := Tryd.checked) (os := os) (X := fun w _ => laidMetH Tryd.prog laidN w) false (World.doorLaid Tryd.prog 1000 os) #[] 8 rfl (World.shaped_of_RefB (by kernel_rfl) (by kernel_rfl)) (by kernel_rfl) (by kernel_rfl) (by kernel_rfl) (door_met os _)) ?_
  intro W base args ds gs before hval0 hW hL hsh hsz
  have hval : ∀ (j : Nat) t v, Tryd.f5.params[j]? = some t → args[j]? = some v → Value.okWide Tryd.prog W .any base t v := hval0
  have hW2 := hW
  obtain ⟨p, q, hA0, hV, rfl, hfz, hnd⟩ := hW2
  have hA : DataW.TrodAll enc Tryd.prog W 0 (fun _ => true) true Tryd.f5.params.toList args.toList ds p := hA0
  rw [Tryd.params5] at hA hval
  obtain ⟨hargs, rfl, rfl⟩ := trodAll_nil hA
  obtain rfl : args = #[] := by cases args; simp_all
  obtain ⟨rfl, rfl⟩ := trodVars_none hV
  clear hA0 hval0
  simp only [List.append_nil] at hW
  refine (IsoSmall_law W (env_of hL) ).mono fun e W' ⟨he, bel⟩ => ?_
  subst he
  exact ⟨_, rfl, _, _, _, [], [], [], hW, (trodAll_cons_mk (shut_bool Tryd.underlying4 _) trodAll_mk0), trodAll_mk0, rfl, bel.frame _, fun h => by cases h⟩
theorem isoSmall_said : Rows.IsoSmallSaid :=
  OpenClaim.holds_of_wide 5 Tryd.f5 rfl rfl rfl rfl rfl rfl rfl ⟨rfl, rfl, rfl, rfl, rfl⟩ rfl rfl rfl rfl rfl (by kernel_rfl) Tryd.func5 (by kernel_rfl)
    (of_decide_eq_true (by kernel_rfl)) (by unfold Func.isWrapper; first | (rw [if_pos (by decide +kernel)]; kernel_rfl) | (rw [if_neg (by decide +kernel)]; exact ⟨rfl, rfl⟩))
    (fun os started H enc _ => isoSmall_lifted os started H enc)
theorem isoSmall_proved : Rows.IsoSmallCardSaid :=
  Claim7.holds_tied_plain_at .later [] [.data] true Rows.isoSmallCard.stood.harness Rows.isoSmallCard.stood.looks
    isoSmall_said (fun _ h => by cases h) (by kernel_rfl) (fun _ h => by cases h) isoSmall_row_tie rfl ⟨rfl, rfl⟩ (by kernel_rfl) rfl
    (fun f fn hf hfn => by
      obtain rfl : f = 5 := Option.some.inj ((show Tryd.prog.funcNamed "twistlock/twistlocklaw03.IsoSmall" = some 5 by kernel_rfl).symm.trans hf) |>.symm
      obtain rfl : fn = Tryd.f5 := (Option.some.inj (Tryd.func5.symm.trans hfn)).symm
      exact ⟨by kernel_rfl, fun j t ht => by
        rw [Tryd.params5] at ht
        simp at ht⟩)
    (by kernel_rfl)
#print axioms isoSmall_proved
end Go.Proofs.YtbceajgipmjmlaaDoor

import Derived.Test.YtalmflgkbmnghaaGreatDoorRM00
import Derived.Test.YtalmflgkbmnghaaGreatDoorZCc03
import Derived.Test.YtalmflgkbmnghaaGreatDoorZCc04
import Derived.Test.YtalmflgkbmnghaaGreatDoorRM03
/- Part of the proof: YE, YO, YP, YQ0. -/
set_option linter.unusedVariables false
set_option linter.unusedSimpArgs false
set_option linter.unusedSectionVars false
namespace Go.Proofs.YtalmflgkbmnghaaGreatDoor
open Go Go.RowKit Tw Tf
variable [ShLZ]
variable [ShSt]
def decP (m : Nat) : List UInt8 := if m = 0 then [] else Lib.decDigits m
theorem decP_pos {m : Nat} (h : 0 < m) : decP m = Lib.decDigits m := if_neg Tw.om
theorem decP_step {m : Nat} (h : 0 < m) : decP m = decP (m / 10) ++ [UInt8.ofNat (48 + m % 10)] := by
 rw [decP_pos h]
 rcases Nat.lt_or_ge m 10 with h1 | h1
 · rw [dec_small h1, Nat.div_eq_of_lt h1, Nat.mod_eq_of_lt h1]; rfl
 · rw [dec_big h1, decP_pos Tw.om]
def DecI (N m : Nat) (s : List UInt8) : Prop := (s = [] ∧ m = N) ∨ (s ≠ [] ∧ decP m ++ s = Lib.decDigits N)
theorem DecI.step {N m : Nat} {s : List UInt8} {c : UInt8} (h : DecI N m s) (hr : 0 < m ∨ s = []) (hc : c = UInt8.ofNat (48 + m % 10)) : DecI N (m / 10) ([c] ++ s) := by
 subst hc
 right
 refine ⟨by simp, ?_⟩
 rcases Nat.eq_zero_or_pos m with h0 | h0
 · subst h0
   rcases h with ⟨h1, h2⟩ | ⟨h1, h2⟩
   · subst h1 h2; rw [dec_small Tw.om]; rfl
   · rcases hr with h3 | h3
     · omega
     · exact absurd h3 h1
 · rw [← List.append_assoc, ← decP_step h0]
   rcases h with ⟨h1, h2⟩ | ⟨h1, h2⟩
   · subst h1 h2; rw [decP_pos h0, List.append_nil]
   · exact h2
theorem DecI.end {N m : Nat} {s : List UInt8} (h : DecI N m s) (h1 : ¬ 0 < m) (h2 : ¬ s = []) : s = Lib.decDigits N := by
 rcases h with ⟨h3, _⟩ | ⟨_, h4⟩
 · exact absurd h3 h2
 · rw [← h4, show m = 0 from by omega]; rfl
theorem DecI.len {N m : Nat} {s : List UInt8} (h : DecI N m s) : s.length ≤ (Lib.decDigits N).length := by
 rcases h with ⟨h3, _⟩ | ⟨_, h4⟩
 · subst h3; simp
 · rw [← h4]; simp
theorem decV_mono (l : List UInt8) : ∀ (j k : Nat), k ≤ l.length → decV (l.take (k - j)) ≤ decV (l.take k)
 | 0, k, _ => Nat.le_refl _
 | j + 1, k, h => by
   rcases Nat.lt_or_ge j k with h1 | h1
   · obtain ⟨b, hb⟩ : ∃ b, l[k - 1]? = some b := ⟨_, List.getElem?_eq_getElem Tw.om⟩
     have e := decV_take hb
     rw [show k - 1 + 1 = k from by omega] at e
     have := decV_mono l j (k - 1) Tw.om
     rw [show k - (j + 1) = k - 1 - j from by omega]
     omega
   · rw [show k - (j + 1) = k - j from by omega]; exact decV_mono l j k h
theorem decV_pre {l : List UInt8} {i : Nat} (h : i ≤ l.length) : decV (l.take i) ≤ decV l := by
 have := decV_mono l (l.length - i) l.length (Nat.le_refl _)
 rwa [show l.length - (l.length - i) = i from by omega, List.take_length] at this
theorem decV_low : ∀ (l : List UInt8), l.all isDig = true → ∀ k, k + 1 ≤ l.length → (l.headD 0).toNat ≠ 48 → 10 ^ k ≤ decV (l.take (k + 1))
 | l, h, 0, hk, h0 => by
   obtain ⟨b, hb⟩ : ∃ b, l[0]? = some b := ⟨_, List.getElem?_eq_getElem Tw.om⟩
   rw [decV_take hb]
   have h1 := List.all_eq_true.1 h b (List.mem_of_getElem? hb)
   have h2 : l.headD 0 = b := by cases l with | nil => simp at hb | cons c r => simpa using hb
   rw [h2] at h0
   unfold isDig at h1
   simp at h1
   simp [decV]
   omega
 | l, h, k + 1, hk, h0 => by
   obtain ⟨b, hb⟩ : ∃ b, l[k + 1]? = some b := ⟨_, List.getElem?_eq_getElem Tw.om⟩
   rw [decV_take hb]
   have := decV_low l h k Tw.om h0
   rw [Nat.pow_succ]
   omega
theorem R8_lt78 : R 8 < 10 ^ 78 := by unfold R; decide
theorem pok_iff {a : List UInt8} (h : digL a = true) : pOk a = decide (decV a < R 8) := by
 unfold pOk
 rw [decide_eq_decide]
 refine ⟨fun h => h.2, fun hv => ⟨?_, hv⟩⟩
 unfold digL at h
 simp only [Bool.and_eq_true, Bool.or_eq_true, beq_iff_eq, bne_iff_ne, ne_eq] at h
 rcases h.2 with h1 | ⟨_, h1⟩
 · rw [h1]; simp
 · rcases Nat.lt_or_ge 78 a.length with h2 | h2
   · have h3 := decV_low a h.1 78 Tw.om h1
     have h4 := decV_pre (l := a) (i := 78 + 1) Tw.om
     have := R8_lt78
     omega
   · exact h2
theorem pval_ok {a : List UInt8} (h : pOk a = true) : pVal a = decV a := by unfold pVal; rw [if_pos h]
theorem dec_zero_only {a : List UInt8} (h : digL a = true) (h0 : decV a = 0) : a = [48] := by
 unfold digL at h
 simp only [Bool.and_eq_true, Bool.or_eq_true, beq_iff_eq, bne_iff_ne, ne_eq] at h
 rcases h.2 with h1 | ⟨h2, h1⟩
 · exact h1
 · exfalso
   have hl : 0 + 1 ≤ a.length := by cases a with | nil => simp at h2 | cons c r => simp
   have h3 := decV_low a h.1 0 hl h1
   have h4 := decV_pre (l := a) (i := 0 + 1) hl
   omega
theorem dig_empty : digL [] = false := by decide
theorem dig_lead {a : List UInt8} {b : UInt8} (hb : a[0]? = some b) (h : b.toNat = 48) (h1 : ¬ a = [48]) : digL a = false := by
 unfold digL
 cases a with
 | nil => simp at hb
 | cons c r =>
   simp only [List.getElem?_cons_zero, Option.some.injEq] at hb
   subst hb
   have h2 : (c :: r == [48]) = false := by simpa using h1
   rw [h2]
   simp [h]
theorem dig_bad {a : List UInt8} {i : Nat} {b : UInt8} (hb : a[i]? = some b) (h : b.toNat < 48 ∨ 57 < b.toNat) : digL a = false := by
 refine dig_all (List.mem_of_getElem? hb) ?_
 unfold isDig
 rcases h with h | h
 · have : ¬ 48 ≤ b.toNat := by omega
   simp [this]
 · have : ¬ b.toNat ≤ 57 := by omega
   simp [this]
theorem dig_good {a : List UInt8} (h0 : ¬ a = []) (h1 : (∃ b, a[0]? = some b ∧ ¬ b.toNat = 48) ∨ a = [48]) (h : ∀ (i : Nat) (b : UInt8), i < a.length → a[i]? = some b → 48 ≤ b.toNat ∧ b.toNat ≤ 57) : digL a = true := by
 have hall : a.all isDig = true := by
   rw [List.all_eq_true]
   intro b hb
   obtain ⟨i, hi⟩ := List.getElem?_of_mem hb
   have := h i b (List.getElem?_eq_some_iff.1 hi).1 hi
   unfold isDig
   simp [this.1, this.2]
 unfold digL
 rw [hall, Bool.true_and]
 rcases h1 with ⟨b, hb, hb0⟩ | h1
 · cases a with
   | nil => simp at hb
   | cons c r =>
     simp only [List.getElem?_cons_zero, Option.some.injEq] at hb
     subst hb
     simp [hb0]
 · rw [h1]; rfl
def numC (a : List UInt8) : Int := if digL a = true then (if decV a < R 8 then 0 else 2) else 1
def numN (a : List UInt8) : Nat := if digL a = true ∧ decV a < R 8 then decV a else 0
theorem num_bad {a : List UInt8} (h : digL a = false) : numC a = 1 ∧ numN a = 0 := by
 unfold numC numN
 rw [h]
 exact ⟨by simp, by simp⟩
theorem num_long {a : List UInt8} {i : Nat} (h : digL a = true) (hi : i ≤ a.length) (hl : 16 < (cd (decV (a.take i))).length) : numC a = 2 ∧ numN a = 0 := by
 have h1 : ¬ decV a < R 8 := by
   intro h2
   have h3 := decV_pre hi
   have h4 := cd_R8.2 (Nat.lt_of_le_of_lt h3 h2)
   omega
 unfold numC numN
 exact ⟨by rw [if_pos h, if_neg h1], if_neg (fun h2 => h1 h2.2)⟩
theorem num_fits {a : List UInt8} {i : Nat} (h : digL a = true) (hi : ¬ i < a.length) (hl : (cd (decV (a.take i))).length ≤ 16) : numC a = 0 ∧ numN a = decV (a.take i) := by
 rw [List.take_of_length_le Tw.om] at hl ⊢
 have h1 := cd_R8.1 hl
 unfold numC numN
 exact ⟨by rw [if_pos h, if_pos h1], if_pos ⟨h, h1⟩⟩
end Go.Proofs.YtalmflgkbmnghaaGreatDoor
namespace Go.Proofs.YtalmflgkbmnghaaGreatDoor
open Go Go.RowKit Tw
open Tf (dg R R_pos R_le R_succ dg_of_lt setd setd_eq)
variable [ShLZ]
variable [ShSt]
theorem cd_10 : cd 10 = [10] := by rw [cd_pos (by decide), show 10 / 65536 = 0 from by decide, cd_zero]
theorem rdiv_ten (a : Nat) (p q : Option Addr) (c d : Nat) (la : (cd a).length ≤ 90000) (hc : (cd a).length ≤ c) (w : World) (hp : SLV w p (nums (cd a))) (hq : SLV w q (nums [10])) : Calls Tryz.prog 61 #[.slice p (cd a).length c, .slice q 1 d] w fun e w' => Ans2 w (cd (a / 10)) (cd (a % 10)) e w' := by
 have h := div_any a 10 p q c d (by decide) la hc w hp (by rw [cd_10]; exact hq)
 rw [cd_10] at h
 exact h
theorem first_dig {y x : Nat} (hy : y < 10) (h : (cd y)[0]? = some x) : x = y := by
 rcases Nat.eq_zero_or_pos y with rfl | h0
 · simp [cd_zero] at h
 · rw [cd_pos h0] at h
   simp only [List.getElem?_cons_zero, Option.some.injEq] at h
   omega
def strZ : Value → Nat
 | .string b => if b.size = 0 then 1 else 0
 | _ => 0
theorem strZ_nil : strZ (strV []) = 1 := rfl
theorem strZ_cons (b : UInt8) (l : List UInt8) : strZ (strV ([b] ++ l)) = 0 := by
 show (if ([b] ++ l).toArray.size = 0 then 1 else 0) = 0
 rw [if_neg (by simp)]
theorem dec_less {m : Nat} {ss : List UInt8} (h : 0 < m ∨ ss = []) : m / 10 * 2 + 0 < m * 2 + strZ (strV ss) := by
 rcases h with h | h
 · omega
 · subst h; rw [strZ_nil]; omega
set_option maxRecDepth 100000 in
set_option maxHeartbeats 20000000 in
theorem rdecimal_any (n : Nat) (p : Option Addr) (c : Nat) (hn : n < R 8) (hc : (cd n).length ≤ c) (w : World) (hp : SLV w p (nums (cd n))) : Calls Tryz.prog 63 #[.slice p (cd n).length c] w fun e w' => e = .returned (strV (Lib.decDigits n)) ∧ Below w.heap.size w w' := by
 have HP : NS (w : Base) p (cd n) [] := NS.base hp
 clear hp
 have lnn := cd_16 hn
 have hl78 := dec_len78 hn
 go_enter Tryz.func63, Tryz.ntmps63
 refine wp_seq ?_
 refine wp_region_L [] (KS.start w) ?_
 refine Tw.mm (strV []) ?_
 refine wpL_done (fun W1 hW1 => ?_)
 change Code.wp ..
 refine wp_seq ?_
 refine wp_region_L _ hW1 ?_
 refine Tw.mm (strV []) ?_
 refine wpL_done (fun W2 hW2 => ?_)
 change Code.wp ..
 refine wp_seq ?_
 refine wp_block ?_
 go_loopw [0, 3] (fun u0 u3 wr => ∃ (m : Nat) (ss : List UInt8) (po : Option Addr) (co : Nat) (Kt : List (Nat × Obj)), (NS (w : Base) po (cd m) Kt) ∧ ((cd m).length ≤ co) ∧ (DecI n m ss) ∧ (m ≤ n) ∧ u0 = .slice po ((cd m).length) co ∧ u3 = strV ss ∧ KS w Kt wr) (fun u0 u3 wz => valOf wz u0 * 2 + strZ u3)
 case atStart => exact ⟨n, [], p, c, [], HP, hc, (.inl ⟨rfl, rfl⟩), (Nat.le_refl _), rfl, rfl, (hW2.sub Tw.sb)⟩
 case round =>
   obtain ⟨m, ss, po, co, Kt, HO, hco, hD, hmn, rfl, rfl, hL3⟩ := hrel
   have lsn := hD.len
   have lcm : (cd m).length ≤ 16 := cd_16 (Nat.lt_of_le_of_lt hmn hn)
   refine wp_seq ?_
   refine wp_seq ?_
   refine wp_region_L _ hL3 ?_
   refine Tw.mm (.slice po ((cd m).length) co) ?_
   refine Tw.lp (v := .int .i64 ((((cd m).length) : Nat) : Int)) rfl rfl (run_lenL (p := po) (cap := co) (n := ((cd m).length)) rfl Tryz.underlying32 Tw.kr) ?_
   refine Tw.lp (v := .bool (decide (0 < ((cd m).length)))) rfl rfl (run_bin rfl (vx := (.int .i64 ((((cd m).length) : Nat) : Int))) (vy := (.int .i64 ((0 : Nat) : Int))) Tw.kr Tw.kr fun w => bn_gtr rfl w) ?_
   refine Tw.mm (.bool (decide (0 < ((cd m).length)))) ?_
   cases hd1 : (decide (0 < ((cd m).length))) with
   | false =>
     have h1 : ¬ (0 < ((cd m).length)) := of_decide_eq_false hd1
     clear hd1
     refine Tw.mm (strV ss) ?_
     refine Tw.lp (v := .bool (decide (ss = []))) rfl rfl (run_bin rfl (vx := strV ss) (vy := strV []) Tw.kr Tw.kr fun w => bs_eql rfl w) ?_
     refine Tw.mm (.bool (decide (ss = []))) ?_
     refine wpL_done (fun W4 hW4 => ?_)
     change Code.wp ..
     cases hd2 : (decide (ss = [])) with
     | false =>
       have h2 : ¬ (ss = []) := of_decide_eq_false hd2
       clear hd2
       refine wp_cond_false rfl ?_
       refine wp_exit ?_
       change Code.wp ..
       refine wp_seq ?_
       refine wp_region_L _ hW4 ?_
       refine Tw.mm (strV ss) ?_
       refine Tw.mm (strV ss) ?_
       refine wpL_done (fun W5 hW5 => ?_)
       change Code.wp ..
       refine wp_ret ?_
       try simp only [inBlock_ret, then_ret]
       refine bodyPost_ret (v := strV ss) ?_ rfl ?_
       · kernel_rfl
       · exact ⟨(ret_v (by rw [hD.end (fun h => h1 (cd_app h)) h2])), hW5.1⟩
     | true =>
       have h2 : ss = [] := of_decide_eq_true hd2
       clear hd2
       refine wp_cond_true rfl ?_
       refine wp_skip ?_
       change Code.wp ..
       refine wp_block ?_
       refine wp_seq ?_
       refine wp_region_L _ hW4 ?_
       refine Tw.mm (.slice po ((cd m).length) co) ?_
       refine wpL_new (fun g => .slice (some ⟨g, 0, none⟩) 1 1) (obi := .cells #[.int .i64 10] 3 (0, 0)) rfl rfl Tw.kf Tw.pf fun g1 Bg1 Fg1 => ?_
       obtain dj2_0 : Dk g1 Kt := Tw.dkf Fg1
       refine wpL_c (f := 61) (args := #[.slice po ((cd m).length) co, .slice (some ⟨g1, 0, none⟩) 1 1]) (AnsW2 w ((g1, .cells #[.int .i64 10] 3 (0, 0)) :: Kt) (cd (m / 10)) (cd (m % 10))) rfl Tw.kr Tw.kf (fun W hW => (rdiv_ten m po (some ⟨g1, 0, none⟩) co 1 Tw.om hco W ((HO.mono Tw.sb) W hW) (((show NS (w : Base) (some ⟨g1, 0, none⟩) [10] [(g1, .cells #[.int .i64 10] 3 (0, 0))] from ns_blk).mono (fun q hq => by cases List.mem_singleton.1 hq; exact Tw.m0)) W hW)).mono fun e w2 h => Ans2.g h hW) Tw.pf ?_
       rintro v3 _ ⟨q3, d3, r3, g3, T3, rfl, C3, E3, H3, G3, rfl⟩
       refine Tw.mm (.tuple #[.slice q3 ((cd (m / 10)).length) d3, .slice r3 ((cd (m % 10)).length) g3]) ?_
       refine Tw.mm (.slice q3 ((cd (m / 10)).length) d3) ?_
       refine Tw.mm (.slice r3 ((cd (m % 10)).length) g3) ?_
       refine Tw.mm (.slice q3 ((cd (m / 10)).length) d3) ?_
       refine Tw.mm (.slice r3 ((cd (m % 10)).length) g3) ?_
       refine wpL_done (fun W6 hW6 => ?_)
       change Code.wp ..
       refine wp_seq ?_
       refine wp_region_L _ hW6 ?_
       refine Tw.mm (.int .i64 0) ?_
       refine wpL_done (fun W7 hW7 => ?_)
       change Code.wp ..
       refine wp_seq ?_
       refine wp_seq ?_
       refine wp_region_L _ hW7 ?_
       refine Tw.mm (.slice r3 ((cd (m % 10)).length) g3) ?_
       refine Tw.lp (v := .int .i64 ((((cd (m % 10)).length) : Nat) : Int)) rfl rfl (run_lenL (p := r3) (cap := g3) (n := ((cd (m % 10)).length)) rfl Tryz.underlying32 Tw.kr) ?_
       refine Tw.lp (v := .bool (decide (0 < ((cd (m % 10)).length)))) rfl rfl (run_bin rfl (vx := (.int .i64 ((((cd (m % 10)).length) : Nat) : Int))) (vy := (.int .i64 ((0 : Nat) : Int))) Tw.kr Tw.kr fun w => bn_gtr rfl w) ?_
       refine wpL_done (fun W8 hW8 => ?_)
       change Code.wp ..
       cases hd3 : (decide (0 < ((cd (m % 10)).length))) with
       | false =>
         have h3 : ¬ (0 < ((cd (m % 10)).length)) := of_decide_eq_false hd3
         clear hd3
         have hmz : m % 10 = 0 := cd_len0.1 Tw.om
         refine wp_cond_false rfl ?_
         refine wp_skip ?_
         change Code.wp ..
         refine wp_seq ?_
         refine wp_region_L _ hW8 ?_
         refine Tw.mm (.int .i64 0) ?_
         refine Tw.mm (.int .i64 48) ?_
         refine Tw.mm (.int .u8 48) ?_
         refine wpL_new (fun g => .slice (some ⟨g, 0, none⟩) 1 1) (obi := .cells #[.int .u8 48] 5 (0, 0)) rfl rfl Tw.kf Tw.pf fun g4 Bg4 Fg4 => ?_
         obtain ⟨dj5_0, dj5_1, dj5_2⟩ : g1 ≠ g4 ∧ Dk g4 Kt ∧ Dk g4 T3 := Tw.dkf Fg4
         refine Tw.lv (v := strV [UInt8.ofNat 48]) rfl rfl (yb_str (n := 1) (cap := 1) (l := [UInt8.ofNat 48]) rfl Tryz.underlying67 Tryz.underlying5 Tryz.underlying9 Tw.kr rfl Tw.m0 (by first | rfl | (simp [RowB, u8s]; omega))) ?_
         refine Tw.mm (strV ss) ?_
         refine Tw.lp (v := strV ([UInt8.ofNat 48] ++ ss)) rfl rfl (run_bin rfl (vx := strV [UInt8.ofNat 48]) (vy := strV ss) Tw.kr Tw.kr fun w => bs_add (c := ([UInt8.ofNat 48] ++ ss)) rfl (by first | omega | (simp; omega)) w) ?_
         refine Tw.mm (strV ([UInt8.ofNat 48] ++ ss)) ?_
         refine wpL_done (fun W9 hW9 => ?_)
         change Code.wp ..
         refine wp_region_L _ hW9 ?_
         refine Tw.mm (.slice q3 ((cd (m / 10)).length) d3) ?_
         refine Tw.mm (.slice q3 ((cd (m / 10)).length) d3) ?_
         refine wpL_done (fun W10 hW10 => ?_)
         go_roundw
         case rel =>
           repeat apply Exists.intro
           exact ⟨⟨m / 10, ([UInt8.ofNat 48] ++ ss), q3, d3, (Kt ++ T3), (H3.mono Tw.sb), C3, (hD.step (.inr h2) (by rw [hmz])), (Nat.le_trans (Nat.div_le_self _ _) hmn), rfl, rfl, (hW10.sub Tw.sb)⟩, rfl⟩
         case measure => (show valOf _ (.slice q3 (cd (m / 10)).length d3) * 2 + strZ (strV ([UInt8.ofNat 48] ++ ss)) < valOf _ (.slice po (cd m).length co) * 2 + strZ (strV ss)); rw [valOf_eq (((H3.mono Tw.sb)) _ hW10), valOf_eq (HO _ hL3), strZ_cons]; exact dec_less (.inr h2)
       | true =>
         have h3 : 0 < ((cd (m % 10)).length) := of_decide_eq_true hd3
         clear hd3
         obtain ⟨x6, hx6⟩ : ∃ xq_, ((cd (m % 10)) : List Nat)[0]? = some xq_ := get_ex (show 0 < ((cd (m % 10)) : List Nat).length by omega)
         have lx6 : x6 < 65536 := dOk.at (cd_ok (m % 10)) hx6
         have hxx : x6 = m % 10 := first_dig (Nat.mod_lt _ Tw.om) hx6
         have lxx : x6 < 10 := by omega
         refine wp_cond_true rfl ?_
         refine wp_region_L _ hW8 ?_
         refine Tw.mm (.slice r3 ((cd (m % 10)).length) g3) ?_
         obtain ⟨b7, f7, hp7, hc7⟩ := (G3.mono Tw.sb).at hW8 (k := 0) Tw.om
         refine Tw.lp (v := .pointer (some ⟨b7, f7 + 0 * 1, none⟩)) rfl rfl (run_idxQ (p := r3) (cap := g3) (n := ((cd (m % 10)).length)) (j := .i64) (k := 0) (sz := 1) rfl Tryz.underlying32 Tw.kr Tw.kr hp7 Tw.kr Tw.om) ?_
         refine Tw.lv (v := .int .i64 ((x6 : Nat) : Int)) rfl rfl (yb_ns (off := f7 + 0 * 1) rfl Tw.kr (fun W hW => hc7 W (hW.sub Tw.sb) _ _ hx6) Tryz.underlying3 rfl) ?_
         refine Tw.mm (.int .i64 ((x6 : Nat) : Int)) ?_
         refine wpL_done (fun W11 hW11 => ?_)
         change Code.wp ..
         refine wp_seq ?_
         refine wp_region_L _ hW11 ?_
         refine Tw.mm (.int .i64 ((x6 : Nat) : Int)) ?_
         refine Tw.lp (v := .int .i64 (((48 + x6) : Nat) : Int)) rfl rfl (run_bin rfl (vx := (.int .i64 ((48 : Nat) : Int))) (vy := (.int .i64 ((x6 : Nat) : Int))) Tw.kr Tw.kr fun w => bn_add (z := (48 + x6)) rfl (wr_i64 Tw.om) w) ?_
         refine Tw.lp (v := .int .u8 (((48 + x6) : Nat) : Int)) rfl rfl (run_conv rfl (vx := (.int .i64 (((48 + x6) : Nat) : Int))) Tw.kr fun w => cv_int Tryz.underlying3 Tryz.underlying5 (wr_u8 Tw.om) w) ?_
         refine wpL_new (fun g => .slice (some ⟨g, 0, none⟩) 1 1) (obi := .cells #[.int .u8 (((48 + x6) : Nat) : Int)] 5 (0, 0)) rfl rfl Tw.kf Tw.pf fun g8 Bg8 Fg8 => ?_
         obtain ⟨dj9_0, dj9_1, dj9_2⟩ : g1 ≠ g8 ∧ Dk g8 Kt ∧ Dk g8 T3 := Tw.dkf Fg8
         refine Tw.lv (v := strV [UInt8.ofNat (48 + x6)]) rfl rfl (yb_str (n := 1) (cap := 1) (l := [UInt8.ofNat (48 + x6)]) rfl Tryz.underlying67 Tryz.underlying5 Tryz.underlying9 Tw.kr rfl Tw.m0 (by first | rfl | (simp [RowB, u8s]; omega))) ?_
         refine Tw.mm (strV ss) ?_
         refine Tw.lp (v := strV ([UInt8.ofNat (48 + x6)] ++ ss)) rfl rfl (run_bin rfl (vx := strV [UInt8.ofNat (48 + x6)]) (vy := strV ss) Tw.kr Tw.kr fun w => bs_add (c := ([UInt8.ofNat (48 + x6)] ++ ss)) rfl (by first | omega | (simp; omega)) w) ?_
         refine Tw.mm (strV ([UInt8.ofNat (48 + x6)] ++ ss)) ?_
         refine wpL_done (fun W12 hW12 => ?_)
         change Code.wp ..
         refine wp_region_L _ hW12 ?_
         refine Tw.mm (.slice q3 ((cd (m / 10)).length) d3) ?_
         refine Tw.mm (.slice q3 ((cd (m / 10)).length) d3) ?_
         refine wpL_done (fun W13 hW13 => ?_)
         go_roundw
         case rel =>
           repeat apply Exists.intro
           exact ⟨⟨m / 10, ([UInt8.ofNat (48 + x6)] ++ ss), q3, d3, (Kt ++ T3), (H3.mono Tw.sb), C3, (hD.step (.inr h2) (by rw [hxx])), (Nat.le_trans (Nat.div_le_self _ _) hmn), rfl, rfl, (hW13.sub Tw.sb)⟩, rfl⟩
         case measure => (show valOf _ (.slice q3 (cd (m / 10)).length d3) * 2 + strZ (strV ([UInt8.ofNat (48 + x6)] ++ ss)) < valOf _ (.slice po (cd m).length co) * 2 + strZ (strV ss)); rw [valOf_eq (((H3.mono Tw.sb)) _ hW13), valOf_eq (HO _ hL3), strZ_cons]; exact dec_less (.inr h2)
   | true =>
     have h1 : 0 < ((cd m).length) := of_decide_eq_true hd1
     clear hd1
     refine Tw.ln rfl ?_
     refine Tw.ln rfl ?_
     refine Tw.mm (.bool true) ?_
     refine wpL_done (fun W14 hW14 => ?_)
     change Code.wp ..
     refine wp_cond_true rfl ?_
     refine wp_skip ?_
     change Code.wp ..
     refine wp_block ?_
     refine wp_seq ?_
     refine wp_region_L _ hW14 ?_
     refine Tw.mm (.slice po ((cd m).length) co) ?_
     refine wpL_new (fun g => .slice (some ⟨g, 0, none⟩) 1 1) (obi := .cells #[.int .i64 10] 3 (0, 0)) rfl rfl Tw.kf Tw.pf fun g10 Bg10 Fg10 => ?_
     obtain dj11_0 : Dk g10 Kt := Tw.dkf Fg10
     refine wpL_c (f := 61) (args := #[.slice po ((cd m).length) co, .slice (some ⟨g10, 0, none⟩) 1 1]) (AnsW2 w ((g10, .cells #[.int .i64 10] 3 (0, 0)) :: Kt) (cd (m / 10)) (cd (m % 10))) rfl Tw.kr Tw.kf (fun W hW => (rdiv_ten m po (some ⟨g10, 0, none⟩) co 1 Tw.om hco W ((HO.mono Tw.sb) W hW) (((show NS (w : Base) (some ⟨g10, 0, none⟩) [10] [(g10, .cells #[.int .i64 10] 3 (0, 0))] from ns_blk).mono (fun q hq => by cases List.mem_singleton.1 hq; exact Tw.m0)) W hW)).mono fun e w2 h => Ans2.g h hW) Tw.pf ?_
     rintro v12 _ ⟨q12, d12, r12, g12, T12, rfl, C12, E12, H12, G12, rfl⟩
     refine Tw.mm (.tuple #[.slice q12 ((cd (m / 10)).length) d12, .slice r12 ((cd (m % 10)).length) g12]) ?_
     refine Tw.mm (.slice q12 ((cd (m / 10)).length) d12) ?_
     refine Tw.mm (.slice r12 ((cd (m % 10)).length) g12) ?_
     refine Tw.mm (.slice q12 ((cd (m / 10)).length) d12) ?_
     refine Tw.mm (.slice r12 ((cd (m % 10)).length) g12) ?_
     refine wpL_done (fun W15 hW15 => ?_)
     change Code.wp ..
     refine wp_seq ?_
     refine wp_region_L _ hW15 ?_
     refine Tw.mm (.int .i64 0) ?_
     refine wpL_done (fun W16 hW16 => ?_)
     change Code.wp ..
     refine wp_seq ?_
     refine wp_seq ?_
     refine wp_region_L _ hW16 ?_
     refine Tw.mm (.slice r12 ((cd (m % 10)).length) g12) ?_
     refine Tw.lp (v := .int .i64 ((((cd (m % 10)).length) : Nat) : Int)) rfl rfl (run_lenL (p := r12) (cap := g12) (n := ((cd (m % 10)).length)) rfl Tryz.underlying32 Tw.kr) ?_
     refine Tw.lp (v := .bool (decide (0 < ((cd (m % 10)).length)))) rfl rfl (run_bin rfl (vx := (.int .i64 ((((cd (m % 10)).length) : Nat) : Int))) (vy := (.int .i64 ((0 : Nat) : Int))) Tw.kr Tw.kr fun w => bn_gtr rfl w) ?_
     refine wpL_done (fun W17 hW17 => ?_)
     change Code.wp ..
     cases hd4 : (decide (0 < ((cd (m % 10)).length))) with
     | false =>
       have h4 : ¬ (0 < ((cd (m % 10)).length)) := of_decide_eq_false hd4
       clear hd4
       have hmz : m % 10 = 0 := cd_len0.1 Tw.om
       refine wp_cond_false rfl ?_
       refine wp_skip ?_
       change Code.wp ..
       refine wp_seq ?_
       refine wp_region_L _ hW17 ?_
       refine Tw.mm (.int .i64 0) ?_
       refine Tw.mm (.int .i64 48) ?_
       refine Tw.mm (.int .u8 48) ?_
       refine wpL_new (fun g => .slice (some ⟨g, 0, none⟩) 1 1) (obi := .cells #[.int .u8 48] 5 (0, 0)) rfl rfl Tw.kf Tw.pf fun g13 Bg13 Fg13 => ?_
       obtain ⟨dj14_0, dj14_1, dj14_2⟩ : g10 ≠ g13 ∧ Dk g13 Kt ∧ Dk g13 T12 := Tw.dkf Fg13
       refine Tw.lv (v := strV [UInt8.ofNat 48]) rfl rfl (yb_str (n := 1) (cap := 1) (l := [UInt8.ofNat 48]) rfl Tryz.underlying67 Tryz.underlying5 Tryz.underlying9 Tw.kr rfl Tw.m0 (by first | rfl | (simp [RowB, u8s]; omega))) ?_
       refine Tw.mm (strV ss) ?_
       refine Tw.lp (v := strV ([UInt8.ofNat 48] ++ ss)) rfl rfl (run_bin rfl (vx := strV [UInt8.ofNat 48]) (vy := strV ss) Tw.kr Tw.kr fun w => bs_add (c := ([UInt8.ofNat 48] ++ ss)) rfl (by first | omega | (simp; omega)) w) ?_
       refine Tw.mm (strV ([UInt8.ofNat 48] ++ ss)) ?_
       refine wpL_done (fun W18 hW18 => ?_)
       change Code.wp ..
       refine wp_region_L _ hW18 ?_
       refine Tw.mm (.slice q12 ((cd (m / 10)).length) d12) ?_
       refine Tw.mm (.slice q12 ((cd (m / 10)).length) d12) ?_
       refine wpL_done (fun W19 hW19 => ?_)
       go_roundw
       case rel =>
         repeat apply Exists.intro
         exact ⟨⟨m / 10, ([UInt8.ofNat 48] ++ ss), q12, d12, (Kt ++ T12), (H12.mono Tw.sb), C12, (hD.step (.inl (cd_pos' h1)) (by rw [hmz])), (Nat.le_trans (Nat.div_le_self _ _) hmn), rfl, rfl, (hW19.sub Tw.sb)⟩, rfl⟩
       case measure => (show valOf _ (.slice q12 (cd (m / 10)).length d12) * 2 + strZ (strV ([UInt8.ofNat 48] ++ ss)) < valOf _ (.slice po (cd m).length co) * 2 + strZ (strV ss)); rw [valOf_eq (((H12.mono Tw.sb)) _ hW19), valOf_eq (HO _ hL3), strZ_cons]; exact dec_less (.inl (cd_pos' h1))
     | true =>
       have h4 : 0 < ((cd (m % 10)).length) := of_decide_eq_true hd4
       clear hd4
       obtain ⟨x15, hx15⟩ : ∃ xq_, ((cd (m % 10)) : List Nat)[0]? = some xq_ := get_ex (show 0 < ((cd (m % 10)) : List Nat).length by omega)
       have lx15 : x15 < 65536 := dOk.at (cd_ok (m % 10)) hx15
       have hxx : x15 = m % 10 := first_dig (Nat.mod_lt _ Tw.om) hx15
       have lxx : x15 < 10 := by omega
       refine wp_cond_true rfl ?_
       refine wp_region_L _ hW17 ?_
       refine Tw.mm (.slice r12 ((cd (m % 10)).length) g12) ?_
       obtain ⟨b16, f16, hp16, hc16⟩ := (G12.mono Tw.sb).at hW17 (k := 0) Tw.om
       refine Tw.lp (v := .pointer (some ⟨b16, f16 + 0 * 1, none⟩)) rfl rfl (run_idxQ (p := r12) (cap := g12) (n := ((cd (m % 10)).length)) (j := .i64) (k := 0) (sz := 1) rfl Tryz.underlying32 Tw.kr Tw.kr hp16 Tw.kr Tw.om) ?_
       refine Tw.lv (v := .int .i64 ((x15 : Nat) : Int)) rfl rfl (yb_ns (off := f16 + 0 * 1) rfl Tw.kr (fun W hW => hc16 W (hW.sub Tw.sb) _ _ hx15) Tryz.underlying3 rfl) ?_
       refine Tw.mm (.int .i64 ((x15 : Nat) : Int)) ?_
       refine wpL_done (fun W20 hW20 => ?_)
       change Code.wp ..
       refine wp_seq ?_
       refine wp_region_L _ hW20 ?_
       refine Tw.mm (.int .i64 ((x15 : Nat) : Int)) ?_
       refine Tw.lp (v := .int .i64 (((48 + x15) : Nat) : Int)) rfl rfl (run_bin rfl (vx := (.int .i64 ((48 : Nat) : Int))) (vy := (.int .i64 ((x15 : Nat) : Int))) Tw.kr Tw.kr fun w => bn_add (z := (48 + x15)) rfl (wr_i64 Tw.om) w) ?_
       refine Tw.lp (v := .int .u8 (((48 + x15) : Nat) : Int)) rfl rfl (run_conv rfl (vx := (.int .i64 (((48 + x15) : Nat) : Int))) Tw.kr fun w => cv_int Tryz.underlying3 Tryz.underlying5 (wr_u8 Tw.om) w) ?_
       refine wpL_new (fun g => .slice (some ⟨g, 0, none⟩) 1 1) (obi := .cells #[.int .u8 (((48 + x15) : Nat) : Int)] 5 (0, 0)) rfl rfl Tw.kf Tw.pf fun g17 Bg17 Fg17 => ?_
       obtain ⟨dj18_0, dj18_1, dj18_2⟩ : g10 ≠ g17 ∧ Dk g17 Kt ∧ Dk g17 T12 := Tw.dkf Fg17
       refine Tw.lv (v := strV [UInt8.ofNat (48 + x15)]) rfl rfl (yb_str (n := 1) (cap := 1) (l := [UInt8.ofNat (48 + x15)]) rfl Tryz.underlying67 Tryz.underlying5 Tryz.underlying9 Tw.kr rfl Tw.m0 (by first | rfl | (simp [RowB, u8s]; omega))) ?_
       refine Tw.mm (strV ss) ?_
       refine Tw.lp (v := strV ([UInt8.ofNat (48 + x15)] ++ ss)) rfl rfl (run_bin rfl (vx := strV [UInt8.ofNat (48 + x15)]) (vy := strV ss) Tw.kr Tw.kr fun w => bs_add (c := ([UInt8.ofNat (48 + x15)] ++ ss)) rfl (by first | omega | (simp; omega)) w) ?_
       refine Tw.mm (strV ([UInt8.ofNat (48 + x15)] ++ ss)) ?_
       refine wpL_done (fun W21 hW21 => ?_)
       change Code.wp ..
       refine wp_region_L _ hW21 ?_
       refine Tw.mm (.slice q12 ((cd (m / 10)).length) d12) ?_
       refine Tw.mm (.slice q12 ((cd (m / 10)).length) d12) ?_
       refine wpL_done (fun W22 hW22 => ?_)
       go_roundw
       case rel =>
         repeat apply Exists.intro
         exact ⟨⟨m / 10, ([UInt8.ofNat (48 + x15)] ++ ss), q12, d12, (Kt ++ T12), (H12.mono Tw.sb), C12, (hD.step (.inl (cd_pos' h1)) (by rw [hxx])), (Nat.le_trans (Nat.div_le_self _ _) hmn), rfl, rfl, (hW22.sub Tw.sb)⟩, rfl⟩
       case measure => (show valOf _ (.slice q12 (cd (m / 10)).length d12) * 2 + strZ (strV ([UInt8.ofNat (48 + x15)] ++ ss)) < valOf _ (.slice po (cd m).length co) * 2 + strZ (strV ss)); rw [valOf_eq (((H12.mono Tw.sb)) _ hW22), valOf_eq (HO _ hL3), strZ_cons]; exact dec_less (.inl (cd_pos' h1))
set_option maxRecDepth 100000 in
set_option maxHeartbeats 20000000 in
theorem RText_any (s : Bool) (n d : Nat) (hn : n < R 8) (hd : d < R 8) (w : World) : Calls Tryz.prog 31 #[.agg (frcC s n d)] w fun e w' => e = .returned (if rightB s n d = true then .tuple #[strV (textL s n d), .int .i64 0] else .tuple #[strV [], .int .i64 2]) ∧ Below w.heap.size w w' := by
 obtain ⟨V, hV⟩ : ∃ V : Value, V = (if rightB s n d = true then .tuple #[strV (textL s n d), .int .i64 0] else .tuple #[strV [], .int .i64 2]) := ⟨_, rfl⟩
 rw [← hV]
 have l1 := dec_len78 hn
 have l2 := dec_len78 hd
 go_enter Tryz.func31, Tryz.ntmps31
 refine wp_seq ?_
 refine wp_region_L [] (KS.start w) ?_
 refine wpL_new (fun g => .pointer (some ⟨g, 0, none⟩)) (obi := .cells (frcC s n d) 34 (0, 0)) rfl rfl Tw.kf Tw.pf fun g1 Bg1 Fg1 => ?_
 refine Tw.mm (strV []) ?_
 refine Tw.mm (.int .i64 0) ?_
 refine wpL_done (fun W1 hW1 => ?_)
 change Code.wp ..
 refine wp_seq ?_
 refine wp_seq ?_
 refine wp_region_L _ hW1 ?_
 refine Tw.lv (v := .agg (frcC s n d)) rfl rfl (yb_all rfl Tw.kr Tw.m0 Tryz.underlying34 rfl zfs) ?_
 refine Tw.lv (v := .bool (rightB s n d)) rfl rfl (yb_call (f := 18) (args := #[.agg (frcC s n d)]) Tw.kf fun W hW => rright_any s n d hn hd W) ?_
 refine Tw.lp (v := .bool (!(rightB s n d))) rfl rfl (run_un rfl Tw.kr fun w => un_not w) ?_
 refine wpL_done (fun W2 hW2 => ?_)
 change Code.wp ..
 cases h1 : (rightB s n d) with
 | false =>
   refine wp_cond_true rfl ?_
   refine wp_seq ?_
   refine wp_region_L _ hW2 ?_
   refine Tw.mm (strV []) ?_
   refine Tw.mm (.int .i64 2) ?_
   refine wpL_done (fun W3 hW3 => ?_)
   change Code.wp ..
   refine wp_ret ?_
   try simp only [inBlock_ret, then_ret]
   refine bodyPost_ret (v := .tuple #[strV [], .int .i64 2]) ?_ rfl ?_
   · kernel_rfl
   · exact ⟨(ret_v (by rw [hV, if_neg (fun h => by rw [h1] at h; cases h)])), hW3.1⟩
 | true =>
   refine wp_cond_false rfl ?_
   refine wp_skip ?_
   change Code.wp ..
   refine wp_seq ?_
   refine wp_region_L _ hW2 ?_
   refine Tw.mm (.pointer (some ⟨g1, 1, none⟩)) ?_
   refine Tw.lv (v := .agg (fa 8 (dg n))) rfl rfl (yb_fnum (s := s) (n := n) (d := d) rfl Tw.kr Tw.m0 Tryz.underlying23 rfl Tw.kr) ?_
   refine wpL_c (f := 43) (args := #[.agg (fa 8 (dg n))]) (AnsG w [(g1, .cells (frcC s n d) 34 (0, 0))] (cd n)) rfl Tw.kr Tw.kf (fun W hW => (rdigits_any n hn W).mono fun e w2 h => Ans.g h hW) Tw.pf ?_
   rintro v2 _ ⟨q2, d2, T2, rfl, C2, H2, F2, J2, rfl⟩
   obtain dj3_0 : Dk g1 T2 := Tw.djf J2
   refine Tw.lv (v := strV (Lib.decDigits n)) rfl rfl (yb_call (f := 63) (args := #[.slice q2 ((cd n).length) d2]) Tw.kf fun W hW => rdecimal_any n q2 d2 hn C2 W ((H2.mono Tw.sb) W hW)) ?_
   refine Tw.mm (strV (Lib.decDigits n)) ?_
   refine wpL_done (fun W4 hW4 => ?_)
   change Code.wp ..
   refine wp_seq ?_
   refine wp_seq ?_
   refine wp_region_L _ hW4 ?_
   refine Tw.mm (.pointer (some ⟨g1, 0, none⟩)) ?_
   obtain ⟨qs, hqs⟩ : ∃ b, b = s := ⟨_, rfl⟩
   refine Tw.lv (v := .bool qs) rfl rfl (yb_cell (off := 0) rfl Tw.kr Tw.m0 Tryz.underlying4 rfl (frc_negq hqs)) ?_
   refine wpL_done (fun W5 hW5 => ?_)
   change Code.wp ..
   cases h2 : qs with
   | false =>
     refine wp_cond_false rfl ?_
     refine wp_skip ?_
     change Code.wp ..
     refine wp_seq ?_
     refine wp_seq ?_
     refine wp_region_L _ hW5 ?_
     refine Tw.mm (.pointer (some ⟨g1, 9, none⟩)) ?_
     refine Tw.lv (v := .agg (fa 8 (dg d))) rfl rfl (yb_fden (s := s) (n := n) (d := d) rfl Tw.kr Tw.m0 Tryz.underlying23 rfl Tw.kr) ?_
     refine wpL_c (f := 43) (args := #[.agg (fa 8 (dg d))]) (AnsG w ((g1, .cells (frcC s n d) 34 (0, 0)) :: T2) (cd d)) rfl Tw.kr Tw.kf (fun W hW => (rdigits_any d hd W).mono fun e w2 h => Ans.g h hW) Tw.pf ?_
     rintro v4 _ ⟨q4, d4, T4, rfl, C4, H4, F4, J4, rfl⟩
     obtain ⟨dj5_0, dj5_1⟩ : Dk g1 T4 ∧ Dj T2 T4 := Tw.djf J4
     refine Tw.mm (.slice q4 ((cd d).length) d4) ?_
     refine wpL_done (fun W6 hW6 => ?_)
     change Code.wp ..
     refine wp_seq ?_
     refine wp_region_L _ hW6 ?_
     refine Tw.mm (.slice q4 ((cd d).length) d4) ?_
     refine Tw.lv (v := .bool (decide (d = 1))) rfl rfl (yb_call (f := 50) (args := #[.slice q4 ((cd d).length) d4]) Tw.kf fun W hW => rone_any d q4 d4 W ((H4.mono Tw.sb) W hW)) ?_
     refine Tw.lp (v := .bool (!(decide (d = 1)))) rfl rfl (run_un rfl Tw.kr fun w => un_not w) ?_
     refine wpL_done (fun W7 hW7 => ?_)
     change Code.wp ..
     cases hd3 : (decide (d = 1)) with
     | false =>
       have h3 : ¬ (d = 1) := of_decide_eq_false hd3
       clear hd3
       refine wp_cond_true rfl ?_
       refine wp_region_L _ hW7 ?_
       refine Tw.mm (strV (Lib.decDigits n)) ?_
       refine Tw.lp (v := strV ((Lib.decDigits n) ++ [47])) rfl rfl (run_bin rfl (vx := strV (Lib.decDigits n)) (vy := strV [47]) Tw.kr Tw.kr fun w => bs_add (c := ((Lib.decDigits n) ++ [47])) rfl (by first | omega | (simp; omega)) w) ?_
       refine Tw.mm (.slice q4 ((cd d).length) d4) ?_
       refine Tw.lv (v := strV (Lib.decDigits d)) rfl rfl (yb_call (f := 63) (args := #[.slice q4 ((cd d).length) d4]) Tw.kf fun W hW => rdecimal_any d q4 d4 hd C4 W ((H4.mono Tw.sb) W hW)) ?_
       refine Tw.lp (v := strV (((Lib.decDigits n) ++ [47]) ++ (Lib.decDigits d))) rfl rfl (run_bin rfl (vx := strV ((Lib.decDigits n) ++ [47])) (vy := strV (Lib.decDigits d)) Tw.kr Tw.kr fun w => bs_add (c := (((Lib.decDigits n) ++ [47]) ++ (Lib.decDigits d))) rfl (by first | omega | (simp; omega)) w) ?_
       refine Tw.mm (strV (((Lib.decDigits n) ++ [47]) ++ (Lib.decDigits d))) ?_
       refine wpL_done (fun W8 hW8 => ?_)
       change Code.wp ..
       refine wp_seq ?_
       refine wp_region_L _ hW8 ?_
       refine Tw.mm (strV (((Lib.decDigits n) ++ [47]) ++ (Lib.decDigits d))) ?_
       refine Tw.mm (strV (((Lib.decDigits n) ++ [47]) ++ (Lib.decDigits d))) ?_
       refine Tw.mm (.int .i64 0) ?_
       refine wpL_done (fun W9 hW9 => ?_)
       change Code.wp ..
       refine wp_ret ?_
       try simp only [inBlock_ret, then_ret]
       refine bodyPost_ret (v := .tuple #[strV (((Lib.decDigits n) ++ [47]) ++ (Lib.decDigits d)), .int .i64 0]) ?_ rfl ?_
       · kernel_rfl
       · exact ⟨(ret_v (by have e1 : s = false := hqs.symm.trans h2; subst e1; rw [hV, if_pos h1]; unfold textL; rw [if_neg h3]; simp)), hW9.1⟩
     | true =>
       have h3 : d = 1 := of_decide_eq_true hd3
       clear hd3
       refine wp_cond_false rfl ?_
       refine wp_skip ?_
       change Code.wp ..
       refine wp_seq ?_
       refine wp_region_L _ hW7 ?_
       refine Tw.mm (strV (Lib.decDigits n)) ?_
       refine Tw.mm (strV (Lib.decDigits n)) ?_
       refine Tw.mm (.int .i64 0) ?_
       refine wpL_done (fun W10 hW10 => ?_)
       change Code.wp ..
       refine wp_ret ?_
       try simp only [inBlock_ret, then_ret]
       refine bodyPost_ret (v := .tuple #[strV (Lib.decDigits n), .int .i64 0]) ?_ rfl ?_
       · kernel_rfl
       · exact ⟨(ret_v (by have e1 : s = false := hqs.symm.trans h2; subst e1; rw [hV, if_pos h1]; unfold textL; rw [if_pos h3]; simp)), hW10.1⟩
   | true =>
     refine wp_cond_true rfl ?_
     refine wp_region_L _ hW5 ?_
     refine Tw.mm (strV (Lib.decDigits n)) ?_
     refine Tw.lp (v := strV ([45] ++ (Lib.decDigits n))) rfl rfl (run_bin rfl (vx := strV [45]) (vy := strV (Lib.decDigits n)) Tw.kr Tw.kr fun w => bs_add (c := ([45] ++ (Lib.decDigits n))) rfl (by first | omega | (simp; omega)) w) ?_
     refine Tw.mm (strV ([45] ++ (Lib.decDigits n))) ?_
     refine wpL_done (fun W11 hW11 => ?_)
     change Code.wp ..
     refine wp_seq ?_
     refine wp_seq ?_
     refine wp_region_L _ hW11 ?_
     refine Tw.mm (.pointer (some ⟨g1, 9, none⟩)) ?_
     refine Tw.lv (v := .agg (fa 8 (dg d))) rfl rfl (yb_fden (s := s) (n := n) (d := d) rfl Tw.kr Tw.m0 Tryz.underlying23 rfl Tw.kr) ?_
     refine wpL_c (f := 43) (args := #[.agg (fa 8 (dg d))]) (AnsG w ((g1, .cells (frcC s n d) 34 (0, 0)) :: T2) (cd d)) rfl Tw.kr Tw.kf (fun W hW => (rdigits_any d hd W).mono fun e w2 h => Ans.g h hW) Tw.pf ?_
     rintro v6 _ ⟨q6, d6, T6, rfl, C6, H6, F6, J6, rfl⟩
     obtain ⟨dj7_0, dj7_1⟩ : Dk g1 T6 ∧ Dj T2 T6 := Tw.djf J6
     refine Tw.mm (.slice q6 ((cd d).length) d6) ?_
     refine wpL_done (fun W12 hW12 => ?_)
     change Code.wp ..
     refine wp_seq ?_
     refine wp_region_L _ hW12 ?_
     refine Tw.mm (.slice q6 ((cd d).length) d6) ?_
     refine Tw.lv (v := .bool (decide (d = 1))) rfl rfl (yb_call (f := 50) (args := #[.slice q6 ((cd d).length) d6]) Tw.kf fun W hW => rone_any d q6 d6 W ((H6.mono Tw.sb) W hW)) ?_
     refine Tw.lp (v := .bool (!(decide (d = 1)))) rfl rfl (run_un rfl Tw.kr fun w => un_not w) ?_
     refine wpL_done (fun W13 hW13 => ?_)
     change Code.wp ..
     cases hd4 : (decide (d = 1)) with
     | false =>
       have h4 : ¬ (d = 1) := of_decide_eq_false hd4
       clear hd4
       refine wp_cond_true rfl ?_
       refine wp_region_L _ hW13 ?_
       refine Tw.mm (strV ([45] ++ (Lib.decDigits n))) ?_
       refine Tw.lp (v := strV (([45] ++ (Lib.decDigits n)) ++ [47])) rfl rfl (run_bin rfl (vx := strV ([45] ++ (Lib.decDigits n))) (vy := strV [47]) Tw.kr Tw.kr fun w => bs_add (c := (([45] ++ (Lib.decDigits n)) ++ [47])) rfl (by first | omega | (simp; omega)) w) ?_
       refine Tw.mm (.slice q6 ((cd d).length) d6) ?_
       refine Tw.lv (v := strV (Lib.decDigits d)) rfl rfl (yb_call (f := 63) (args := #[.slice q6 ((cd d).length) d6]) Tw.kf fun W hW => rdecimal_any d q6 d6 hd C6 W ((H6.mono Tw.sb) W hW)) ?_
       refine Tw.lp (v := strV ((([45] ++ (Lib.decDigits n)) ++ [47]) ++ (Lib.decDigits d))) rfl rfl (run_bin rfl (vx := strV (([45] ++ (Lib.decDigits n)) ++ [47])) (vy := strV (Lib.decDigits d)) Tw.kr Tw.kr fun w => bs_add (c := ((([45] ++ (Lib.decDigits n)) ++ [47]) ++ (Lib.decDigits d))) rfl (by first | omega | (simp; omega)) w) ?_
       refine Tw.mm (strV ((([45] ++ (Lib.decDigits n)) ++ [47]) ++ (Lib.decDigits d))) ?_
       refine wpL_done (fun W14 hW14 => ?_)
       change Code.wp ..
       refine wp_seq ?_
       refine wp_region_L _ hW14 ?_
       refine Tw.mm (strV ((([45] ++ (Lib.decDigits n)) ++ [47]) ++ (Lib.decDigits d))) ?_
       refine Tw.mm (strV ((([45] ++ (Lib.decDigits n)) ++ [47]) ++ (Lib.decDigits d))) ?_
       refine Tw.mm (.int .i64 0) ?_
       refine wpL_done (fun W15 hW15 => ?_)
       change Code.wp ..
       refine wp_ret ?_
       try simp only [inBlock_ret, then_ret]
       refine bodyPost_ret (v := .tuple #[strV ((([45] ++ (Lib.decDigits n)) ++ [47]) ++ (Lib.decDigits d)), .int .i64 0]) ?_ rfl ?_
       · kernel_rfl
       · exact ⟨(ret_v (by have e1 : s = true := hqs.symm.trans h2; subst e1; rw [hV, if_pos h1]; unfold textL; rw [if_neg h4]; simp)), hW15.1⟩
     | true =>
       have h4 : d = 1 := of_decide_eq_true hd4
       clear hd4
       refine wp_cond_false rfl ?_
       refine wp_skip ?_
       change Code.wp ..
       refine wp_seq ?_
       refine wp_region_L _ hW13 ?_
       refine Tw.mm (strV ([45] ++ (Lib.decDigits n))) ?_
       refine Tw.mm (strV ([45] ++ (Lib.decDigits n))) ?_
       refine Tw.mm (.int .i64 0) ?_
       refine wpL_done (fun W16 hW16 => ?_)
       change Code.wp ..
       refine wp_ret ?_
       try simp only [inBlock_ret, then_ret]
       refine bodyPost_ret (v := .tuple #[strV ([45] ++ (Lib.decDigits n)), .int .i64 0]) ?_ rfl ?_
       · kernel_rfl
       · exact ⟨(ret_v (by have e1 : s = true := hqs.symm.trans h2; subst e1; rw [hV, if_pos h1]; unfold textL; rw [if_pos h4]; simp)), hW16.1⟩
end Go.Proofs.YtalmflgkbmnghaaGreatDoor
namespace Go.Proofs.YtalmflgkbmnghaaGreatDoor
open Go Go.RowKit Tw
open Tf (dg R R_pos R_le R_succ dg_of_lt setd setd_eq)
variable [ShLZ]
variable [ShSt]
def AnsNW (W0 : Base) (K : List (Nat × Obj)) (n : Nat) (c : Int) (v : Value) (K2 : List (Nat × Obj)) : Prop := ∃ q d T, v = .tuple #[.slice q (cd n).length d, .int .i64 c] ∧ (cd n).length ≤ d ∧ NS W0 q (cd n) T ∧ Dj K T ∧ K2 = K ++ T
def AnsNF (w : World) (n : Nat) (c : Int) (e : Ending) (w' : World) : Prop := ∃ q d, e = .returned (.tuple #[.slice q (cd n).length d, .int .i64 c]) ∧ (cd n).length ≤ d ∧ SLF w w' q (nums (cd n)) ∧ Below w.heap.size w w'
theorem AnsNF.g {W0 : Base} {K : List (Nat × Obj)} {W w2 : World} {n : Nat} {c : Int} {e : Ending} (h : AnsNF W n c e w2) (hW : KS W0 K W) : ∃ v K2, e = .returned v ∧ KS W0 K2 w2 ∧ AnsNW W0 K n c v K2 := by
 obtain ⟨q, d, rfl, h1, h2, h3⟩ := h
 obtain ⟨T, h4, h5, h6, _⟩ := ns_new hW h3 h2
 exact ⟨_, _, rfl, h4, q, d, T, rfl, h1, h6, h5, rfl⟩
theorem num_ret {w W : World} {n : Nat} {c c' : Int} {q : Option Addr} {d : Nat} {k : Nat} (hc : c = c') (hn : k = n) (h1 : (cd k).length ≤ d) (h2 : SLF w W q (nums (cd k))) (h3 : Below w.heap.size w W) : AnsNF w n c' (.returned (.tuple #[.slice q (cd k).length d, .int .i64 c])) W := by
 subst hc hn
 exact ⟨q, d, rfl, h1, h2, h3⟩
theorem num_none {w W : World} {n : Nat} {c c' : Int} (hc : c = c') (hn : 0 = n) (h3 : Below w.heap.size w W) : AnsNF w n c' (.returned (.tuple #[.slice none 0 0, .int .i64 c])) W := by
 subst hc hn
 exact ⟨none, 0, by rw [cd_zero]; rfl, by rw [cd_zero]; exact Nat.le_refl _, .inl (by rw [cd_zero]; rfl), h3⟩
theorem dig_ext {l : List UInt8} {i : Nat} {b : UInt8} (h : ∀ (j : Nat) (b : UInt8), j < i → l[j]? = some b → 48 ≤ b.toNat ∧ b.toNat ≤ 57) (hb : l[i]? = some b) (h1 : ¬ b.toNat < 48) (h2 : ¬ 57 < b.toNat) : ∀ (j : Nat) (b : UInt8), j < i + 1 → l[j]? = some b → 48 ≤ b.toNat ∧ b.toNat ≤ 57 := by
 intro j c hj hc
 rcases Nat.lt_or_ge j i with h3 | h3
 · exact h j c h3 hc
 · obtain rfl : j = i := by omega
   rw [hb] at hc
   cases hc
   omega
theorem dec_bound {x : Nat} (h : (cd x).length ≤ 16) : (cd (x * 10)).length ≤ 17 := Nat.le_trans (cd_mul_len x 10) (by rw [cd_10]; show (cd x).length + 1 ≤ 17; omega)
theorem one_bound {y : Nat} (h : y < 65536) : (cd y).length ≤ 1 := cd_le.2 Tw.om
set_option maxRecDepth 100000 in
set_option maxHeartbeats 20000000 in
theorem rnumber_any (l : List UInt8) (ll : l.length ≤ 4000) (w : World) : Calls Tryz.prog 74 #[strV l] w fun e w' => AnsNF w (numN l) (numC l) e w' := by
 go_enter Tryz.func74, Tryz.ntmps74
 refine wp_seq ?_
 refine wp_region_L [] (KS.start w) ?_
 refine Tw.mm (.slice none 0 0) ?_
 refine Tw.mm (.int .i64 0) ?_
 refine wpL_done (fun W1 hW1 => ?_)
 change Code.wp ..
 refine wp_seq ?_
 refine wp_seq ?_
 refine wp_region_L _ hW1 ?_
 refine Tw.mm (strV l) ?_
 refine Tw.lp (v := .bool (decide (l = []))) rfl rfl (run_bin rfl (vx := strV l) (vy := strV []) Tw.kr Tw.kr fun w => bs_eql rfl w) ?_
 refine Tw.mm (.bool (decide (l = []))) ?_
 cases hd1 : (decide (l = [])) with
 | false =>
   have h1 : ¬ (l = []) := of_decide_eq_false hd1
   clear hd1
   have l0 : 0 < l.length := List.length_pos_iff.2 h1
   refine Tw.mm (strV l) ?_
   obtain ⟨b1, hb1⟩ : ∃ b, (l : List UInt8)[0]? = some b := ⟨_, List.getElem?_eq_getElem Tw.om⟩
   have lb1 := b1.toNat_lt
   refine Tw.lp (v := .int .u8 ((b1.toNat : Nat) : Int)) rfl rfl (run_idxS (j := .i64) (l := l) (k := 0) (b := b1) rfl Tryz.underlying9 Tw.kr Tw.kr hb1) ?_
   refine Tw.lp (v := .bool (decide (b1.toNat = 48))) rfl rfl (run_bin rfl (vx := (.int .u8 ((b1.toNat : Nat) : Int))) (vy := (.int .u8 ((48 : Nat) : Int))) Tw.kr Tw.kr fun w => bn_eql rfl w) ?_
   refine Tw.mm (.bool (decide (b1.toNat = 48))) ?_
   cases hd2 : (decide (b1.toNat = 48)) with
   | false =>
     have h2 : ¬ (b1.toNat = 48) := of_decide_eq_false hd2
     clear hd2
     refine Tw.ln rfl ?_
     refine Tw.ln rfl ?_
     refine Tw.mm (.bool false) ?_
     refine Tw.mm (.bool false) ?_
     refine wpL_done (fun W2 hW2 => ?_)
     change Code.wp ..
     refine wp_cond_false rfl ?_
     refine wp_skip ?_
     change Code.wp ..
     refine wp_seq ?_
     refine wp_seq ?_
     refine wp_region_L _ hW2 ?_
     refine Tw.mm (.int .i64 0) ?_
     refine wpL_done (fun W3 hW3 => ?_)
     change Code.wp ..
     refine wp_block ?_
     go_loopw [4] (fun u4 wr => ∃ (i : Nat), (i ≤ l.length) ∧ (∀ (j : Nat) (b : UInt8), j < i → l[j]? = some b → 48 ≤ b.toNat ∧ b.toNat ≤ 57) ∧ u4 = .int .i64 ((i : Nat) : Int) ∧ KS w [] wr) (fun u4 _ => l.length - (intOf u4).toNat)
     case atStart => exact ⟨0, (Nat.zero_le _), (fun j b hj => absurd hj Tw.om), rfl, (hW3.sub Tw.sb)⟩
     case round =>
       obtain ⟨i, hi, hdg, rfl, hL4⟩ := hrel
       refine wp_seq ?_
       refine wp_seq ?_
       refine wp_region_L _ hL4 ?_
       refine Tw.mm (.int .i64 ((i : Nat) : Int)) ?_
       refine Tw.mm (strV l) ?_
       refine Tw.lp (v := .int .i64 ((l.length : Nat) : Int)) rfl rfl (run_lenS (l := l) rfl Tryz.underlying9 Tw.kr) ?_
       refine Tw.lp (v := .bool (decide (i < l.length))) rfl rfl (run_bin rfl (vx := (.int .i64 ((i : Nat) : Int))) (vy := (.int .i64 ((l.length : Nat) : Int))) Tw.kr Tw.kr fun w => bn_lss rfl w) ?_
       refine wpL_done (fun W5 hW5 => ?_)
       change Code.wp ..
       cases hd3 : (decide (i < l.length)) with
       | false =>
         have h3 : ¬ (i < l.length) := of_decide_eq_false hd3
         clear hd3
         refine wp_cond_false rfl ?_
         refine wp_exit ?_
         change Code.wp ..
         refine wp_seq ?_
         have hall : ∀ (j : Nat) (b : UInt8), j < l.length → l[j]? = some b → 48 ≤ b.toNat ∧ b.toNat ≤ 57 := fun j b hj hb => hdg j b Tw.om hb
         have hD : digL l = true := dig_good h1 (.inl ⟨b1, hb1, h2⟩) hall
         refine wp_region_L _ hW5 ?_
         refine Tw.mm (.slice none 0 0) ?_
         refine wpL_done (fun W6 hW6 => ?_)
         change Code.wp ..
         refine wp_seq ?_
         refine wp_seq ?_
         refine wp_region_L _ hW6 ?_
         refine Tw.mm (.int .i64 0) ?_
         refine wpL_done (fun W7 hW7 => ?_)
         change Code.wp ..
         refine wp_block ?_
         go_loopw [6, 5] (fun u6 u5 wr => ∃ (i2 : Nat) (po : Option Addr) (co : Nat) (m : Nat) (Kt : List (Nat × Obj)), (NS (w : Base) po (cd m) Kt) ∧ (∀ W3, KS (w : Base) Kt W3 → SLF w W3 po (nums (cd m))) ∧ ((cd m).length ≤ co) ∧ (i2 ≤ l.length) ∧ (m = decV (l.take i2)) ∧ ((cd m).length ≤ 16) ∧ u6 = .int .i64 ((i2 : Nat) : Int) ∧ u5 = .slice po ((cd m).length) co ∧ KS w Kt wr) (fun u6 _ _ => l.length - (intOf u6).toNat)
         case atStart => exact ⟨0, none, 0, 0, [], NS.nil, (fun _ _ => .inl (by rw [cd_zero]; rfl)), (Nat.zero_le _), (Nat.zero_le _), rfl, (by rw [cd_zero]; simp), rfl, rfl, (hW7.sub Tw.sb)⟩
         case round =>
           obtain ⟨i2, po, co, m, Kt, HO, HF, hco, hi2, hm, hml, rfl, rfl, hL8⟩ := hrel
           refine wp_seq ?_
           refine wp_seq ?_
           refine wp_region_L _ hL8 ?_
           refine Tw.mm (.int .i64 ((i2 : Nat) : Int)) ?_
           refine Tw.mm (strV l) ?_
           refine Tw.lp (v := .int .i64 ((l.length : Nat) : Int)) rfl rfl (run_lenS (l := l) rfl Tryz.underlying9 Tw.kr) ?_
           refine Tw.lp (v := .bool (decide (i2 < l.length))) rfl rfl (run_bin rfl (vx := (.int .i64 ((i2 : Nat) : Int))) (vy := (.int .i64 ((l.length : Nat) : Int))) Tw.kr Tw.kr fun w => bn_lss rfl w) ?_
           refine wpL_done (fun W9 hW9 => ?_)
           change Code.wp ..
           cases hd4 : (decide (i2 < l.length)) with
           | false =>
             have h4 : ¬ (i2 < l.length) := of_decide_eq_false hd4
             clear hd4
             refine wp_cond_false rfl ?_
             refine wp_exit ?_
             change Code.wp ..
             refine wp_seq ?_
             refine wp_region_L _ hW9 ?_
             refine Tw.mm (.slice po ((cd m).length) co) ?_
             refine Tw.mm (.slice po ((cd m).length) co) ?_
             refine Tw.mm (.int .i64 0) ?_
             refine wpL_done (fun W10 hW10 => ?_)
             change Code.wp ..
             refine wp_ret ?_
             try simp only [inBlock_ret, then_ret]
             refine bodyPost_ret (v := .tuple #[.slice po ((cd m).length) co, .int .i64 0]) ?_ rfl ?_
             · kernel_rfl
             · exact (num_ret (num_fits (i := i2) hD h4 (by rw [← hm]; exact hml)).1.symm (hm.trans (num_fits (i := i2) hD h4 (by rw [← hm]; exact hml)).2.symm) hco (HF _ hW10) hW10.1)
           | true =>
             have h4 : i2 < l.length := of_decide_eq_true hd4
             clear hd4
             refine wp_cond_true rfl ?_
             refine wp_skip ?_
             change Code.wp ..
             refine wp_seq ?_
             refine wp_block ?_
             refine wp_seq ?_
             refine wp_region_V _ Tw.kr hW9 ?_
             refine vm (i := 0) (v := .slice po ((cd m).length) co) rfl rfl rfl ?_
             refine vm (i := 2) (v := strV l) rfl rfl rfl ?_
             refine vm (i := 3) (v := .int .i64 ((i2 : Nat) : Int)) rfl rfl rfl ?_
             obtain ⟨b2, hb2⟩ : ∃ b, (l : List UInt8)[i2]? = some b := ⟨_, List.getElem?_eq_getElem Tw.om⟩
             have lb2 := b2.toNat_lt
             refine vp (i := 4) (v := .int .u8 ((b2.toNat : Nat) : Int)) rfl rfl rfl (run_idxS (j := .i64) (l := l) (k := i2) (b := b2) rfl Tryz.underlying9 Tw.kr Tw.kr hb2) ?_
             have hb48 := hall i2 b2 Tw.om hb2
             refine vp (i := 5) (v := .int .u8 (((b2.toNat - 48) : Nat) : Int)) rfl rfl rfl (run_bin rfl (vx := (.int .u8 ((b2.toNat : Nat) : Int))) (vy := (.int .u8 ((48 : Nat) : Int))) Tw.kr Tw.kr fun w => bn_sub (z := (b2.toNat - 48)) rfl Tw.om (wr_u8 Tw.om) w) ?_
             refine vp (i := 6) (v := .int .u64 (((b2.toNat - 48) : Nat) : Int)) rfl rfl rfl (run_conv rfl (vx := (.int .u8 (((b2.toNat - 48) : Nat) : Int))) Tw.kr fun w => cv_int Tryz.underlying5 Tryz.underlying84 (wr_u64 Tw.om) w) ?_
             refine wpV_c (i := 1) (AnsG w Kt (cd (m * 10))) rfl rfl Tw.kr Tw.kr Tw.kf (fun W hW => (scale_any m 10 po co (by decide) Tw.om W ((HO.mono Tw.sb) W hW)).mono fun e w2 h => Ans.g h hW) (fun _ _ h => ansG_sub h) Tw.pf ?_
             rintro v3 _ ⟨q3, d3, T3, rfl, C3, H3, F3, J3, rfl⟩
             obtain dj4_0 : Dj Kt T3 := Tw.djf J3
             refine wpV_c (i := 7) (AnsG w (Kt ++ T3) (cd (b2.toNat - 48))) rfl rfl Tw.kr Tw.kr Tw.kf (fun W hW => (whole_any _ (b2.toNat - 48) rfl Tw.om W).mono fun e w2 h => Ans.g h hW) (fun _ _ h => ansG_sub h) Tw.pf ?_
             rintro v5 _ ⟨q5, d5, T5, rfl, C5, H5, F5, J5, rfl⟩
             obtain ⟨dj6_0, dj6_1⟩ : Dj Kt T5 ∧ Dj T3 T5 := Tw.djf J5
             have hlb1 := dec_bound hml
             have hlb2 := one_bound (y := (b2.toNat - 48)) Tw.om
             refine wpV_c (i := 8) (AnsG w ((Kt ++ T3) ++ T5) (cd ((m * 10) + (b2.toNat - 48)))) rfl rfl Tw.kr Tw.kr Tw.kf (fun W hW => (radd_any (m * 10) (b2.toNat - 48) q3 q5 d3 d5 Tw.om Tw.om W ((H3.mono Tw.sb) W hW) ((H5.mono Tw.sb) W hW)).mono fun e w2 h => Ans.g h hW) (fun _ _ h => ansG_sub h) Tw.pf ?_
             rintro v7 _ ⟨q7, d7, T7, rfl, C7, H7, F7, J7, rfl⟩
             obtain ⟨dj8_0, dj8_1, dj8_2⟩ : Dj Kt T7 ∧ Dj T3 T7 ∧ Dj T5 T7 := Tw.djf J7
             refine vm (i := 9) (v := .slice q7 ((cd ((m * 10) + (b2.toNat - 48))).length) d7) rfl rfl rfl ?_
             refine wpV_done Tw.kr (fun W11 hW11 => ?_) _
             change Code.wp ..
             refine wp_seq ?_
             refine wp_region_L _ hW11 ?_
             refine Tw.mm (.slice q7 ((cd ((m * 10) + (b2.toNat - 48))).length) d7) ?_
             refine Tw.lp (v := .int .i64 ((((cd ((m * 10) + (b2.toNat - 48))).length) : Nat) : Int)) rfl rfl (run_lenL (p := q7) (cap := d7) (n := ((cd ((m * 10) + (b2.toNat - 48))).length)) rfl Tryz.underlying32 Tw.kr) ?_
             refine Tw.lp (v := .bool (decide (16 < ((cd ((m * 10) + (b2.toNat - 48))).length)))) rfl rfl (run_bin rfl (vx := (.int .i64 ((((cd ((m * 10) + (b2.toNat - 48))).length) : Nat) : Int))) (vy := (.int .i64 ((16 : Nat) : Int))) Tw.kr Tw.kr fun w => bn_gtr rfl w) ?_
             refine wpL_done (fun W12 hW12 => ?_)
             change Code.wp ..
             cases hd5 : (decide (16 < ((cd ((m * 10) + (b2.toNat - 48))).length))) with
             | false =>
               have h5 : ¬ (16 < ((cd ((m * 10) + (b2.toNat - 48))).length)) := of_decide_eq_false hd5
               clear hd5
               refine wp_cond_false rfl ?_
               refine wp_skip ?_
               change Code.wp ..
               refine wp_region_L _ hW12 ?_
               refine Tw.mm (.int .i64 ((i2 : Nat) : Int)) ?_
               refine Tw.lp (v := .int .i64 (((i2 + 1) : Nat) : Int)) rfl rfl (run_bin rfl (vx := (.int .i64 ((i2 : Nat) : Int))) (vy := (.int .i64 ((1 : Nat) : Int))) Tw.kr Tw.kr fun w => bn_add (z := (i2 + 1)) rfl (wr_i64 Tw.om) w) ?_
               refine Tw.mm (.int .i64 (((i2 + 1) : Nat) : Int)) ?_
               refine wpL_done (fun W13 hW13 => ?_)
               go_roundw
               case rel =>
                 repeat apply Exists.intro
                 exact ⟨⟨(i2 + 1), q7, d7, (m * 10) + (b2.toNat - 48), (Kt ++ (T3 ++ (T5 ++ T7))), (H7.mono Tw.sb), (fun W3 h => F7 W3 (h.sub Tw.sb) rfl), C7, Tw.om, (by rw [decV_take hb2, hm]), (by have h := h5; omega), rfl, rfl, (hW13.sub Tw.sb)⟩, rfl⟩
               case measure => (show l.length - (intOf (.int .i64 (((i2 + 1) : Nat) : Int))).toNat < l.length - (intOf (.int .i64 ((i2 : Nat) : Int))).toNat); simp only [intOf]; omega
             | true =>
               have h5 : 16 < ((cd ((m * 10) + (b2.toNat - 48))).length) := of_decide_eq_true hd5
               clear hd5
               refine wp_cond_true rfl ?_
               refine wp_seq ?_
               refine wp_region_L _ hW12 ?_
               refine Tw.mm (.slice none 0 0) ?_
               refine Tw.mm (.int .i64 2) ?_
               refine wpL_done (fun W14 hW14 => ?_)
               change Code.wp ..
               refine wp_ret ?_
               try simp only [inBlock_ret, then_ret]
               refine bodyPost_ret (v := .tuple #[.slice none 0 0, .int .i64 2]) ?_ rfl ?_
               · kernel_rfl
               · exact (num_none (num_long (i := i2 + 1) hD Tw.om (by rw [decV_take hb2, ← hm]; exact h5)).1.symm (num_long (i := i2 + 1) hD Tw.om (by rw [decV_take hb2, ← hm]; exact h5)).2.symm hW14.1)
       | true =>
         have h3 : i < l.length := of_decide_eq_true hd3
         clear hd3
         refine wp_cond_true rfl ?_
         refine wp_skip ?_
         change Code.wp ..
         refine wp_seq ?_
         refine wp_block ?_
         refine wp_seq ?_
         refine wp_region_L _ hW5 ?_
         refine Tw.mm (strV l) ?_
         refine Tw.mm (.int .i64 ((i : Nat) : Int)) ?_
         obtain ⟨b9, hb9⟩ : ∃ b, (l : List UInt8)[i]? = some b := ⟨_, List.getElem?_eq_getElem Tw.om⟩
         have lb9 := b9.toNat_lt
         refine Tw.lp (v := .int .u8 ((b9.toNat : Nat) : Int)) rfl rfl (run_idxS (j := .i64) (l := l) (k := i) (b := b9) rfl Tryz.underlying9 Tw.kr Tw.kr hb9) ?_
         refine Tw.lp (v := .bool (decide (b9.toNat < 48))) rfl rfl (run_bin rfl (vx := (.int .u8 ((b9.toNat : Nat) : Int))) (vy := (.int .u8 ((48 : Nat) : Int))) Tw.kr Tw.kr fun w => bn_lss rfl w) ?_
         refine Tw.mm (.bool (decide (b9.toNat < 48))) ?_
         cases hd6 : (decide (b9.toNat < 48)) with
         | false =>
           have h6 : ¬ (b9.toNat < 48) := of_decide_eq_false hd6
           clear hd6
           refine Tw.mm (strV l) ?_
           refine Tw.mm (.int .i64 ((i : Nat) : Int)) ?_
           refine Tw.lp (v := .int .u8 ((b9.toNat : Nat) : Int)) rfl rfl (run_idxS (j := .i64) (l := l) (k := i) (b := b9) rfl Tryz.underlying9 Tw.kr Tw.kr hb9) ?_
           refine Tw.lp (v := .bool (decide (57 < b9.toNat))) rfl rfl (run_bin rfl (vx := (.int .u8 ((b9.toNat : Nat) : Int))) (vy := (.int .u8 ((57 : Nat) : Int))) Tw.kr Tw.kr fun w => bn_gtr rfl w) ?_
           refine Tw.mm (.bool (decide (57 < b9.toNat))) ?_
           refine wpL_done (fun W15 hW15 => ?_)
           change Code.wp ..
           cases hd7 : (decide (57 < b9.toNat)) with
           | false =>
             have h7 : ¬ (57 < b9.toNat) := of_decide_eq_false hd7
             clear hd7
             refine wp_cond_false rfl ?_
             refine wp_skip ?_
             change Code.wp ..
             refine wp_region_L _ hW15 ?_
             refine Tw.mm (.int .i64 ((i : Nat) : Int)) ?_
             refine Tw.lp (v := .int .i64 (((i + 1) : Nat) : Int)) rfl rfl (run_bin rfl (vx := (.int .i64 ((i : Nat) : Int))) (vy := (.int .i64 ((1 : Nat) : Int))) Tw.kr Tw.kr fun w => bn_add (z := (i + 1)) rfl (wr_i64 Tw.om) w) ?_
             refine Tw.mm (.int .i64 (((i + 1) : Nat) : Int)) ?_
             refine wpL_done (fun W16 hW16 => ?_)
             go_roundw
             case rel =>
               repeat apply Exists.intro
               exact ⟨⟨(i + 1), Tw.om, (dig_ext hdg hb9 h6 h7), rfl, (hW16.sub Tw.sb)⟩, rfl⟩
             case measure => (show l.length - (intOf (.int .i64 (((i + 1) : Nat) : Int))).toNat < l.length - (intOf (.int .i64 ((i : Nat) : Int))).toNat); simp only [intOf]; omega
           | true =>
             have h7 : 57 < b9.toNat := of_decide_eq_true hd7
             clear hd7
             refine wp_cond_true rfl ?_
             refine wp_seq ?_
             refine wp_region_L _ hW15 ?_
             refine Tw.mm (.slice none 0 0) ?_
             refine Tw.mm (.int .i64 1) ?_
             refine wpL_done (fun W17 hW17 => ?_)
             change Code.wp ..
             refine wp_ret ?_
             try simp only [inBlock_ret, then_ret]
             refine bodyPost_ret (v := .tuple #[.slice none 0 0, .int .i64 1]) ?_ rfl ?_
             · kernel_rfl
             · exact (num_none (num_bad (dig_bad hb9 (.inr h7))).1.symm (num_bad (dig_bad hb9 (.inr h7))).2.symm hW17.1)
         | true =>
           have h6 : b9.toNat < 48 := of_decide_eq_true hd6
           clear hd6
           refine Tw.ln rfl ?_
           refine Tw.ln rfl ?_
           refine Tw.ln rfl ?_
           refine Tw.ln rfl ?_
           refine Tw.mm (.bool true) ?_
           refine wpL_done (fun W18 hW18 => ?_)
           change Code.wp ..
           refine wp_cond_true rfl ?_
           refine wp_seq ?_
           refine wp_region_L _ hW18 ?_
           refine Tw.mm (.slice none 0 0) ?_
           refine Tw.mm (.int .i64 1) ?_
           refine wpL_done (fun W19 hW19 => ?_)
           change Code.wp ..
           refine wp_ret ?_
           try simp only [inBlock_ret, then_ret]
           refine bodyPost_ret (v := .tuple #[.slice none 0 0, .int .i64 1]) ?_ rfl ?_
           · kernel_rfl
           · exact (num_none (num_bad (dig_bad hb9 (.inl h6))).1.symm (num_bad (dig_bad hb9 (.inl h6))).2.symm hW19.1)
   | true =>
     have h2 : b1.toNat = 48 := of_decide_eq_true hd2
     clear hd2
     refine Tw.mm (strV l) ?_
     refine Tw.lp (v := .bool (!(decide (l = [48])))) rfl rfl (run_bin rfl (vx := strV l) (vy := strV [48]) Tw.kr Tw.kr fun w => bs_neq rfl w) ?_
     refine Tw.mm (.bool (!(decide (l = [48])))) ?_
     refine Tw.mm (.bool (!(decide (l = [48])))) ?_
     refine wpL_done (fun W20 hW20 => ?_)
     change Code.wp ..
     cases hd8 : (decide (l = [48])) with
     | false =>
       have h8 : ¬ (l = [48]) := of_decide_eq_false hd8
       clear hd8
       refine wp_cond_true rfl ?_
       refine wp_seq ?_
       refine wp_region_L _ hW20 ?_
       refine Tw.mm (.slice none 0 0) ?_
       refine Tw.mm (.int .i64 1) ?_
       refine wpL_done (fun W21 hW21 => ?_)
       change Code.wp ..
       refine wp_ret ?_
       try simp only [inBlock_ret, then_ret]
       refine bodyPost_ret (v := .tuple #[.slice none 0 0, .int .i64 1]) ?_ rfl ?_
       · kernel_rfl
       · exact (num_none (num_bad (dig_lead hb1 h2 h8)).1.symm (num_bad (dig_lead hb1 h2 h8)).2.symm hW21.1)
     | true =>
       have h8 : l = [48] := of_decide_eq_true hd8
       clear hd8
       refine wp_cond_false rfl ?_
       refine wp_skip ?_
       change Code.wp ..
       refine wp_seq ?_
       refine wp_seq ?_
       refine wp_region_L _ hW20 ?_
       refine Tw.mm (.int .i64 0) ?_
       refine wpL_done (fun W22 hW22 => ?_)
       change Code.wp ..
       refine wp_block ?_
       go_loopw [4] (fun u4 wr => ∃ (i : Nat), (i ≤ l.length) ∧ (∀ (j : Nat) (b : UInt8), j < i → l[j]? = some b → 48 ≤ b.toNat ∧ b.toNat ≤ 57) ∧ u4 = .int .i64 ((i : Nat) : Int) ∧ KS w [] wr) (fun u4 _ => l.length - (intOf u4).toNat)
       case atStart => exact ⟨0, (Nat.zero_le _), (fun j b hj => absurd hj Tw.om), rfl, (hW22.sub Tw.sb)⟩
       case round =>
         obtain ⟨i, hi, hdg, rfl, hL23⟩ := hrel
         refine wp_seq ?_
         refine wp_seq ?_
         refine wp_region_L _ hL23 ?_
         refine Tw.mm (.int .i64 ((i : Nat) : Int)) ?_
         refine Tw.mm (strV l) ?_
         refine Tw.lp (v := .int .i64 ((l.length : Nat) : Int)) rfl rfl (run_lenS (l := l) rfl Tryz.underlying9 Tw.kr) ?_
         refine Tw.lp (v := .bool (decide (i < l.length))) rfl rfl (run_bin rfl (vx := (.int .i64 ((i : Nat) : Int))) (vy := (.int .i64 ((l.length : Nat) : Int))) Tw.kr Tw.kr fun w => bn_lss rfl w) ?_
         refine wpL_done (fun W24 hW24 => ?_)
         change Code.wp ..
         cases hd9 : (decide (i < l.length)) with
         | false =>
           have h9 : ¬ (i < l.length) := of_decide_eq_false hd9
           clear hd9
           refine wp_cond_false rfl ?_
           refine wp_exit ?_
           change Code.wp ..
           refine wp_seq ?_
           have hall : ∀ (j : Nat) (b : UInt8), j < l.length → l[j]? = some b → 48 ≤ b.toNat ∧ b.toNat ≤ 57 := fun j b hj hb => hdg j b Tw.om hb
           have hD : digL l = true := dig_good h1 (.inr h8) hall
           refine wp_region_L _ hW24 ?_
           refine Tw.mm (.slice none 0 0) ?_
           refine wpL_done (fun W25 hW25 => ?_)
           change Code.wp ..
           refine wp_seq ?_
           refine wp_seq ?_
           refine wp_region_L _ hW25 ?_
           refine Tw.mm (.int .i64 0) ?_
           refine wpL_done (fun W26 hW26 => ?_)
           change Code.wp ..
           refine wp_block ?_
           go_loopw [6, 5] (fun u6 u5 wr => ∃ (i2 : Nat) (po : Option Addr) (co : Nat) (m : Nat) (Kt : List (Nat × Obj)), (NS (w : Base) po (cd m) Kt) ∧ (∀ W3, KS (w : Base) Kt W3 → SLF w W3 po (nums (cd m))) ∧ ((cd m).length ≤ co) ∧ (i2 ≤ l.length) ∧ (m = decV (l.take i2)) ∧ ((cd m).length ≤ 16) ∧ u6 = .int .i64 ((i2 : Nat) : Int) ∧ u5 = .slice po ((cd m).length) co ∧ KS w Kt wr) (fun u6 _ _ => l.length - (intOf u6).toNat)
           case atStart => exact ⟨0, none, 0, 0, [], NS.nil, (fun _ _ => .inl (by rw [cd_zero]; rfl)), (Nat.zero_le _), (Nat.zero_le _), rfl, (by rw [cd_zero]; simp), rfl, rfl, (hW26.sub Tw.sb)⟩
           case round =>
             obtain ⟨i2, po, co, m, Kt, HO, HF, hco, hi2, hm, hml, rfl, rfl, hL27⟩ := hrel
             refine wp_seq ?_
             refine wp_seq ?_
             refine wp_region_L _ hL27 ?_
             refine Tw.mm (.int .i64 ((i2 : Nat) : Int)) ?_
             refine Tw.mm (strV l) ?_
             refine Tw.lp (v := .int .i64 ((l.length : Nat) : Int)) rfl rfl (run_lenS (l := l) rfl Tryz.underlying9 Tw.kr) ?_
             refine Tw.lp (v := .bool (decide (i2 < l.length))) rfl rfl (run_bin rfl (vx := (.int .i64 ((i2 : Nat) : Int))) (vy := (.int .i64 ((l.length : Nat) : Int))) Tw.kr Tw.kr fun w => bn_lss rfl w) ?_
             refine wpL_done (fun W28 hW28 => ?_)
             change Code.wp ..
             cases hd10 : (decide (i2 < l.length)) with
             | false =>
               have h10 : ¬ (i2 < l.length) := of_decide_eq_false hd10
               clear hd10
               refine wp_cond_false rfl ?_
               refine wp_exit ?_
               change Code.wp ..
               refine wp_seq ?_
               refine wp_region_L _ hW28 ?_
               refine Tw.mm (.slice po ((cd m).length) co) ?_
               refine Tw.mm (.slice po ((cd m).length) co) ?_
               refine Tw.mm (.int .i64 0) ?_
               refine wpL_done (fun W29 hW29 => ?_)
               change Code.wp ..
               refine wp_ret ?_
               try simp only [inBlock_ret, then_ret]
               refine bodyPost_ret (v := .tuple #[.slice po ((cd m).length) co, .int .i64 0]) ?_ rfl ?_
               · kernel_rfl
               · exact (num_ret (num_fits (i := i2) hD h10 (by rw [← hm]; exact hml)).1.symm (hm.trans (num_fits (i := i2) hD h10 (by rw [← hm]; exact hml)).2.symm) hco (HF _ hW29) hW29.1)
             | true =>
               have h10 : i2 < l.length := of_decide_eq_true hd10
               clear hd10
               refine wp_cond_true rfl ?_
               refine wp_skip ?_
               change Code.wp ..
               refine wp_seq ?_
               refine wp_block ?_
               refine wp_seq ?_
               refine wp_region_V _ Tw.kr hW28 ?_
               refine vm (i := 0) (v := .slice po ((cd m).length) co) rfl rfl rfl ?_
               refine vm (i := 2) (v := strV l) rfl rfl rfl ?_
               refine vm (i := 3) (v := .int .i64 ((i2 : Nat) : Int)) rfl rfl rfl ?_
               obtain ⟨b10, hb10⟩ : ∃ b, (l : List UInt8)[i2]? = some b := ⟨_, List.getElem?_eq_getElem Tw.om⟩
               have lb10 := b10.toNat_lt
               refine vp (i := 4) (v := .int .u8 ((b10.toNat : Nat) : Int)) rfl rfl rfl (run_idxS (j := .i64) (l := l) (k := i2) (b := b10) rfl Tryz.underlying9 Tw.kr Tw.kr hb10) ?_
               have hb48 := hall i2 b10 Tw.om hb10
               refine vp (i := 5) (v := .int .u8 (((b10.toNat - 48) : Nat) : Int)) rfl rfl rfl (run_bin rfl (vx := (.int .u8 ((b10.toNat : Nat) : Int))) (vy := (.int .u8 ((48 : Nat) : Int))) Tw.kr Tw.kr fun w => bn_sub (z := (b10.toNat - 48)) rfl Tw.om (wr_u8 Tw.om) w) ?_
               refine vp (i := 6) (v := .int .u64 (((b10.toNat - 48) : Nat) : Int)) rfl rfl rfl (run_conv rfl (vx := (.int .u8 (((b10.toNat - 48) : Nat) : Int))) Tw.kr fun w => cv_int Tryz.underlying5 Tryz.underlying84 (wr_u64 Tw.om) w) ?_
               refine wpV_c (i := 1) (AnsG w Kt (cd (m * 10))) rfl rfl Tw.kr Tw.kr Tw.kf (fun W hW => (scale_any m 10 po co (by decide) Tw.om W ((HO.mono Tw.sb) W hW)).mono fun e w2 h => Ans.g h hW) (fun _ _ h => ansG_sub h) Tw.pf ?_
               rintro v11 _ ⟨q11, d11, T11, rfl, C11, H11, F11, J11, rfl⟩
               obtain dj12_0 : Dj Kt T11 := Tw.djf J11
               refine wpV_c (i := 7) (AnsG w (Kt ++ T11) (cd (b10.toNat - 48))) rfl rfl Tw.kr Tw.kr Tw.kf (fun W hW => (whole_any _ (b10.toNat - 48) rfl Tw.om W).mono fun e w2 h => Ans.g h hW) (fun _ _ h => ansG_sub h) Tw.pf ?_
               rintro v13 _ ⟨q13, d13, T13, rfl, C13, H13, F13, J13, rfl⟩
               obtain ⟨dj14_0, dj14_1⟩ : Dj Kt T13 ∧ Dj T11 T13 := Tw.djf J13
               have hlb1 := dec_bound hml
               have hlb2 := one_bound (y := (b10.toNat - 48)) Tw.om
               refine wpV_c (i := 8) (AnsG w ((Kt ++ T11) ++ T13) (cd ((m * 10) + (b10.toNat - 48)))) rfl rfl Tw.kr Tw.kr Tw.kf (fun W hW => (radd_any (m * 10) (b10.toNat - 48) q11 q13 d11 d13 Tw.om Tw.om W ((H11.mono Tw.sb) W hW) ((H13.mono Tw.sb) W hW)).mono fun e w2 h => Ans.g h hW) (fun _ _ h => ansG_sub h) Tw.pf ?_
               rintro v15 _ ⟨q15, d15, T15, rfl, C15, H15, F15, J15, rfl⟩
               obtain ⟨dj16_0, dj16_1, dj16_2⟩ : Dj Kt T15 ∧ Dj T11 T15 ∧ Dj T13 T15 := Tw.djf J15
               refine vm (i := 9) (v := .slice q15 ((cd ((m * 10) + (b10.toNat - 48))).length) d15) rfl rfl rfl ?_
               refine wpV_done Tw.kr (fun W30 hW30 => ?_) _
               change Code.wp ..
               refine wp_seq ?_
               refine wp_region_L _ hW30 ?_
               refine Tw.mm (.slice q15 ((cd ((m * 10) + (b10.toNat - 48))).length) d15) ?_
               refine Tw.lp (v := .int .i64 ((((cd ((m * 10) + (b10.toNat - 48))).length) : Nat) : Int)) rfl rfl (run_lenL (p := q15) (cap := d15) (n := ((cd ((m * 10) + (b10.toNat - 48))).length)) rfl Tryz.underlying32 Tw.kr) ?_
               refine Tw.lp (v := .bool (decide (16 < ((cd ((m * 10) + (b10.toNat - 48))).length)))) rfl rfl (run_bin rfl (vx := (.int .i64 ((((cd ((m * 10) + (b10.toNat - 48))).length) : Nat) : Int))) (vy := (.int .i64 ((16 : Nat) : Int))) Tw.kr Tw.kr fun w => bn_gtr rfl w) ?_
               refine wpL_done (fun W31 hW31 => ?_)
               change Code.wp ..
               cases hd11 : (decide (16 < ((cd ((m * 10) + (b10.toNat - 48))).length))) with
               | false =>
                 have h11 : ¬ (16 < ((cd ((m * 10) + (b10.toNat - 48))).length)) := of_decide_eq_false hd11
                 clear hd11
                 refine wp_cond_false rfl ?_
                 refine wp_skip ?_
                 change Code.wp ..
                 refine wp_region_L _ hW31 ?_
                 refine Tw.mm (.int .i64 ((i2 : Nat) : Int)) ?_
                 refine Tw.lp (v := .int .i64 (((i2 + 1) : Nat) : Int)) rfl rfl (run_bin rfl (vx := (.int .i64 ((i2 : Nat) : Int))) (vy := (.int .i64 ((1 : Nat) : Int))) Tw.kr Tw.kr fun w => bn_add (z := (i2 + 1)) rfl (wr_i64 Tw.om) w) ?_
                 refine Tw.mm (.int .i64 (((i2 + 1) : Nat) : Int)) ?_
                 refine wpL_done (fun W32 hW32 => ?_)
                 go_roundw
                 case rel =>
                   repeat apply Exists.intro
                   exact ⟨⟨(i2 + 1), q15, d15, (m * 10) + (b10.toNat - 48), (Kt ++ (T11 ++ (T13 ++ T15))), (H15.mono Tw.sb), (fun W3 h => F15 W3 (h.sub Tw.sb) rfl), C15, Tw.om, (by rw [decV_take hb10, hm]), (by have h := h11; omega), rfl, rfl, (hW32.sub Tw.sb)⟩, rfl⟩
                 case measure => (show l.length - (intOf (.int .i64 (((i2 + 1) : Nat) : Int))).toNat < l.length - (intOf (.int .i64 ((i2 : Nat) : Int))).toNat); simp only [intOf]; omega
               | true =>
                 have h11 : 16 < ((cd ((m * 10) + (b10.toNat - 48))).length) := of_decide_eq_true hd11
                 clear hd11
                 refine wp_cond_true rfl ?_
                 refine wp_seq ?_
                 refine wp_region_L _ hW31 ?_
                 refine Tw.mm (.slice none 0 0) ?_
                 refine Tw.mm (.int .i64 2) ?_
                 refine wpL_done (fun W33 hW33 => ?_)
                 change Code.wp ..
                 refine wp_ret ?_
                 try simp only [inBlock_ret, then_ret]
                 refine bodyPost_ret (v := .tuple #[.slice none 0 0, .int .i64 2]) ?_ rfl ?_
                 · kernel_rfl
                 · exact (num_none (num_long (i := i2 + 1) hD Tw.om (by rw [decV_take hb10, ← hm]; exact h11)).1.symm (num_long (i := i2 + 1) hD Tw.om (by rw [decV_take hb10, ← hm]; exact h11)).2.symm hW33.1)
         | true =>
           have h9 : i < l.length := of_decide_eq_true hd9
           clear hd9
           refine wp_cond_true rfl ?_
           refine wp_skip ?_
           change Code.wp ..
           refine wp_seq ?_
           refine wp_block ?_
           refine wp_seq ?_
           refine wp_region_L _ hW24 ?_
           refine Tw.mm (strV l) ?_
           refine Tw.mm (.int .i64 ((i : Nat) : Int)) ?_
           obtain ⟨b17, hb17⟩ : ∃ b, (l : List UInt8)[i]? = some b := ⟨_, List.getElem?_eq_getElem Tw.om⟩
           have lb17 := b17.toNat_lt
           refine Tw.lp (v := .int .u8 ((b17.toNat : Nat) : Int)) rfl rfl (run_idxS (j := .i64) (l := l) (k := i) (b := b17) rfl Tryz.underlying9 Tw.kr Tw.kr hb17) ?_
           refine Tw.lp (v := .bool (decide (b17.toNat < 48))) rfl rfl (run_bin rfl (vx := (.int .u8 ((b17.toNat : Nat) : Int))) (vy := (.int .u8 ((48 : Nat) : Int))) Tw.kr Tw.kr fun w => bn_lss rfl w) ?_
           refine Tw.mm (.bool (decide (b17.toNat < 48))) ?_
           cases hd12 : (decide (b17.toNat < 48)) with
           | false =>
             have h12 : ¬ (b17.toNat < 48) := of_decide_eq_false hd12
             clear hd12
             refine Tw.mm (strV l) ?_
             refine Tw.mm (.int .i64 ((i : Nat) : Int)) ?_
             refine Tw.lp (v := .int .u8 ((b17.toNat : Nat) : Int)) rfl rfl (run_idxS (j := .i64) (l := l) (k := i) (b := b17) rfl Tryz.underlying9 Tw.kr Tw.kr hb17) ?_
             refine Tw.lp (v := .bool (decide (57 < b17.toNat))) rfl rfl (run_bin rfl (vx := (.int .u8 ((b17.toNat : Nat) : Int))) (vy := (.int .u8 ((57 : Nat) : Int))) Tw.kr Tw.kr fun w => bn_gtr rfl w) ?_
             refine Tw.mm (.bool (decide (57 < b17.toNat))) ?_
             refine wpL_done (fun W34 hW34 => ?_)
             change Code.wp ..
             cases hd13 : (decide (57 < b17.toNat)) with
             | false =>
               have h13 : ¬ (57 < b17.toNat) := of_decide_eq_false hd13
               clear hd13
               refine wp_cond_false rfl ?_
               refine wp_skip ?_
               change Code.wp ..
               refine wp_region_L _ hW34 ?_
               refine Tw.mm (.int .i64 ((i : Nat) : Int)) ?_
               refine Tw.lp (v := .int .i64 (((i + 1) : Nat) : Int)) rfl rfl (run_bin rfl (vx := (.int .i64 ((i : Nat) : Int))) (vy := (.int .i64 ((1 : Nat) : Int))) Tw.kr Tw.kr fun w => bn_add (z := (i + 1)) rfl (wr_i64 Tw.om) w) ?_
               refine Tw.mm (.int .i64 (((i + 1) : Nat) : Int)) ?_
               refine wpL_done (fun W35 hW35 => ?_)
               go_roundw
               case rel =>
                 repeat apply Exists.intro
                 exact ⟨⟨(i + 1), Tw.om, (dig_ext hdg hb17 h12 h13), rfl, (hW35.sub Tw.sb)⟩, rfl⟩
               case measure => (show l.length - (intOf (.int .i64 (((i + 1) : Nat) : Int))).toNat < l.length - (intOf (.int .i64 ((i : Nat) : Int))).toNat); simp only [intOf]; omega
             | true =>
               have h13 : 57 < b17.toNat := of_decide_eq_true hd13
               clear hd13
               refine wp_cond_true rfl ?_
               refine wp_seq ?_
               refine wp_region_L _ hW34 ?_
               refine Tw.mm (.slice none 0 0) ?_
               refine Tw.mm (.int .i64 1) ?_
               refine wpL_done (fun W36 hW36 => ?_)
               change Code.wp ..
               refine wp_ret ?_
               try simp only [inBlock_ret, then_ret]
               refine bodyPost_ret (v := .tuple #[.slice none 0 0, .int .i64 1]) ?_ rfl ?_
               · kernel_rfl
               · exact (num_none (num_bad (dig_bad hb17 (.inr h13))).1.symm (num_bad (dig_bad hb17 (.inr h13))).2.symm hW36.1)
           | true =>
             have h12 : b17.toNat < 48 := of_decide_eq_true hd12
             clear hd12
             refine Tw.ln rfl ?_
             refine Tw.ln rfl ?_
             refine Tw.ln rfl ?_
             refine Tw.ln rfl ?_
             refine Tw.mm (.bool true) ?_
             refine wpL_done (fun W37 hW37 => ?_)
             change Code.wp ..
             refine wp_cond_true rfl ?_
             refine wp_seq ?_
             refine wp_region_L _ hW37 ?_
             refine Tw.mm (.slice none 0 0) ?_
             refine Tw.mm (.int .i64 1) ?_
             refine wpL_done (fun W38 hW38 => ?_)
             change Code.wp ..
             refine wp_ret ?_
             try simp only [inBlock_ret, then_ret]
             refine bodyPost_ret (v := .tuple #[.slice none 0 0, .int .i64 1]) ?_ rfl ?_
             · kernel_rfl
             · exact (num_none (num_bad (dig_bad hb17 (.inl h12))).1.symm (num_bad (dig_bad hb17 (.inl h12))).2.symm hW38.1)
 | true =>
   have h1 : l = [] := of_decide_eq_true hd1
   clear hd1
   refine Tw.ln rfl ?_
   refine Tw.ln rfl ?_
   refine Tw.ln rfl ?_
   refine Tw.ln rfl ?_
   refine Tw.ln rfl ?_
   refine Tw.ln rfl ?_
   refine Tw.ln rfl ?_
   refine Tw.mm (.bool true) ?_
   refine wpL_done (fun W39 hW39 => ?_)
   change Code.wp ..
   refine wp_cond_true rfl ?_
   refine wp_seq ?_
   refine wp_region_L _ hW39 ?_
   refine Tw.mm (.slice none 0 0) ?_
   refine Tw.mm (.int .i64 1) ?_
   refine wpL_done (fun W40 hW40 => ?_)
   change Code.wp ..
   refine wp_ret ?_
   try simp only [inBlock_ret, then_ret]
   refine bodyPost_ret (v := .tuple #[.slice none 0 0, .int .i64 1]) ?_ rfl ?_
   · kernel_rfl
   · exact (num_none (num_bad (by rw [h1]; exact dig_empty)).1.symm (num_bad (by rw [h1]; exact dig_empty)).2.symm hW40.1)
end Go.Proofs.YtalmflgkbmnghaaGreatDoor
namespace Go.Proofs.YtalmflgkbmnghaaGreatDoor
open Go Go.RowKit Tw
open Tf (dg R R_pos R_le R_succ dg_of_lt setd setd_eq)
variable [ShLZ]
variable [ShSt]
theorem trim_empty {l : List UInt8} (h : ¬ 0 < l.length) : l = Lib.trimPrefix l [45] := by
 have : l = [] := List.eq_nil_of_length_eq_zero Tw.om
 subst this; rfl
theorem trim_other {l : List UInt8} {b : UInt8} (hb : l[0]? = some b) (h : ¬ b.toNat = 45) : l = Lib.trimPrefix l [45] ∧ rNeg l = false := by
 cases l with
 | nil => simp at hb
 | cons c r =>
   simp only [List.getElem?_cons_zero, Option.some.injEq] at hb
   subst hb
   have h1 : Lib.hasPrefix (c :: r) [45] = false := by
     unfold Lib.hasPrefix
     simp only [List.isPrefixOf, Bool.and_true, beq_eq_false_iff_ne]
     intro e
     rw [← e] at h
     exact h rfl
   exact ⟨by unfold Lib.trimPrefix; rw [h1]; rfl, h1⟩
theorem trim_minus {l : List UInt8} {b : UInt8} (hb : l[0]? = some b) (h : b.toNat = 45) : l.drop 1 = Lib.trimPrefix l [45] ∧ rNeg l = true := by
 cases l with
 | nil => simp at hb
 | cons c r =>
   simp only [List.getElem?_cons_zero, Option.some.injEq] at hb
   subst hb
   have e : c = 45 := UInt8.toNat_inj.1 h
   subst e
   exact ⟨rfl, rfl⟩
def FirstAt (u : List UInt8) (k : Nat) (a : Int) : Prop := (a = -1 ∧ ∀ (j : Nat) (b : UInt8), k ≤ j → u[j]? = some b → ¬ b.toNat = 47) ∨ (∃ i : Nat, a = (i : Int) ∧ (∃ b, u[i]? = some b ∧ b.toNat = 47) ∧ ∀ (j : Nat) (b : UInt8), k ≤ j → j < i → u[j]? = some b → ¬ b.toNat = 47)
theorem FirstAt.start (u : List UInt8) : FirstAt u u.length (-1) := .inl ⟨rfl, fun j b hj hb => by have := (List.getElem?_eq_some_iff.1 hb).1; omega⟩
theorem FirstAt.hit {u : List UInt8} {k : Nat} {b : UInt8} (hb : u[k]? = some b) (h : b.toNat = 47) : FirstAt u k (k : Int) := .inr ⟨k, rfl, ⟨b, hb, h⟩, fun j c h1 h2 => by omega⟩
theorem FirstAt.miss {u : List UInt8} {k : Nat} {a : Int} {b : UInt8} (hF : FirstAt u (k + 1) a) (hb : u[k]? = some b) (h : ¬ b.toNat = 47) : FirstAt u k a := by
 have hk : ∀ (j : Nat) (c : UInt8), k ≤ j → u[j]? = some c → (k + 1 ≤ j) ∨ ¬ c.toNat = 47 := fun j c h1 h2 => by
   rcases Nat.eq_or_lt_of_le h1 with e | e
   · subst e; rw [hb] at h2; cases h2; exact .inr h
   · exact .inl e
 rcases hF with ⟨h1, h2⟩ | ⟨i, h1, h2, h3⟩
 · exact .inl ⟨h1, fun j c h4 h5 => (hk j c h4 h5).elim (fun h6 => h2 j c h6 h5) id⟩
 · exact .inr ⟨i, h1, h2, fun j c h4 h5 h6 => (hk j c h4 h6).elim (fun h7 => h3 j c h7 h5 h6) id⟩
theorem ne47 {b : UInt8} (h : ¬ b.toNat = 47) : b ≠ 47 := fun e => h (by rw [e]; rfl)
theorem first_none {l u : List UInt8} {a : Int} (hu : u = Lib.trimPrefix l [45]) (hF : FirstAt u 0 a) (h : a < 0) : u = (rCut l).1 ∧ [49] = rBelow l := by
 rcases hF with ⟨_, h2⟩ | ⟨i, h1, _⟩
 · have e : rCut l = (u, [], false) := by
     unfold rCut
     rw [← hu]
     exact cut_no (fun b hb => by
       obtain ⟨j, hj⟩ := List.getElem?_of_mem hb
       exact ne47 (h2 j b (Nat.zero_le _) hj))
   unfold rBelow
   rw [e]
   exact ⟨rfl, rfl⟩
 · omega
theorem first_nat {u : List UInt8} {a : Int} (hF : FirstAt u 0 a) (h : ¬ a < 0) : ∃ i : Nat, a = (i : Int) ∧ i < u.length ∧ FirstAt u 0 (i : Int) := by
 rcases hF with ⟨h1, _⟩ | ⟨i, h1, ⟨b, h2, h4⟩, h3⟩
 · omega
 · exact ⟨i, h1, (List.getElem?_eq_some_iff.1 h2).1, .inr ⟨i, rfl, ⟨b, h2, h4⟩, h3⟩⟩
theorem first_some {l u : List UInt8} {i : Nat} (hu : u = Lib.trimPrefix l [45]) (hF : FirstAt u 0 (i : Int)) : u.take i = (rCut l).1 ∧ u.drop (i + 1) = rBelow l := by
 rcases hF with ⟨h1, _⟩ | ⟨j, h1, ⟨b, h2, h4⟩, h3⟩
 · omega
 · obtain rfl : i = j := by omega
   have eb : b = 47 := UInt8.toNat_inj.1 h4
   subst eb
   obtain ⟨hi, hg⟩ := List.getElem?_eq_some_iff.1 h2
   have eu : u = u.take i ++ 47 :: u.drop (i + 1) := by
     have h5 := List.drop_eq_getElem_cons hi
     rw [hg] at h5
     rw [← h5, List.take_append_drop]
   have e : rCut l = (u.take i, u.drop (i + 1), true) := by
     unfold rCut
     rw [← hu]
     conv => lhs; rw [eu]
     exact cut_at _ (fun b hb => by
       obtain ⟨j, hj⟩ := List.getElem?_of_mem hb
       have hj2 := (List.getElem?_eq_some_iff.1 hj).1
       rw [List.length_take] at hj2
       rw [List.getElem?_take_of_lt Tw.om] at hj
       exact ne47 (h3 j b (Nat.zero_le _) Tw.om hj))
   unfold rBelow
   rw [e]
   exact ⟨rfl, rfl⟩
theorem numC_three (a : List UInt8) : numC a = 0 ∨ numC a = 1 ∨ numC a = 2 := by unfold numC; split <;> (try split) <;> simp
theorem numN_lt (a : List UInt8) : numN a < R 8 := by
 unfold numN
 split
 · rename_i h; exact h.2
 · exact R_pos 8
theorem numC_1 {a : List UInt8} (h : numC a = 1) : digL a = false := by
 unfold numC at h
 split at h
 · split at h <;> simp at h
 · rename_i h1; simpa using h1
theorem numC_2 {a : List UInt8} (h : numC a = 2) : digL a = true ∧ ¬ decV a < R 8 := by
 unfold numC at h
 split at h
 · rename_i h1
   split at h
   · simp at h
   · rename_i h2; exact ⟨h1, h2⟩
 · simp at h
theorem numC_0 {a : List UInt8} (h : numC a = 0) : digL a = true ∧ decV a < R 8 ∧ numN a = decV a := by
 unfold numC at h
 split at h
 · rename_i h1
   split at h
   · rename_i h2; exact ⟨h1, h2, by unfold numN; rw [if_pos ⟨h1, h2⟩]⟩
   · simp at h
 · simp at h
theorem numC_no1 {a : List UInt8} (h : ¬ numC a = 1) : digL a = true := by
 rcases numC_three a with h1 | h1 | h1
 · exact (numC_0 h1).1
 · exact absurd h1 h
 · exact (numC_2 h1).1
theorem read10 {l : List UInt8} (h : numC (rCut l).1 = 1 ∨ numC (rBelow l) = 1 ∨ (numC (rBelow l) = 0 ∧ (cd (numN (rBelow l))).length = 0)) : (Value.tuple #[.agg (frcC false 0 0), .int .i64 10]) = readV l := by
 refine (readV_dig ?_).symm
 rcases h with h | h | ⟨h, h2⟩
 · rw [numC_1 h]; rfl
 · rw [numC_1 h]; simp
 · obtain ⟨h3, h4, h5⟩ := numC_0 h
   have h6 : rBelow l = [48] := dec_zero_only h3 (by rw [← h5]; exact cd_len0.1 h2)
   rw [h6]; simp
theorem below_ok {a : List UInt8} (h : ¬ numC a = 1) (h0 : ¬ numC a = 0 ∨ ¬ (cd (numN a)).length = 0) : (a == [48]) = false := by
 cases hb : (a == [48]) with
 | false => rfl
 | true =>
   exfalso
   rw [beq_iff_eq] at hb
   subst hb
   have d : digL [48] = true := rfl
   have v : decV [48] = 0 := rfl
   have e1 : numC [48] = 0 := by unfold numC; rw [if_pos d, v, if_pos (R_pos 8)]
   have e2 : numN [48] = 0 := by unfold numN; rw [if_pos ⟨d, by rw [v]; exact R_pos 8⟩, v]
   rcases h0 with h0 | h0
   · exact h0 e1
   · exact h0 (by rw [e2, cd_zero]; rfl)
theorem pok_2 {a : List UInt8} (h : numC a = 2) : pOk a = false := by
 obtain ⟨h1, h2⟩ := numC_2 h
 rw [pok_iff h1]
 simpa using h2
theorem read3 {l : List UInt8} (h1 : ¬ numC (rCut l).1 = 1) (h2 : ¬ numC (rBelow l) = 1) (h3 : ¬ numC (rBelow l) = 0 ∨ ¬ (cd (numN (rBelow l))).length = 0) (h : numC (rCut l).1 = 2 ∨ numC (rBelow l) = 2) : (Value.tuple #[.agg (frcC false 0 0), .int .i64 3]) = readV l := by
 refine (readV_long ?_ ?_).symm
 · rw [numC_no1 h1, numC_no1 h2, below_ok h2 h3]; rfl
 · rcases h with h | h
   · rw [pok_2 h]; rfl
   · rw [pok_2 h]; simp
theorem red_right {neg : Bool} {N M : Nat} (hM : 0 < M) : rightB (neg && decide (N / Nat.gcd N M ≠ 0)) (N / Nat.gcd N M) (M / Nat.gcd N M) = true := by
 have hg : 0 < Nat.gcd N M := Nat.gcd_pos_of_pos_right _ hM
 have hc : Nat.gcd (N / Nat.gcd N M) (M / Nat.gcd N M) = 1 := Nat.coprime_div_gcd_div_gcd hg
 have hY : 0 < M / Nat.gcd N M := Nat.div_pos (Nat.le_of_dvd hM (Nat.gcd_dvd_right N M)) hg
 unfold rightB
 split
 · rename_i h0
   rw [h0, Nat.gcd_zero_left] at hc
   simp [h0, hc]
 · exact decide_eq_true ⟨by omega, hc⟩
theorem read_end {l : List UInt8} {neg : Bool} (h1 : numC (rCut l).1 = 0) (h2 : numC (rBelow l) = 0) (h3 : ¬ (cd (numN (rBelow l))).length = 0) (hn : neg = rNeg l) :
   readV l = if textL (neg && decide (numN (rCut l).1 / Nat.gcd (numN (rCut l).1) (numN (rBelow l)) ≠ 0)) (numN (rCut l).1 / Nat.gcd (numN (rCut l).1) (numN (rBelow l))) (numN (rBelow l) / Nat.gcd (numN (rCut l).1) (numN (rBelow l))) = l then .tuple #[.agg (frcC (neg && decide (numN (rCut l).1 / Nat.gcd (numN (rCut l).1) (numN (rBelow l)) ≠ 0)) (numN (rCut l).1 / Nat.gcd (numN (rCut l).1) (numN (rBelow l))) (numN (rBelow l) / Nat.gcd (numN (rCut l).1) (numN (rBelow l)))), .int .i64 0] else .tuple #[.agg (frcC false 0 0), .int .i64 11] := by
 obtain ⟨d1, b1, n1⟩ := numC_0 h1
 obtain ⟨d2, b2, n2⟩ := numC_0 h2
 have hM : 0 < numN (rBelow l) := Nat.pos_of_ne_zero (fun h => h3 (cd_len0.2 h))
 have hX : numN (rCut l).1 / Nat.gcd (numN (rCut l).1) (numN (rBelow l)) < R 8 := Nat.lt_of_le_of_lt (Nat.div_le_self _ _) (numN_lt _)
 have hY : numN (rBelow l) / Nat.gcd (numN (rCut l).1) (numN (rBelow l)) < R 8 := Nat.lt_of_le_of_lt (Nat.div_le_self _ _) (numN_lt _)
 split
 · rename_i ht
   have h := read_text (red_right (neg := neg) (N := numN (rCut l).1) hM) hX hY
   rw [ht] at h
   exact h
 · rename_i ht
   have p1 : pOk (rCut l).1 = true := by rw [pok_iff d1]; exact decide_eq_true b1
   have p2 : pOk (rBelow l) = true := by rw [pok_iff d2]; exact decide_eq_true b2
   have v1 : pVal (rCut l).1 = numN (rCut l).1 := by rw [pval_ok p1, n1]
   have v2 : pVal (rBelow l) = numN (rBelow l) := by rw [pval_ok p2, n2]
   unfold readV
   rw [if_pos ⟨d1, d2, below_ok (by rw [h2]; decide) (.inr h3)⟩, if_pos ⟨p1, p2⟩, if_neg, frc]
   rintro ⟨r1, r2⟩
   rw [v1, v2, ← hn] at r1 r2
   have hr : rightB neg (numN (rCut l).1) (numN (rBelow l)) = true := by
     unfold rErr at r1
     split at r1
     · rename_i h; exact h
     · simp at r1
   unfold rText at r2
   rw [if_pos hr, beq_iff_eq] at r2
   obtain ⟨x, _, e2, e3, e4⟩ := right_rat hr
   have hg : Nat.gcd (numN (rCut l).1) (numN (rBelow l)) = 1 := by rw [← e3, ← e2]; exact x.reduced
   rw [hg, Nat.div_one, Nat.div_one] at ht
   apply ht
   have hneg : (neg && decide (numN (rCut l).1 ≠ 0)) = neg := by
     unfold rightB at hr
     split at hr
     · rename_i h0; simp at hr; simp [hr.1]
     · rename_i h0; simp [h0]
   rw [hneg]
   exact r2
theorem cut_lens (l : List UInt8) : (rCut l).1.length ≤ l.length ∧ (rBelow l).length ≤ l.length + 1 := by
 have h1 := trim_le l [45]
 have h2 := cut_le (Lib.trimPrefix l [45]) [47]
 constructor
 · unfold rCut; omega
 · unfold rBelow rCut; split
   · omega
   · simp
theorem neg_of {l : List UInt8} {b : UInt8} (hb : l[0]? = some b) : decide (b.toNat = 45) = rNeg l := by
 by_cases h : b.toNat = 45
 · rw [(trim_minus hb h).2]; simpa using h
 · rw [(trim_other hb h).2]; simpa using h
end Go.Proofs.YtalmflgkbmnghaaGreatDoor

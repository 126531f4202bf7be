import Derived.Test.YtldhjhjomokkgaaG03
/- ShipBeside: the law holds for every input; no condition but the row's own. -/
set_option linter.unusedVariables false
set_option linter.unusedSimpArgs false
set_option linter.unusedSectionVars false
namespace Go.Proofs.Ytldhjhjomokkgaa
open Go Go.RowKit Tw
set_option maxRecDepth 100000 in
set_option maxHeartbeats 4000000 in
theorem ShipBeside_law (l : List Pl) (p : Option Addr) (c : Nat) (n : Nat) (hl : l.length ≤ 9223372036854775807) (hcap : l.length ≤ c) (hok : ∀ y ∈ l, plOk y) (hn : n ≤ 4294967295) (a b d : Nat) (ha : a ≤ 255) (hb : b ≤ 255) (hd : d ≤ 255) (w : World) (hp : SLV w p (l.flatMap plC)) : Calls Try.prog 6 #[.slice p l.length c, .int .u32 ((n : Nat) : Int), .int .u8 ((a : Nat) : Int), .int .u8 ((b : Nat) : Int), .int .u8 ((d : Nat) : Int)] w fun e w' => e = .returned (.bool true) ∧ Below w.heap.size w w' := by
  have HP := Lib.hid hp
  clear hp
  obtain ⟨cs, hcs⟩ : ∃ cs, builtC l = cs := ⟨_, rfl⟩
  have hg : Good cs := hcs ▸ built_good l
  obtain ⟨h0, h12⟩ : 0 < cs.length ∧ cs.length ≤ 12 := hcs ▸ built_len l
  obtain ⟨i, hi⟩ : ∃ i, a = a ∧ a % cs.length = i := ⟨_, rfl, rfl⟩
  replace hi := hi.2
  have hil : i < cs.length := by rw [← hi]; exact Nat.mod_lt _ h0
  obtain ⟨ci, hci, hxi⟩ := good_at hg hil
  have hzi := colx_in hxi
  obtain ⟨k, hk⟩ : ∃ k, a = a ∧ b % cs.length = k := ⟨_, rfl, rfl⟩
  replace hk := hk.2
  have hkl : k < cs.length := by rw [← hk]; exact Nat.mod_lt _ h0
  obtain ⟨ck, hck, hxk⟩ := good_at hg hkl
  have hzk := colx_in hxk
  obtain ⟨j, hj⟩ : ∃ j, a = a ∧ d % cs.length = j := ⟨_, rfl, rfl⟩
  replace hj := hj.2
  have hjl : j < cs.length := by rw [← hj]; exact Nat.mod_lt _ h0
  obtain ⟨cj, hcj, hxj⟩ := good_at hg hjl
  have hzj := colx_in hxj
  obtain ⟨hBik, hNik⟩ := ap_is hg hci hck
  obtain ⟨hBki, hNki⟩ := ap_is hg hck hci
  obtain ⟨hBkj, hNkj⟩ := ap_is hg hck hcj
  obtain ⟨hBij, hNij⟩ := ap_is hg hci hcj
  have hn2 := bes_len hg hil
  go_enter Try.func6, Try.ntmps6
  refine wp_seq ?_
  refine wp_region_L (W0 := w) [] (KS.start w) ?_
  refine lm (v := .bool false) rfl rfl ?_
  refine wpL_done (fun W1 hW1 => ?_)
  refine (show Code.wp _ _ _ _ _ from ?_)
  refine wp_seq ?_
  refine wp_region_L (W0 := w) [] (hW1) ?_
  refine lm (v := .slice p l.length c) rfl rfl ?_
  refine lm (v := .int .u32 ((n : Nat) : Int)) rfl rfl ?_
  refine wpL_c (f := 31) (args := #[.slice p l.length c, .int .u32 ((n : Nat) : Int)]) (ShipT w cs (builtO n)) rfl (by kernel_rfl) (fun _ => (by kernel_rfl)) (fun W hW => (by have h9 := Built_any l p c n hl hcap hok hn (RL.base HP.out) W hW; rw [hcs] at h9; exact h9)) (fun _ => by simp only [List.setIfInBounds_toArray, List.set_cons_succ, List.set_cons_zero] <;> rfl) ?_
  rintro _ TS ⟨pcS, ccS, osS, poS, coS, rfl, hccS, hcoS, hCS, hOS, hRS, hMS⟩
  refine wpL_rebase fun WB hWB => ?_
  have HCS := Lib.hid (hCS WB hWB)
  have HOS := Lib.hid (hOS WB hWB)
  have HRS := Lib.hid (hRS WB hWB)
  clear hCS hOS hRS
  have hoS : GoodO (osS.map fun o => (o.bay, o.rows)) := by rw [hMS]; exact builtO_sub n
  have lrS := goodO_rows hoS
  have HPS := Lib.hid ((good_plugs hg).1 WB)
  have lpS := (good_plugs hg).2
  have loS : osS.length ≤ 10 := by have h8 := congrArg List.length hMS; rw [List.length_map] at h8; have h9 := builtO_len n; omega
  refine wpL_new (fun g => .pointer (some ⟨g, 0, none⟩)) (obi := .cells (shC (.slice none 0 0) (.slice none 0 0) tl0).toArray 32 (0, 0)) rfl rfl (fun _ => by kernel_rfl) (fun _ => by simp only [List.setIfInBounds_toArray, List.set_cons_succ, List.set_cons_zero] <;> rfl) fun g1 Bg1 Fg1 => ?_
  refine wpL_s [(g1, .cells (shC (.slice pcS cs.length ccS) (.slice poS osS.length coS) tl0).toArray 32 (0, 0))] rfl rfl (st_row (off := 0) (v := .agg (shC (.slice pcS cs.length ccS) (.slice poS osS.length coS) tl0).toArray) rfl (by kernel_rfl) (by kernel_rfl) (.head _) Bg1 (by kernel_rfl) (by first | (simp [Value.cells]; done) | exact Nat.le_of_ble_eq_true rfl) (fun v hv => shC_one v hv) (by kernel_rfl) (List.forall_mem_cons.2 ⟨.inl rfl, (List.forall_mem_nil _)⟩)) ?_
  refine wpL_done (fun W2 hW2 => ?_)
  refine (show Code.wp _ _ _ _ _ from ?_)
  refine wp_seq ?_
  refine wp_region_L (W0 := WB) [(g1, .cells (shC (.slice pcS cs.length ccS) (.slice poS osS.length coS) tl0).toArray 32 (0, 0))] (hW2) ?_
  refine lm (v := .pointer (some ⟨g1, 0, none⟩)) rfl rfl ?_
  refine lv (v := .slice pcS cs.length ccS) rfl rfl (yb_cell (off := 0) rfl (by kernel_rfl) (.head _) Try.underlying22 rfl (by kernel_rfl)) ?_
  refine lp (v := .int .i64 ((cs.length : Nat) : Int)) rfl rfl (run_lenL (p := pcS) (cap := ccS) (n := cs.length) rfl Try.underlying22 (by kernel_rfl)) ?_
  refine lm (v := .int .i64 ((cs.length : Nat) : Int)) rfl rfl ?_
  refine wpL_done (fun W3 hW3 => ?_)
  refine (show Code.wp _ _ _ _ _ from ?_)
  refine wp_seq ?_
  refine wp_region_V (W0 := WB) [(g1, .cells (shC (.slice pcS cs.length ccS) (.slice poS osS.length coS) tl0).toArray 32 (0, 0))] (by kernel_rfl) (hW3) ?_
  refine vm (i := 0) (v := .int .u8 ((a : Nat) : Int)) rfl rfl rfl ?_
  refine vp (i := 1) (v := .int .i64 ((a : Nat) : Int)) rfl rfl rfl (run_conv rfl (vx := (.int .u8 ((a : Nat) : Int))) (by kernel_rfl) fun w => cv_int Try.underlying5 Try.underlying3 (wr_i64 (by omega)) w) ?_
  refine vm (i := 2) (v := .int .i64 ((cs.length : Nat) : Int)) rfl rfl rfl ?_
  refine vp (i := 3) (v := .int .i64 ((i : Nat) : Int)) rfl rfl rfl (run_bin rfl (vx := (.int .i64 ((a : Nat) : Int))) (vy := (.int .i64 ((cs.length : Nat) : Int))) (by kernel_rfl) (by kernel_rfl) fun w => bn_rem (z := i) hi (by omega) w) ?_
  refine vm (i := 4) (v := .int .u8 ((b : Nat) : Int)) rfl rfl rfl ?_
  refine vp (i := 5) (v := .int .i64 ((b : Nat) : Int)) rfl rfl rfl (run_conv rfl (vx := (.int .u8 ((b : Nat) : Int))) (by kernel_rfl) fun w => cv_int Try.underlying5 Try.underlying3 (wr_i64 (by omega)) w) ?_
  refine vm (i := 6) (v := .int .i64 ((cs.length : Nat) : Int)) rfl rfl rfl ?_
  refine vp (i := 7) (v := .int .i64 ((k : Nat) : Int)) rfl rfl rfl (run_bin rfl (vx := (.int .i64 ((b : Nat) : Int))) (vy := (.int .i64 ((cs.length : Nat) : Int))) (by kernel_rfl) (by kernel_rfl) fun w => bn_rem (z := k) hk (by omega) w) ?_
  refine vm (i := 8) (v := .int .u8 ((d : Nat) : Int)) rfl rfl rfl ?_
  refine vp (i := 9) (v := .int .i64 ((d : Nat) : Int)) rfl rfl rfl (run_conv rfl (vx := (.int .u8 ((d : Nat) : Int))) (by kernel_rfl) fun w => cv_int Try.underlying5 Try.underlying3 (wr_i64 (by omega)) w) ?_
  refine vm (i := 10) (v := .int .i64 ((cs.length : Nat) : Int)) rfl rfl rfl ?_
  refine vp (i := 11) (v := .int .i64 ((j : Nat) : Int)) rfl rfl rfl (run_bin rfl (vx := (.int .i64 ((d : Nat) : Int))) (vy := (.int .i64 ((cs.length : Nat) : Int))) (by kernel_rfl) (by kernel_rfl) fun w => bn_rem (z := j) hj (by omega) w) ?_
  refine vm (i := 12) (v := .int .i64 ((i : Nat) : Int)) rfl rfl rfl ?_
  refine vm (i := 13) (v := .int .i64 ((k : Nat) : Int)) rfl rfl rfl ?_
  refine vm (i := 14) (v := .int .i64 ((j : Nat) : Int)) rfl rfl rfl ?_
  refine wpV_done (by kernel_rfl) (fun W4 hW4 => ?_) _
  refine (show Code.wp _ _ _ _ _ from ?_)
  refine wp_seq ?_
  refine wp_region_L (W0 := WB) [(g1, .cells (shC (.slice pcS cs.length ccS) (.slice poS osS.length coS) tl0).toArray 32 (0, 0))] (hW4) ?_
  refine lv (v := .agg (shC (.slice pcS cs.length ccS) (.slice poS osS.length coS) tl0).toArray) rfl rfl (yb_load (n := 13) (off := 0) rfl (by kernel_rfl) (.head _) Try.underlying32 rfl (by kernel_rfl) (by first | (simp [Value.cells]; done) | exact Nat.le_of_ble_eq_true rfl) (by kernel_rfl)) ?_
  refine lm (v := .int .i64 ((i : Nat) : Int)) rfl rfl ?_
  refine wpL_c (f := 29) (args := #[.agg (shC (.slice pcS cs.length ccS) (.slice poS osS.length coS) tl0).toArray, .int .i64 ((i : Nat) : Int)]) (OutRL inC WB [(g1, .cells (shC (.slice pcS cs.length ccS) (.slice poS osS.length coS) tl0).toArray 32 (0, 0))] (besideX cs ((i : Nat) : Int))) rfl (by kernel_rfl) (fun _ => (by kernel_rfl)) (fun W hW => calls_r hW (Beside_any cs pcS ccS (by omega) osS poS coS (by omega) tl0 ((i : Nat) : Int) W ((RL.base HCS.out) _ (hW.sub (fun _ h => by cases h))) ((RL.base HOS.out) _ (hW.sub (fun _ h => by cases h))))) (fun _ => by simp only [List.setIfInBounds_toArray, List.set_cons_succ, List.set_cons_zero] <;> rfl) ?_
  rintro _ _ ⟨p2, c2, Kl2, rfl, n2, R2, N2, rfl⟩
  obtain dj3_0 : Dk g1 Kl2 := by simpa only [dj_app_l, dj_app_r, dj_cons_l, dj_cons_r, dj_nil_l, dj_nil_r, dk_app, dk_cons, dk_nil, and_true, true_and, and_assoc] using (show Dj [(g1, .cells (shC (.slice pcS cs.length ccS) (.slice poS osS.length coS) tl0).toArray 32 (0, 0))] Kl2 from N2)
  refine lm (v := .slice p2 ((besideX cs ((i : Nat) : Int)).length) c2) rfl rfl ?_
  refine wpL_done (fun W5 hW5 => ?_)
  refine (show Code.wp _ _ _ _ _ from ?_)
  refine wp_seq ?_
  refine wp_seq ?_
  refine wp_region_L (W0 := WB) ((g1, .cells (shC (.slice pcS cs.length ccS) (.slice poS osS.length coS) tl0).toArray 32 (0, 0)) :: Kl2) (hW5) ?_
  refine lm (v := .slice p2 ((besideX cs ((i : Nat) : Int)).length) c2) rfl rfl ?_
  refine lp (v := .int .i64 ((((besideX cs ((i : Nat) : Int)).length) : Nat) : Int)) rfl rfl (run_lenL (p := p2) (cap := c2) (n := (besideX cs ((i : Nat) : Int)).length) rfl Try.underlying39 (by kernel_rfl)) ?_
  refine lp (v := .bool false) rfl rfl (run_bin rfl (vx := (.int .i64 ((((besideX cs ((i : Nat) : Int)).length) : Nat) : Int))) (vy := (.int .i64 ((2 : Nat) : Int))) (by kernel_rfl) (by kernel_rfl) fun w => bn_gtr (decide_eq_false (by omega)) w) ?_
  refine wpL_done (fun W6 hW6 => ?_)
  refine (show Code.wp _ _ _ _ _ from ?_)
  refine wp_cond_false rfl ?_
  refine wp_skip ?_
  refine (show Code.wp _ _ _ _ _ from ?_)
  refine wp_seq ?_
  refine wp_seq ?_
  refine wp_region_L (W0 := WB) ((g1, .cells (shC (.slice pcS cs.length ccS) (.slice poS osS.length coS) tl0).toArray 32 (0, 0)) :: Kl2) (hW6) ?_
  refine lm (v := .slice p2 ((besideX cs ((i : Nat) : Int)).length) c2) rfl rfl ?_
  refine lp (v := .int .i64 ((((besideX cs ((i : Nat) : Int)).length) : Nat) : Int)) rfl rfl (run_lenL (p := p2) (cap := c2) (n := (besideX cs ((i : Nat) : Int)).length) rfl Try.underlying39 (by kernel_rfl)) ?_
  refine lm (v := .int .i64 0) rfl rfl ?_
  refine wpL_done (fun W7 hW7 => ?_)
  refine (show Code.wp _ _ _ _ _ from ?_)
  refine wp_block ?_
  go_loopw [58] (fun u58 wr => ∃ (m : Nat), (m ≤ (besideX cs ((i : Nat) : Int)).length) ∧ u58 = .int .i64 ((m : Nat) : Int) ∧ KS WB ((g1, .cells (shC (.slice pcS cs.length ccS) (.slice poS osS.length coS) tl0).toArray 32 (0, 0)) :: Kl2) wr) (fun u58 _ => (besideX cs ((i : Nat) : Int)).length - (intOf u58).toNat)
  case atStart => exact ⟨0, (Nat.zero_le _), rfl, (hW7.sub (fun p hp => by first | exact hp | (simp only [List.mem_cons, List.mem_append, List.nil_append, List.not_mem_nil, or_assoc, or_false, false_or] at hp ⊢ <;> grind)))⟩
  case round =>
    obtain ⟨m, hm, rfl, hL8⟩ := hrel
    refine wp_seq ?_
    refine wp_region_L (W0 := WB) ((g1, .cells (shC (.slice pcS cs.length ccS) (.slice poS osS.length coS) tl0).toArray 32 (0, 0)) :: Kl2) (hL8) ?_
    refine lp (v := .bool (decide (m < ((besideX cs ((i : Nat) : Int)).length)))) rfl rfl (run_bin rfl (vx := (.int .i64 ((m : Nat) : Int))) (vy := (.int .i64 ((((besideX cs ((i : Nat) : Int)).length) : Nat) : Int))) (by kernel_rfl) (by kernel_rfl) fun w => bn_lss rfl w) ?_
    refine wpL_done (fun W9 hW9 => ?_)
    refine (show Code.wp _ _ _ _ _ from ?_)
    refine wp_seq ?_
    cases hd1 : (decide (m < ((besideX cs ((i : Nat) : Int)).length))) with
    | false =>
      have h1 : ¬ (m < ((besideX cs ((i : Nat) : Int)).length)) := of_decide_eq_false hd1
      clear hd1
      refine wp_cond_false rfl ?_
      refine wp_exit ?_
      refine (show Code.wp _ _ _ _ _ from ?_)
      refine wp_seq ?_
      refine wp_region_L (W0 := WB) ((g1, .cells (shC (.slice pcS cs.length ccS) (.slice poS osS.length coS) tl0).toArray 32 (0, 0)) :: Kl2) (hW9) ?_
      refine lv (v := .agg (shC (.slice pcS cs.length ccS) (.slice poS osS.length coS) tl0).toArray) rfl rfl (yb_load (n := 13) (off := 0) rfl (by kernel_rfl) (.head _) Try.underlying32 rfl (by kernel_rfl) (by first | (simp [Value.cells]; done) | exact Nat.le_of_ble_eq_true rfl) (by kernel_rfl)) ?_
      refine lm (v := .int .i64 ((i : Nat) : Int)) rfl rfl ?_
      refine lm (v := .int .i64 ((k : Nat) : Int)) rfl rfl ?_
      refine lv (v := .tuple #[.int .i64 (apN cs ((i : Nat) : Int) ((k : Nat) : Int)), .bool (apB cs ((i : Nat) : Int) ((k : Nat) : Int))]) rfl rfl (yb_call (f := 27) (args := #[.agg (shC (.slice pcS cs.length ccS) (.slice poS osS.length coS) tl0).toArray, .int .i64 ((i : Nat) : Int), .int .i64 ((k : Nat) : Int)]) (fun _ => by kernel_rfl) fun W hW => Apart_any cs pcS ccS (by omega) osS poS coS (by omega) tl0 ((i : Nat) : Int) ((k : Nat) : Int) W ((RL.base HCS.out) _ (hW.sub (fun _ h => by cases h))) ((RL.base HOS.out) _ (hW.sub (fun _ h => by cases h)))) ?_
      refine lm (v := .tuple #[.int .i64 (apN cs ((i : Nat) : Int) ((k : Nat) : Int)), .bool (apB cs ((i : Nat) : Int) ((k : Nat) : Int))]) rfl rfl ?_
      refine lm (v := .int .i64 (apN cs ((i : Nat) : Int) ((k : Nat) : Int))) rfl rfl ?_
      refine lm (v := .bool (apB cs ((i : Nat) : Int) ((k : Nat) : Int))) rfl rfl ?_
      refine lm (v := .int .i64 (apN cs ((i : Nat) : Int) ((k : Nat) : Int))) rfl rfl ?_
      refine lm (v := .bool (apB cs ((i : Nat) : Int) ((k : Nat) : Int))) rfl rfl ?_
      refine wpL_done (fun W10 hW10 => ?_)
      refine (show Code.wp _ _ _ _ _ from ?_)
      refine wp_seq ?_
      refine wp_region_L (W0 := WB) ((g1, .cells (shC (.slice pcS cs.length ccS) (.slice poS osS.length coS) tl0).toArray 32 (0, 0)) :: Kl2) (hW10) ?_
      refine lv (v := .agg (shC (.slice pcS cs.length ccS) (.slice poS osS.length coS) tl0).toArray) rfl rfl (yb_load (n := 13) (off := 0) rfl (by kernel_rfl) (.head _) Try.underlying32 rfl (by kernel_rfl) (by first | (simp [Value.cells]; done) | exact Nat.le_of_ble_eq_true rfl) (by kernel_rfl)) ?_
      refine lm (v := .int .i64 ((k : Nat) : Int)) rfl rfl ?_
      refine lm (v := .int .i64 ((i : Nat) : Int)) rfl rfl ?_
      refine lv (v := .tuple #[.int .i64 (apN cs ((k : Nat) : Int) ((i : Nat) : Int)), .bool (apB cs ((k : Nat) : Int) ((i : Nat) : Int))]) rfl rfl (yb_call (f := 27) (args := #[.agg (shC (.slice pcS cs.length ccS) (.slice poS osS.length coS) tl0).toArray, .int .i64 ((k : Nat) : Int), .int .i64 ((i : Nat) : Int)]) (fun _ => by kernel_rfl) fun W hW => Apart_any cs pcS ccS (by omega) osS poS coS (by omega) tl0 ((k : Nat) : Int) ((i : Nat) : Int) W ((RL.base HCS.out) _ (hW.sub (fun _ h => by cases h))) ((RL.base HOS.out) _ (hW.sub (fun _ h => by cases h)))) ?_
      refine lm (v := .tuple #[.int .i64 (apN cs ((k : Nat) : Int) ((i : Nat) : Int)), .bool (apB cs ((k : Nat) : Int) ((i : Nat) : Int))]) rfl rfl ?_
      refine lm (v := .int .i64 (apN cs ((k : Nat) : Int) ((i : Nat) : Int))) rfl rfl ?_
      refine lm (v := .bool (apB cs ((k : Nat) : Int) ((i : Nat) : Int))) rfl rfl ?_
      refine lm (v := .int .i64 (apN cs ((k : Nat) : Int) ((i : Nat) : Int))) rfl rfl ?_
      refine lm (v := .bool (apB cs ((k : Nat) : Int) ((i : Nat) : Int))) rfl rfl ?_
      refine wpL_done (fun W11 hW11 => ?_)
      refine (show Code.wp _ _ _ _ _ from ?_)
      refine wp_seq ?_
      refine wp_region_L (W0 := WB) ((g1, .cells (shC (.slice pcS cs.length ccS) (.slice poS osS.length coS) tl0).toArray 32 (0, 0)) :: Kl2) (hW11) ?_
      refine lv (v := .agg (shC (.slice pcS cs.length ccS) (.slice poS osS.length coS) tl0).toArray) rfl rfl (yb_load (n := 13) (off := 0) rfl (by kernel_rfl) (.head _) Try.underlying32 rfl (by kernel_rfl) (by first | (simp [Value.cells]; done) | exact Nat.le_of_ble_eq_true rfl) (by kernel_rfl)) ?_
      refine lm (v := .int .i64 ((k : Nat) : Int)) rfl rfl ?_
      refine lm (v := .int .i64 ((j : Nat) : Int)) rfl rfl ?_
      refine lv (v := .tuple #[.int .i64 (apN cs ((k : Nat) : Int) ((j : Nat) : Int)), .bool (apB cs ((k : Nat) : Int) ((j : Nat) : Int))]) rfl rfl (yb_call (f := 27) (args := #[.agg (shC (.slice pcS cs.length ccS) (.slice poS osS.length coS) tl0).toArray, .int .i64 ((k : Nat) : Int), .int .i64 ((j : Nat) : Int)]) (fun _ => by kernel_rfl) fun W hW => Apart_any cs pcS ccS (by omega) osS poS coS (by omega) tl0 ((k : Nat) : Int) ((j : Nat) : Int) W ((RL.base HCS.out) _ (hW.sub (fun _ h => by cases h))) ((RL.base HOS.out) _ (hW.sub (fun _ h => by cases h)))) ?_
      refine lm (v := .tuple #[.int .i64 (apN cs ((k : Nat) : Int) ((j : Nat) : Int)), .bool (apB cs ((k : Nat) : Int) ((j : Nat) : Int))]) rfl rfl ?_
      refine lm (v := .int .i64 (apN cs ((k : Nat) : Int) ((j : Nat) : Int))) rfl rfl ?_
      refine lm (v := .bool (apB cs ((k : Nat) : Int) ((j : Nat) : Int))) rfl rfl ?_
      refine lm (v := .int .i64 (apN cs ((k : Nat) : Int) ((j : Nat) : Int))) rfl rfl ?_
      refine lm (v := .bool (apB cs ((k : Nat) : Int) ((j : Nat) : Int))) rfl rfl ?_
      refine wpL_done (fun W12 hW12 => ?_)
      refine (show Code.wp _ _ _ _ _ from ?_)
      refine wp_seq ?_
      refine wp_region_L (W0 := WB) ((g1, .cells (shC (.slice pcS cs.length ccS) (.slice poS osS.length coS) tl0).toArray 32 (0, 0)) :: Kl2) (hW12) ?_
      refine lv (v := .agg (shC (.slice pcS cs.length ccS) (.slice poS osS.length coS) tl0).toArray) rfl rfl (yb_load (n := 13) (off := 0) rfl (by kernel_rfl) (.head _) Try.underlying32 rfl (by kernel_rfl) (by first | (simp [Value.cells]; done) | exact Nat.le_of_ble_eq_true rfl) (by kernel_rfl)) ?_
      refine lm (v := .int .i64 ((i : Nat) : Int)) rfl rfl ?_
      refine lm (v := .int .i64 ((j : Nat) : Int)) rfl rfl ?_
      refine lv (v := .tuple #[.int .i64 (apN cs ((i : Nat) : Int) ((j : Nat) : Int)), .bool (apB cs ((i : Nat) : Int) ((j : Nat) : Int))]) rfl rfl (yb_call (f := 27) (args := #[.agg (shC (.slice pcS cs.length ccS) (.slice poS osS.length coS) tl0).toArray, .int .i64 ((i : Nat) : Int), .int .i64 ((j : Nat) : Int)]) (fun _ => by kernel_rfl) fun W hW => Apart_any cs pcS ccS (by omega) osS poS coS (by omega) tl0 ((i : Nat) : Int) ((j : Nat) : Int) W ((RL.base HCS.out) _ (hW.sub (fun _ h => by cases h))) ((RL.base HOS.out) _ (hW.sub (fun _ h => by cases h)))) ?_
      refine lm (v := .tuple #[.int .i64 (apN cs ((i : Nat) : Int) ((j : Nat) : Int)), .bool (apB cs ((i : Nat) : Int) ((j : Nat) : Int))]) rfl rfl ?_
      refine lm (v := .int .i64 (apN cs ((i : Nat) : Int) ((j : Nat) : Int))) rfl rfl ?_
      refine lm (v := .bool (apB cs ((i : Nat) : Int) ((j : Nat) : Int))) rfl rfl ?_
      refine lm (v := .int .i64 (apN cs ((i : Nat) : Int) ((j : Nat) : Int))) rfl rfl ?_
      refine lm (v := .bool (apB cs ((i : Nat) : Int) ((j : Nat) : Int))) rfl rfl ?_
      refine wpL_done (fun W13 hW13 => ?_)
      refine (show Code.wp _ _ _ _ _ from ?_)
      refine wp_seq ?_
      refine wp_region_V (W0 := WB) ((g1, .cells (shC (.slice pcS cs.length ccS) (.slice poS osS.length coS) tl0).toArray 32 (0, 0)) :: Kl2) (by kernel_rfl) (hW13) ?_
      refine vm (i := 0) (v := .bool (apB cs ((i : Nat) : Int) ((k : Nat) : Int))) rfl rfl rfl ?_
      refine vm (i := 1) (v := .bool (apB cs ((i : Nat) : Int) ((k : Nat) : Int))) rfl rfl rfl ?_
      cases h2 : (apB cs ((i : Nat) : Int) ((k : Nat) : Int)) with
      | false =>
        exact absurd (show (apB cs ((i : Nat) : Int) ((k : Nat) : Int)) = true by assumption) (by rw [h2]; decide)
      | true =>
        refine vm (i := 2) (v := .bool (apB cs ((k : Nat) : Int) ((i : Nat) : Int))) rfl rfl rfl ?_
        refine vm (i := 3) (v := .bool (apB cs ((k : Nat) : Int) ((i : Nat) : Int))) rfl rfl rfl ?_
        refine vm (i := 4) (v := .bool (apB cs ((k : Nat) : Int) ((i : Nat) : Int))) rfl rfl rfl ?_
        cases h3 : (apB cs ((k : Nat) : Int) ((i : Nat) : Int)) with
        | false =>
          exact absurd (show (apB cs ((k : Nat) : Int) ((i : Nat) : Int)) = true by assumption) (by rw [h3]; decide)
        | true =>
          refine vm (i := 5) (v := .bool (apB cs ((k : Nat) : Int) ((j : Nat) : Int))) rfl rfl rfl ?_
          refine vm (i := 6) (v := .bool (apB cs ((k : Nat) : Int) ((j : Nat) : Int))) rfl rfl rfl ?_
          refine vm (i := 7) (v := .bool (apB cs ((k : Nat) : Int) ((j : Nat) : Int))) rfl rfl rfl ?_
          cases h4 : (apB cs ((k : Nat) : Int) ((j : Nat) : Int)) with
          | false =>
            exact absurd (show (apB cs ((k : Nat) : Int) ((j : Nat) : Int)) = true by assumption) (by rw [h4]; decide)
          | true =>
            refine vm (i := 8) (v := .bool (apB cs ((i : Nat) : Int) ((j : Nat) : Int))) rfl rfl rfl ?_
            refine vm (i := 9) (v := .bool (apB cs ((i : Nat) : Int) ((j : Nat) : Int))) rfl rfl rfl ?_
            refine vm (i := 10) (v := .bool (apB cs ((i : Nat) : Int) ((j : Nat) : Int))) rfl rfl rfl ?_
            cases h5 : (apB cs ((i : Nat) : Int) ((j : Nat) : Int)) with
            | false =>
              exact absurd (show (apB cs ((i : Nat) : Int) ((j : Nat) : Int)) = true by assumption) (by rw [h5]; decide)
            | true =>
              refine vm (i := 11) (v := .int .i64 (apN cs ((i : Nat) : Int) ((k : Nat) : Int))) rfl rfl rfl ?_
              refine vm (i := 12) (v := .int .i64 (apN cs ((k : Nat) : Int) ((i : Nat) : Int))) rfl rfl rfl ?_
              refine vp (i := 13) (v := .bool (decide ((apN cs ((i : Nat) : Int) ((k : Nat) : Int)) = (apN cs ((k : Nat) : Int) ((i : Nat) : Int))))) rfl rfl rfl (run_bin rfl (vx := (.int .i64 (apN cs ((i : Nat) : Int) ((k : Nat) : Int)))) (vy := (.int .i64 (apN cs ((k : Nat) : Int) ((i : Nat) : Int)))) (by kernel_rfl) (by kernel_rfl) fun w => bi_eql rfl w) ?_
              refine vm (i := 14) (v := .bool (decide ((apN cs ((i : Nat) : Int) ((k : Nat) : Int)) = (apN cs ((k : Nat) : Int) ((i : Nat) : Int))))) rfl rfl rfl ?_
              refine vm (i := 15) (v := .bool (decide ((apN cs ((i : Nat) : Int) ((k : Nat) : Int)) = (apN cs ((k : Nat) : Int) ((i : Nat) : Int))))) rfl rfl rfl ?_
              cases hd6 : (decide ((apN cs ((i : Nat) : Int) ((k : Nat) : Int)) = (apN cs ((k : Nat) : Int) ((i : Nat) : Int)))) with
              | false =>
                have h6 : ¬ ((apN cs ((i : Nat) : Int) ((k : Nat) : Int)) = (apN cs ((k : Nat) : Int) ((i : Nat) : Int))) := of_decide_eq_false hd6
                clear hd6
                exact absurd (show (apN cs ((i : Nat) : Int) ((k : Nat) : Int)) = (apN cs ((k : Nat) : Int) ((i : Nat) : Int)) by omega) h6
              | true =>
                have h6 : (apN cs ((i : Nat) : Int) ((k : Nat) : Int)) = (apN cs ((k : Nat) : Int) ((i : Nat) : Int)) := of_decide_eq_true hd6
                clear hd6
                refine vm (i := 16) (v := .int .i64 (apN cs ((i : Nat) : Int) ((j : Nat) : Int))) rfl rfl rfl ?_
                refine vm (i := 17) (v := .int .i64 (apN cs ((i : Nat) : Int) ((k : Nat) : Int))) rfl rfl rfl ?_
                refine vm (i := 18) (v := .int .i64 (apN cs ((k : Nat) : Int) ((j : Nat) : Int))) rfl rfl rfl ?_
                refine vp (i := 19) (v := .int .i64 ((apN cs ((i : Nat) : Int) ((k : Nat) : Int)) + (apN cs ((k : Nat) : Int) ((j : Nat) : Int)))) rfl rfl rfl (run_bin rfl (vx := (.int .i64 (apN cs ((i : Nat) : Int) ((k : Nat) : Int)))) (vy := (.int .i64 (apN cs ((k : Nat) : Int) ((j : Nat) : Int)))) (by kernel_rfl) (by kernel_rfl) fun w => bi_add (z := ((apN cs ((i : Nat) : Int) ((k : Nat) : Int)) + (apN cs ((k : Nat) : Int) ((j : Nat) : Int)))) rfl (wi_i64 (by omega)) w) ?_
                refine vp (i := 20) (v := .bool (!(decide (((apN cs ((i : Nat) : Int) ((k : Nat) : Int)) + (apN cs ((k : Nat) : Int) ((j : Nat) : Int))) < (apN cs ((i : Nat) : Int) ((j : Nat) : Int)))))) rfl rfl rfl (run_bin rfl (vx := (.int .i64 (apN cs ((i : Nat) : Int) ((j : Nat) : Int)))) (vy := (.int .i64 ((apN cs ((i : Nat) : Int) ((k : Nat) : Int)) + (apN cs ((k : Nat) : Int) ((j : Nat) : Int))))) (by kernel_rfl) (by kernel_rfl) fun w => bi_leq rfl w) ?_
                refine vm (i := 21) (v := .bool (!(decide (((apN cs ((i : Nat) : Int) ((k : Nat) : Int)) + (apN cs ((k : Nat) : Int) ((j : Nat) : Int))) < (apN cs ((i : Nat) : Int) ((j : Nat) : Int)))))) rfl rfl rfl ?_
                refine vm (i := 22) (v := .bool (!(decide (((apN cs ((i : Nat) : Int) ((k : Nat) : Int)) + (apN cs ((k : Nat) : Int) ((j : Nat) : Int))) < (apN cs ((i : Nat) : Int) ((j : Nat) : Int)))))) rfl rfl rfl ?_
                cases hd7 : (decide (((apN cs ((i : Nat) : Int) ((k : Nat) : Int)) + (apN cs ((k : Nat) : Int) ((j : Nat) : Int))) < (apN cs ((i : Nat) : Int) ((j : Nat) : Int)))) with
                | false =>
                  have h7 : ¬ (((apN cs ((i : Nat) : Int) ((k : Nat) : Int)) + (apN cs ((k : Nat) : Int) ((j : Nat) : Int))) < (apN cs ((i : Nat) : Int) ((j : Nat) : Int))) := of_decide_eq_false hd7
                  clear hd7
                  refine vm (i := 23) (v := .int .i64 (apN cs ((i : Nat) : Int) ((k : Nat) : Int))) rfl rfl rfl ?_
                  refine vp (i := 24) (v := .bool (decide ((apN cs ((i : Nat) : Int) ((k : Nat) : Int)) = 0))) rfl rfl rfl (run_bin rfl (vx := (.int .i64 (apN cs ((i : Nat) : Int) ((k : Nat) : Int)))) (vy := (.int .i64 0)) (by kernel_rfl) (by kernel_rfl) fun w => bi_eql rfl w) ?_
                  refine vm (i := 25) (v := .pointer (some ⟨g1, 0, none⟩)) rfl rfl rfl ?_
                  refine vv (i := 26) (v := .slice pcS cs.length ccS) rfl rfl rfl (yb_cell (off := 0) rfl (by kernel_rfl) (.head _) Try.underlying22 rfl (by kernel_rfl)) ?_
                  refine vm (i := 27) (v := .int .i64 ((i : Nat) : Int)) rfl rfl rfl ?_
                  obtain ⟨y4, g4_, f4_, hy4, hp4, hc4⟩ := RL.at (RL.base HCS.out) colC_len (by decide) (hW13.sub (fun _ h => by cases h)) (k := i) (by omega)
                  have ey4 : y4 = ci := by rw [hci] at hy4; exact (Option.some.inj hy4).symm
                  subst ey4
                  refine vp (i := 28) (v := .pointer (some ⟨g4_, f4_ + i * 12, none⟩)) rfl rfl rfl (run_idxQ (p := pcS) (cap := ccS) (n := cs.length) (j := .i64) (k := i) (sz := 12) rfl Try.underlying22 (by kernel_rfl) (by kernel_rfl) hp4 (by kernel_rfl) (by omega)) ?_
                  refine vm (i := 29) (v := .pointer (some ⟨g4_, f4_ + i * 12, none⟩)) rfl rfl rfl ?_
                  refine vv (i := 30) (v := .int .i64 y4.bay) rfl rfl rfl (yb_rf (v := .int .i64 y4.bay) rfl (by kernel_rfl) (fun W hW => hc4 W (hW.sub (fun _ h => by cases h)) 0 _ rfl) Try.underlying3 rfl) ?_
                  refine vm (i := 31) (v := .pointer (some ⟨g1, 0, none⟩)) rfl rfl rfl ?_
                  refine vv (i := 32) (v := .slice pcS cs.length ccS) rfl rfl rfl (yb_cell (off := 0) rfl (by kernel_rfl) (.head _) Try.underlying22 rfl (by kernel_rfl)) ?_
                  refine vm (i := 33) (v := .int .i64 ((k : Nat) : Int)) rfl rfl rfl ?_
                  obtain ⟨y5, g5_, f5_, hy5, hp5, hc5⟩ := RL.at (RL.base HCS.out) colC_len (by decide) (hW13.sub (fun _ h => by cases h)) (k := k) (by omega)
                  have ey5 : y5 = ck := by rw [hck] at hy5; exact (Option.some.inj hy5).symm
                  subst ey5
                  refine vp (i := 34) (v := .pointer (some ⟨g5_, f5_ + k * 12, none⟩)) rfl rfl rfl (run_idxQ (p := pcS) (cap := ccS) (n := cs.length) (j := .i64) (k := k) (sz := 12) rfl Try.underlying22 (by kernel_rfl) (by kernel_rfl) hp5 (by kernel_rfl) (by omega)) ?_
                  refine vm (i := 35) (v := .pointer (some ⟨g5_, f5_ + k * 12, none⟩)) rfl rfl rfl ?_
                  refine vv (i := 36) (v := .int .i64 y5.bay) rfl rfl rfl (yb_rf (v := .int .i64 y5.bay) rfl (by kernel_rfl) (fun W hW => hc5 W (hW.sub (fun _ h => by cases h)) 0 _ rfl) Try.underlying3 rfl) ?_
                  refine vp (i := 37) (v := .bool (decide (y4.bay = y5.bay))) rfl rfl rfl (run_bin rfl (vx := (.int .i64 y4.bay)) (vy := (.int .i64 y5.bay)) (by kernel_rfl) (by kernel_rfl) fun w => bi_eql rfl w) ?_
                  refine vp (i := 38) (v := .bool ((decide ((apN cs ((i : Nat) : Int) ((k : Nat) : Int)) = 0)) == (decide (y4.bay = y5.bay)))) rfl rfl rfl (run_bin rfl (vx := .bool (decide ((apN cs ((i : Nat) : Int) ((k : Nat) : Int)) = 0))) (vy := .bool (decide (y4.bay = y5.bay))) (by kernel_rfl) (by kernel_rfl) fun w => bn_bool_eql rfl Try.underlying4 w) ?_
                  refine vm (i := 39) (v := .bool ((decide ((apN cs ((i : Nat) : Int) ((k : Nat) : Int)) = 0)) == (decide (y4.bay = y5.bay)))) rfl rfl rfl ?_
                  refine vm (i := 40) (v := .bool ((decide ((apN cs ((i : Nat) : Int) ((k : Nat) : Int)) = 0)) == (decide (y4.bay = y5.bay)))) rfl rfl rfl ?_
                  cases h8 : ((decide ((apN cs ((i : Nat) : Int) ((k : Nat) : Int)) = 0)) == (decide (y4.bay = y5.bay))) with
                  | false =>
                    exact absurd (show ((decide ((apN cs ((i : Nat) : Int) ((k : Nat) : Int)) = 0)) == (decide (y4.bay = y5.bay))) = true by rw [decide_eq_decide.2 (show ((apN cs ((i : Nat) : Int) ((k : Nat) : Int)) = 0) ↔ (y4.bay = y5.bay) by omega)]; exact beq_self_eq_true _) (by rw [h8]; decide)
                  | true =>
                    refine vv (i := 41) (v := .bool true) rfl rfl rfl (yb_call (f := 10) (args := #[]) (fun _ => by kernel_rfl) fun W hW => awake_any W) ?_
                    refine vm (i := 42) (v := .bool true) rfl rfl rfl ?_
                    refine vm (i := 43) (v := .bool true) rfl rfl rfl ?_
                    refine wpV_done (by kernel_rfl) (fun W14 hW14 => ?_) _
                    refine (show Code.wp _ _ _ _ _ from ?_)
                    refine wp_ret ?_
                    try simp only [inBlock_ret, then_ret]
                    refine bodyPost_ret (v := .bool true) ?_ rfl ?_
                    · kernel_rfl
                    · exact ⟨rfl, (hWB.1.trans (hW14.1.mono hWB.1.size))⟩
                | true =>
                  have h7 : ((apN cs ((i : Nat) : Int) ((k : Nat) : Int)) + (apN cs ((k : Nat) : Int) ((j : Nat) : Int))) < (apN cs ((i : Nat) : Int) ((j : Nat) : Int)) := of_decide_eq_true hd7
                  clear hd7
                  exact absurd h7 (by omega)
    | true =>
      have h1 : m < ((besideX cs ((i : Nat) : Int)).length) := of_decide_eq_true hd1
      clear hd1
      refine wp_cond_true rfl ?_
      refine wp_skip ?_
      refine (show Code.wp _ _ _ _ _ from ?_)
      refine wp_seq ?_
      refine wp_block ?_
      refine wp_seq ?_
      refine wp_region_L (W0 := WB) ((g1, .cells (shC (.slice pcS cs.length ccS) (.slice poS osS.length coS) tl0).toArray 32 (0, 0)) :: Kl2) (hW9) ?_
      obtain ⟨y6, g6_, f6_, hy6, hp6, hc6⟩ := RL.at R2 inC_len (by decide) (hW9.sub (fun p hp => by simp only [List.mem_cons, List.mem_append, List.nil_append, List.not_mem_nil, or_assoc, or_false, false_or, hp, true_or, or_true])) (k := m) (by omega)
      obtain ⟨j6, rfl, jl6, jn6, jb6, jz6, jm6⟩ := bes_at hg hil hy6
      have jn26 := bes_len hg jl6
      refine lp (v := .pointer (some ⟨g6_, f6_ + m * 1, none⟩)) rfl rfl (run_idxQ (p := p2) (cap := c2) (n := (besideX cs ((i : Nat) : Int)).length) (j := .i64) (k := m) (sz := 1) rfl Try.underlying39 (by kernel_rfl) (by kernel_rfl) hp6 (by kernel_rfl) (by omega)) ?_
      refine lv (v := .int .i64 ((j6 : Nat) : Int)) rfl rfl (yb_rf (v := .int .i64 ((j6 : Nat) : Int)) rfl (by kernel_rfl) (fun W hW => hc6 W (hW.sub (fun p hp => by simp only [List.mem_cons, List.mem_append, List.nil_append, List.not_mem_nil, or_assoc, or_false, false_or, hp, true_or, or_true])) 0 _ rfl) Try.underlying3 rfl) ?_
      refine lm (v := .int .i64 ((j6 : Nat) : Int)) rfl rfl ?_
      refine wpL_done (fun W15 hW15 => ?_)
      refine (show Code.wp _ _ _ _ _ from ?_)
      refine wp_seq ?_
      refine wp_region_L (W0 := WB) ((g1, .cells (shC (.slice pcS cs.length ccS) (.slice poS osS.length coS) tl0).toArray 32 (0, 0)) :: Kl2) (hW15) ?_
      refine lm (v := .bool false) rfl rfl ?_
      refine wpL_done (fun W16 hW16 => ?_)
      refine (show Code.wp _ _ _ _ _ from ?_)
      refine wp_seq ?_
      refine wp_seq ?_
      refine wp_region_L (W0 := WB) ((g1, .cells (shC (.slice pcS cs.length ccS) (.slice poS osS.length coS) tl0).toArray 32 (0, 0)) :: Kl2) (hW16) ?_
      refine lv (v := .agg (shC (.slice pcS cs.length ccS) (.slice poS osS.length coS) tl0).toArray) rfl rfl (yb_load (n := 13) (off := 0) rfl (by kernel_rfl) (.head _) Try.underlying32 rfl (by kernel_rfl) (by first | (simp [Value.cells]; done) | exact Nat.le_of_ble_eq_true rfl) (by kernel_rfl)) ?_
      refine lm (v := .int .i64 ((j6 : Nat) : Int)) rfl rfl ?_
      refine wpL_c (f := 29) (args := #[.agg (shC (.slice pcS cs.length ccS) (.slice poS osS.length coS) tl0).toArray, .int .i64 ((j6 : Nat) : Int)]) (OutRL inC WB ((g1, .cells (shC (.slice pcS cs.length ccS) (.slice poS osS.length coS) tl0).toArray 32 (0, 0)) :: Kl2) (besideX cs ((j6 : Nat) : Int))) rfl (by kernel_rfl) (fun _ => (by kernel_rfl)) (fun W hW => calls_r hW (Beside_any cs pcS ccS (by omega) osS poS coS (by omega) tl0 ((j6 : Nat) : Int) W ((RL.base HCS.out) _ (hW.sub (fun _ h => by cases h))) ((RL.base HOS.out) _ (hW.sub (fun _ h => by cases h))))) (fun _ => by simp only [List.setIfInBounds_toArray, List.set_cons_succ, List.set_cons_zero] <;> rfl) ?_
      rintro _ _ ⟨p7, c7, Kl7, rfl, n7, R7, N7, rfl⟩
      obtain ⟨dj8_0, dj8_1⟩ : Dk g1 Kl7 ∧ Dj Kl2 Kl7 := by simpa only [dj_app_l, dj_app_r, dj_cons_l, dj_cons_r, dj_nil_l, dj_nil_r, dk_app, dk_cons, dk_nil, and_true, true_and, and_assoc] using (show Dj ((g1, .cells (shC (.slice pcS cs.length ccS) (.slice poS osS.length coS) tl0).toArray 32 (0, 0)) :: Kl2) Kl7 from N7)
      refine wpL_sub (K2 := ((g1, .cells (shC (.slice pcS cs.length ccS) (.slice poS osS.length coS) tl0).toArray 32 (0, 0)) :: (Kl2 ++ Kl7))) (fun p hp => by simp only [List.mem_cons, List.mem_append, or_assoc] at hp ⊢; exact hp) ?_
      refine lp (v := .int .i64 ((((besideX cs ((j6 : Nat) : Int)).length) : Nat) : Int)) rfl rfl (run_lenL (p := p7) (cap := c7) (n := (besideX cs ((j6 : Nat) : Int)).length) rfl Try.underlying39 (by kernel_rfl)) ?_
      refine lm (v := .int .i64 0) rfl rfl ?_
      refine wpL_done (fun W17 hW17 => ?_)
      refine (show Code.wp _ _ _ _ _ from ?_)
      refine wp_block ?_
      go_loopw [66, 19] (fun u66 u19 wr => ∃ (r : Nat) (bk : Bool), (r ≤ (besideX cs ((j6 : Nat) : Int)).length) ∧ (bk = true ↔ ((i : Nat) : Int) ∈ (besideX cs ((j6 : Nat) : Int)).take r) ∧ u66 = .int .i64 ((r : Nat) : Int) ∧ u19 = .bool bk ∧ KS WB ((g1, .cells (shC (.slice pcS cs.length ccS) (.slice poS osS.length coS) tl0).toArray 32 (0, 0)) :: (Kl2 ++ Kl7)) wr) (fun u66 _ _ => (besideX cs ((j6 : Nat) : Int)).length - (intOf u66).toNat)
      case atStart => exact ⟨0, false, (Nat.zero_le _), (by simp), rfl, rfl, (hW17.sub (fun p hp => by first | exact hp | (simp only [List.mem_cons, List.mem_append, List.nil_append, List.not_mem_nil, or_assoc, or_false, false_or] at hp ⊢ <;> grind)))⟩
      case round =>
        obtain ⟨r, bk, hr, hbk, rfl, rfl, hL18⟩ := hrel
        refine wp_seq ?_
        refine wp_region_L (W0 := WB) ((g1, .cells (shC (.slice pcS cs.length ccS) (.slice poS osS.length coS) tl0).toArray 32 (0, 0)) :: (Kl2 ++ Kl7)) (hL18) ?_
        refine lp (v := .bool (decide (r < ((besideX cs ((j6 : Nat) : Int)).length)))) rfl rfl (run_bin rfl (vx := (.int .i64 ((r : Nat) : Int))) (vy := (.int .i64 ((((besideX cs ((j6 : Nat) : Int)).length) : Nat) : Int))) (by kernel_rfl) (by kernel_rfl) fun w => bn_lss rfl w) ?_
        refine wpL_done (fun W19 hW19 => ?_)
        refine (show Code.wp _ _ _ _ _ from ?_)
        refine wp_seq ?_
        cases hd9 : (decide (r < ((besideX cs ((j6 : Nat) : Int)).length))) with
        | false =>
          have h9 : ¬ (r < ((besideX cs ((j6 : Nat) : Int)).length)) := of_decide_eq_false hd9
          clear hd9
          refine wp_cond_false rfl ?_
          refine wp_exit ?_
          refine (show Code.wp _ _ _ _ _ from ?_)
          refine wp_seq ?_
          refine wp_region_L (W0 := WB) ((g1, .cells (shC (.slice pcS cs.length ccS) (.slice poS osS.length coS) tl0).toArray 32 (0, 0)) :: (Kl2 ++ Kl7)) (hW19) ?_
          refine lv (v := .agg (shC (.slice pcS cs.length ccS) (.slice poS osS.length coS) tl0).toArray) rfl rfl (yb_load (n := 13) (off := 0) rfl (by kernel_rfl) (.head _) Try.underlying32 rfl (by kernel_rfl) (by first | (simp [Value.cells]; done) | exact Nat.le_of_ble_eq_true rfl) (by kernel_rfl)) ?_
          refine lm (v := .int .i64 ((i : Nat) : Int)) rfl rfl ?_
          refine lm (v := .int .i64 ((j6 : Nat) : Int)) rfl rfl ?_
          refine lv (v := .tuple #[.int .i64 (apN cs ((i : Nat) : Int) ((j6 : Nat) : Int)), .bool (apB cs ((i : Nat) : Int) ((j6 : Nat) : Int))]) rfl rfl (yb_call (f := 27) (args := #[.agg (shC (.slice pcS cs.length ccS) (.slice poS osS.length coS) tl0).toArray, .int .i64 ((i : Nat) : Int), .int .i64 ((j6 : Nat) : Int)]) (fun _ => by kernel_rfl) fun W hW => Apart_any cs pcS ccS (by omega) osS poS coS (by omega) tl0 ((i : Nat) : Int) ((j6 : Nat) : Int) W ((RL.base HCS.out) _ (hW.sub (fun _ h => by cases h))) ((RL.base HOS.out) _ (hW.sub (fun _ h => by cases h)))) ?_
          refine lm (v := .tuple #[.int .i64 (apN cs ((i : Nat) : Int) ((j6 : Nat) : Int)), .bool (apB cs ((i : Nat) : Int) ((j6 : Nat) : Int))]) rfl rfl ?_
          refine lm (v := .int .i64 (apN cs ((i : Nat) : Int) ((j6 : Nat) : Int))) rfl rfl ?_
          refine lm (v := .bool (apB cs ((i : Nat) : Int) ((j6 : Nat) : Int))) rfl rfl ?_
          refine lm (v := .int .i64 (apN cs ((i : Nat) : Int) ((j6 : Nat) : Int))) rfl rfl ?_
          refine lm (v := .bool (apB cs ((i : Nat) : Int) ((j6 : Nat) : Int))) rfl rfl ?_
          refine wpL_done (fun W20 hW20 => ?_)
          refine (show Code.wp _ _ _ _ _ from ?_)
          refine wp_seq ?_
          refine wp_region_L (W0 := WB) ((g1, .cells (shC (.slice pcS cs.length ccS) (.slice poS osS.length coS) tl0).toArray 32 (0, 0)) :: (Kl2 ++ Kl7)) (hW20) ?_
          refine lm (v := .bool bk) rfl rfl ?_
          refine lp (v := .bool (!bk)) rfl rfl (run_un rfl (by kernel_rfl) fun w => un_not w) ?_
          refine lm (v := .bool (!bk)) rfl rfl ?_
          cases h10 : bk with
          | false =>
            exact absurd (hbk.2 (by rw [List.take_of_length_le (by omega)]; exact jm6)) (by rw [h10]; decide)
          | true =>
            refine lm (v := .bool (apB cs ((i : Nat) : Int) ((j6 : Nat) : Int))) rfl rfl ?_
            refine lp (v := .bool (!(apB cs ((i : Nat) : Int) ((j6 : Nat) : Int)))) rfl rfl (run_un rfl (by kernel_rfl) fun w => un_not w) ?_
            refine lm (v := .bool (!(apB cs ((i : Nat) : Int) ((j6 : Nat) : Int)))) rfl rfl ?_
            refine lm (v := .bool (!(apB cs ((i : Nat) : Int) ((j6 : Nat) : Int)))) rfl rfl ?_
            cases h11 : (apB cs ((i : Nat) : Int) ((j6 : Nat) : Int)) with
            | false =>
              exact absurd (show (apB cs ((i : Nat) : Int) ((j6 : Nat) : Int)) = true by assumption) (by rw [h11]; decide)
            | true =>
              refine lm (v := .int .i64 (apN cs ((i : Nat) : Int) ((j6 : Nat) : Int))) rfl rfl ?_
              refine lp (v := .bool (!(decide ((apN cs ((i : Nat) : Int) ((j6 : Nat) : Int)) = 0)))) rfl rfl (run_bin rfl (vx := (.int .i64 (apN cs ((i : Nat) : Int) ((j6 : Nat) : Int)))) (vy := (.int .i64 0)) (by kernel_rfl) (by kernel_rfl) fun w => bi_neq rfl w) ?_
              refine lm (v := .bool (!(decide ((apN cs ((i : Nat) : Int) ((j6 : Nat) : Int)) = 0)))) rfl rfl ?_
              refine lm (v := .bool (!(decide ((apN cs ((i : Nat) : Int) ((j6 : Nat) : Int)) = 0)))) rfl rfl ?_
              cases hd12 : (decide ((apN cs ((i : Nat) : Int) ((j6 : Nat) : Int)) = 0)) with
              | false =>
                have h12 : ¬ ((apN cs ((i : Nat) : Int) ((j6 : Nat) : Int)) = 0) := of_decide_eq_false hd12
                clear hd12
                exact absurd (show (apN cs ((i : Nat) : Int) ((j6 : Nat) : Int)) = 0 by omega) h12
              | true =>
                have h12 : (apN cs ((i : Nat) : Int) ((j6 : Nat) : Int)) = 0 := of_decide_eq_true hd12
                clear hd12
                refine lm (v := .int .i64 ((j6 : Nat) : Int)) rfl rfl ?_
                refine lm (v := .int .i64 ((i : Nat) : Int)) rfl rfl ?_
                refine lp (v := .bool (decide (j6 = i))) rfl rfl (run_bin rfl (vx := (.int .i64 ((j6 : Nat) : Int))) (vy := (.int .i64 ((i : Nat) : Int))) (by kernel_rfl) (by kernel_rfl) fun w => bn_eql rfl w) ?_
                refine lm (v := .bool (decide (j6 = i))) rfl rfl ?_
                refine wpL_done (fun W21 hW21 => ?_)
                refine (show Code.wp _ _ _ _ _ from ?_)
                cases hd13 : (decide (j6 = i)) with
                | false =>
                  have h13 : ¬ (j6 = i) := of_decide_eq_false hd13
                  clear hd13
                  refine wp_cond_false rfl ?_
                  refine wp_skip ?_
                  refine (show Code.wp _ _ _ _ _ from ?_)
                  refine wp_region_L (W0 := WB) ((g1, .cells (shC (.slice pcS cs.length ccS) (.slice poS osS.length coS) tl0).toArray 32 (0, 0)) :: (Kl2 ++ Kl7)) (hW21) ?_
                  refine lp (v := .int .i64 (((m + 1) : Nat) : Int)) rfl rfl (run_bin rfl (vx := (.int .i64 ((m : Nat) : Int))) (vy := (.int .i64 ((1 : Nat) : Int))) (by kernel_rfl) (by kernel_rfl) fun w => bn_add (z := (m + 1)) rfl (wr_i64 (by omega)) w) ?_
                  refine lm (v := .int .i64 (((m + 1) : Nat) : Int)) rfl rfl ?_
                  refine wpL_done (fun W22 hW22 => ?_)
                  go_roundw
                  case rel =>
                    repeat apply Exists.intro
                    exact ⟨⟨m + 1, (by omega), rfl, (hW22.sub (fun p hp => by first | exact hp | (simp only [List.mem_cons, List.mem_append, List.nil_append, List.not_mem_nil, or_assoc, or_false, false_or] at hp ⊢ <;> grind)))⟩, rfl⟩
                  case measure => (show (besideX cs ((i : Nat) : Int)).length - (intOf (.int .i64 (((m + 1) : Nat) : Int))).toNat < (besideX cs ((i : Nat) : Int)).length - (intOf (.int .i64 ((m : Nat) : Int))).toNat); simp only [intOf]; omega
                | true =>
                  have h13 : j6 = i := of_decide_eq_true hd13
                  clear hd13
                  exact absurd h13 jn6
        | true =>
          have h9 : r < ((besideX cs ((j6 : Nat) : Int)).length) := of_decide_eq_true hd9
          clear hd9
          refine wp_cond_true rfl ?_
          refine wp_skip ?_
          refine (show Code.wp _ _ _ _ _ from ?_)
          refine wp_seq ?_
          refine wp_block ?_
          refine wp_seq ?_
          refine wp_region_L (W0 := WB) ((g1, .cells (shC (.slice pcS cs.length ccS) (.slice poS osS.length coS) tl0).toArray 32 (0, 0)) :: (Kl2 ++ Kl7)) (hW19) ?_
          obtain ⟨y9, g9_, f9_, hy9, hp9, hc9⟩ := RL.at R7 inC_len (by decide) (hW19.sub (fun p hp => by simp only [List.mem_cons, List.mem_append, List.nil_append, List.not_mem_nil, or_assoc, or_false, false_or, hp, true_or, or_true])) (k := r) (by omega)
          refine lp (v := .pointer (some ⟨g9_, f9_ + r * 1, none⟩)) rfl rfl (run_idxQ (p := p7) (cap := c7) (n := (besideX cs ((j6 : Nat) : Int)).length) (j := .i64) (k := r) (sz := 1) rfl Try.underlying39 (by kernel_rfl) (by kernel_rfl) hp9 (by kernel_rfl) (by omega)) ?_
          refine lv (v := .int .i64 y9) rfl rfl (yb_rf (v := .int .i64 y9) rfl (by kernel_rfl) (fun W hW => hc9 W (hW.sub (fun p hp => by simp only [List.mem_cons, List.mem_append, List.nil_append, List.not_mem_nil, or_assoc, or_false, false_or, hp, true_or, or_true])) 0 _ rfl) Try.underlying3 rfl) ?_
          refine lm (v := .int .i64 y9) rfl rfl ?_
          refine wpL_done (fun W23 hW23 => ?_)
          refine (show Code.wp _ _ _ _ _ from ?_)
          refine wp_region_L (W0 := WB) ((g1, .cells (shC (.slice pcS cs.length ccS) (.slice poS osS.length coS) tl0).toArray 32 (0, 0)) :: (Kl2 ++ Kl7)) (hW23) ?_
          refine lm (v := .bool bk) rfl rfl ?_
          refine lm (v := .bool bk) rfl rfl ?_
          cases h14 : bk with
          | false =>
            refine lm (v := .int .i64 y9) rfl rfl ?_
            refine lm (v := .int .i64 ((i : Nat) : Int)) rfl rfl ?_
            refine lp (v := .bool (decide (y9 = ((i : Nat) : Int)))) rfl rfl (run_bin rfl (vx := (.int .i64 y9)) (vy := (.int .i64 ((i : Nat) : Int))) (by kernel_rfl) (by kernel_rfl) fun w => bi_eql rfl w) ?_
            refine lm (v := .bool (decide (y9 = ((i : Nat) : Int)))) rfl rfl ?_
            refine lm (v := .bool (decide (y9 = ((i : Nat) : Int)))) rfl rfl ?_
            refine wpL_done (fun W24 hW24 => ?_)
            refine (show Code.wp _ _ _ _ _ from ?_)
            refine wp_region_L (W0 := WB) ((g1, .cells (shC (.slice pcS cs.length ccS) (.slice poS osS.length coS) tl0).toArray 32 (0, 0)) :: (Kl2 ++ Kl7)) (hW24) ?_
            refine lp (v := .int .i64 (((r + 1) : Nat) : Int)) rfl rfl (run_bin rfl (vx := (.int .i64 ((r : Nat) : Int))) (vy := (.int .i64 ((1 : Nat) : Int))) (by kernel_rfl) (by kernel_rfl) fun w => bn_add (z := (r + 1)) rfl (wr_i64 (by omega)) w) ?_
            refine lm (v := .int .i64 (((r + 1) : Nat) : Int)) rfl rfl ?_
            refine wpL_done (fun W25 hW25 => ?_)
            go_roundw
            case rel =>
              repeat apply Exists.intro
              exact ⟨⟨r + 1, (decide (y9 = ((i : Nat) : Int))), (by omega), (by rw [List.take_succ_eq_append_getElem (by omega), List.mem_append, ← hbk, List.mem_singleton, (List.getElem?_eq_some_iff.1 hy9).2]; simp [h14, eq_comm]), rfl, rfl, (hW25.sub (fun p hp => by first | exact hp | (simp only [List.mem_cons, List.mem_append, List.nil_append, List.not_mem_nil, or_assoc, or_false, false_or] at hp ⊢ <;> grind)))⟩, rfl⟩
            case measure => (show (besideX cs ((j6 : Nat) : Int)).length - (intOf (.int .i64 (((r + 1) : Nat) : Int))).toNat < (besideX cs ((j6 : Nat) : Int)).length - (intOf (.int .i64 ((r : Nat) : Int))).toNat); simp only [intOf]; omega
          | true =>
            refine ln rfl ?_
            refine ln rfl ?_
            refine ln rfl ?_
            refine lm (v := .bool true) rfl rfl ?_
            refine lm (v := .bool true) rfl rfl ?_
            refine wpL_done (fun W26 hW26 => ?_)
            refine (show Code.wp _ _ _ _ _ from ?_)
            refine wp_region_L (W0 := WB) ((g1, .cells (shC (.slice pcS cs.length ccS) (.slice poS osS.length coS) tl0).toArray 32 (0, 0)) :: (Kl2 ++ Kl7)) (hW26) ?_
            refine lp (v := .int .i64 (((r + 1) : Nat) : Int)) rfl rfl (run_bin rfl (vx := (.int .i64 ((r : Nat) : Int))) (vy := (.int .i64 ((1 : Nat) : Int))) (by kernel_rfl) (by kernel_rfl) fun w => bn_add (z := (r + 1)) rfl (wr_i64 (by omega)) w) ?_
            refine lm (v := .int .i64 (((r + 1) : Nat) : Int)) rfl rfl ?_
            refine wpL_done (fun W27 hW27 => ?_)
            go_roundw
            case rel =>
              repeat apply Exists.intro
              exact ⟨⟨r + 1, true, (by omega), (by rw [List.take_succ_eq_append_getElem (by omega), List.mem_append, ← hbk, List.mem_singleton, (List.getElem?_eq_some_iff.1 hy9).2]; simp [h14, eq_comm]), rfl, rfl, (hW27.sub (fun p hp => by first | exact hp | (simp only [List.mem_cons, List.mem_append, List.nil_append, List.not_mem_nil, or_assoc, or_false, false_or] at hp ⊢ <;> grind)))⟩, rfl⟩
            case measure => (show (besideX cs ((j6 : Nat) : Int)).length - (intOf (.int .i64 (((r + 1) : Nat) : Int))).toNat < (besideX cs ((j6 : Nat) : Int)).length - (intOf (.int .i64 ((r : Nat) : Int))).toNat); simp only [intOf]; omega
end Go.Proofs.Ytldhjhjomokkgaa
/- ShipBeside holds for every input: the program's own answer is true; each argument reads afterwards as it read before. -/
namespace Go.Proofs.Ytldhjhjomokkgaa
open Go.ChangeShapes Go.WideShapes Go.ChangeAt Go.RowKit Tw
set_option maxRecDepth 100000 in
theorem shipBeside_lifted (os : Os) (started : os.Started) (H : Type) (enc : TypeId × Value → H) :
    ReturnsInHanded {} Try.checked os 6 .any (Rows.shipBesideSpec.pre6 enc Try.prog Try.f6 Rows.shipBesideRow.domain false) (Rows.shipBesideSpec.post enc Try.prog Try.f6 false true false false) := by
  refine returnsInHanded_of_change (C := Try.checked) own started (by kernel_rfl) Try.func6
    (ChangeSpec.witness6 (enc := enc) (C := Try.checked) false ⟨#[], #[.slice none 0 0, .int .u32 0, .int .u8 0, .int .u8 0, .int .u8 0], []⟩ 8 (by kernel_rfl) (by kernel_rfl) (by kernel_rfl) (by kernel_rfl)) ?_
  intro W base args ds gs before hval0 hW _ _
  have hval : ∀ (j : Nat) t v, Try.f6.params[j]? = some t → args[j]? = some v → Value.okWide Try.prog W .any base t v := hval0
  have hW2 := hW
  obtain ⟨p, q, hA0, hV, rfl, hfz, hnd⟩ := hW2
  have hA : DataW.TrodAll enc Try.prog W 0 (fun _ => true) true Try.f6.params.toList args.toList ds p := hA0
  rw [Try.params6] at hA hval
  obtain ⟨v0, vs0, d0, ds0, p0, q0, hargs, rfl, rfl, h0, r0⟩ := trodAll_cons hA
  obtain ⟨v1, vs1, d1, ds1, p1, q1, rfl, rfl, rfl, h1, r1⟩ := trodAll_cons r0
  obtain ⟨v2, vs2, d2, ds2, p2, q2, rfl, rfl, rfl, h2, r2⟩ := trodAll_cons r1
  obtain ⟨v3, vs3, d3, ds3, p3, q3, rfl, rfl, rfl, h3, r3⟩ := trodAll_cons r2
  obtain ⟨v4, vs4, d4, ds4, p4, q4, rfl, rfl, rfl, h4, r4⟩ := trodAll_cons r3
  obtain ⟨rfl, rfl, rfl⟩ := trodAll_nil r4
  obtain rfl : args = #[v0, v1, v2, v3, v4] := by cases args; simp_all
  obtain ⟨rfl, rfl⟩ := trodVars_none hV
  have k0 := h0
  have lt0 : ∀ x ∈ p0, x.block < W.heap.size := by obtain ⟨m, hm⟩ := k0; exact DataW.trod_lt m _ _ _ hm
  obtain ⟨p0_, c0, l0, rfl, hb0, hok0, hl0, hc0⟩ := open_recs (sz := 4) Try.underlying48 opens_pl (by kernel_rfl) (by omega) (fun _ => rfl) (hval 0 48 v0 rfl rfl) h0
  obtain ⟨a1, rfl, rfl, rfl, w1⟩ := open_int Try.underlying49 (hval 1 49 v1 rfl rfl) h1
  have rr1 : 0 ≤ a1 ∧ a1 ≤ 4294967295 := of_wf w1
  obtain ⟨n1, rfl⟩ : ∃ n : Nat, a1 = (n : Int) := ⟨a1.toNat, by omega⟩
  obtain ⟨a2, rfl, rfl, rfl, w2⟩ := open_int Try.underlying5 (hval 2 5 v2 rfl rfl) h2
  have rr2 : 0 ≤ a2 ∧ a2 ≤ 255 := of_wf w2
  obtain ⟨n2, rfl⟩ : ∃ n : Nat, a2 = (n : Int) := ⟨a2.toNat, by omega⟩
  obtain ⟨a3, rfl, rfl, rfl, w3⟩ := open_int Try.underlying5 (hval 3 5 v3 rfl rfl) h3
  have rr3 : 0 ≤ a3 ∧ a3 ≤ 255 := of_wf w3
  obtain ⟨n3, rfl⟩ : ∃ n : Nat, a3 = (n : Int) := ⟨a3.toNat, by omega⟩
  obtain ⟨a4, rfl, rfl, rfl, w4⟩ := open_int Try.underlying5 (hval 4 5 v4 rfl rfl) h4
  have rr4 : 0 ≤ a4 ∧ a4 ≤ 255 := of_wf w4
  obtain ⟨n4, rfl⟩ : ∃ n : Nat, a4 = (n : Int) := ⟨a4.toNat, by omega⟩
  clear hA0 hval0
  refine (ShipBeside_law l0 p0_ c0 n1 (Nat.le_trans hl0 (by unfold maxLen; omega)) hc0 hok0 (by omega) n2 n3 n4 (by omega) (by omega) (by omega) W hb0).mono fun e W' ⟨he, bel⟩ => ?_
  subst he
  exact ⟨_, rfl, _, _, _, [], _, [], hW, (trodAll_cons_mk (shut_bool Try.underlying4 _) trodAll_mk0), (trodAll_cons_mk (Below.trod laidOut (by kernel_rfl) (of_decide_eq_true (by kernel_rfl)) k0 bel lt0) (trodAll_cons_mk (shut_int Try.underlying49 w1) (trodAll_cons_mk (shut_int Try.underlying5 w2) (trodAll_cons_mk (shut_int Try.underlying5 w3) (trodAll_cons_mk (shut_int Try.underlying5 w4) trodAll_mk0))))), rfl, bel.frame _, fun h => by cases h⟩
theorem shipBeside_proved : Rows.ShipBesideSaid :=
  OpenClaim.holds_of_wide 6 Try.f6 rfl rfl rfl rfl rfl rfl rfl ⟨rfl, rfl, rfl, rfl, rfl⟩ rfl rfl rfl rfl rfl (by kernel_rfl) Try.func6 (by kernel_rfl)
    (of_decide_eq_true (by kernel_rfl)) (by unfold Func.isWrapper; first | (rw [if_pos (by decide +kernel)]; kernel_rfl) | (rw [if_neg (by decide +kernel)]; exact ⟨rfl, rfl⟩))
    (fun os started H enc _ => shipBeside_lifted os started H enc)
#print axioms shipBeside_proved
end Go.Proofs.Ytldhjhjomokkgaa

import Derived.Test.YthpooalhibedpaaDoorL9h00
import Derived.Test.YthpooalhibedpaaDoorG02
import Derived.Test.YthpooalhibedpaaDoorG01
import Derived.Test.YthpooalhibedpaaDoorG05
/- Part of the proof: L9g. -/
set_option linter.unusedVariables false
set_option linter.unusedSimpArgs false
set_option linter.unusedSectionVars false
namespace Go.Proofs.YthpooalhibedpaaDoor
open Go Go.RowKit Tw
theorem stepV_gx {P : Program} {md : Region.Mode} {ops : Array Oper} {Q : Exit → Act → World → Prop} {W0 : Base} {i : Nat} {oi : Oper} {d n : Nat} {listed : Array Bool} {tm : Array Value} {df : List Deferred} {K : List (Nat × Obj)} {T : Value → Array Value} (G : Value → List (Nat × Obj) → Prop)
    (hi : ops[i]? = some oi) (hdi : oi.dst = some d) (hs : isStore oi = true) (hw : Region.wanted oi (yielded ops tm) = true)
    (hg : ∀ w, KS W0 K w → ∃ v K' w', (execOp (Act.eval ⟨tm, df⟩) oi).run P w = .ok (.value v) w' ∧ KS W0 K' w' ∧ G v K')
    (hT : ∀ v, tm.setIfInBounds d v = T v)
    (h : ∀ v K', G v K' → wpV P md ops Q W0 n (listed.setIfInBounds i true) ⟨T v, df⟩ K') : StepV P md ops Q W0 n listed ⟨tm, df⟩ K i := by
  refine ⟨oi, hi, .inr (.inr (.inr ⟨G, .inl hs, ⟨hw, fun w hK => (let ⟨_, K', _, h1, h2, h3⟩ := hg w hK; oto_of_run h1 ⟨K', h2, h3⟩)⟩, fun v K' hG => ?_⟩))⟩
  rw [hdi]
  simp only [Act.put]
  rw [hT v]
  exact h v K' hG
theorem txt_dg {n : Nat} {b : UInt8} (h : b ∈ txtN n) : isDg b = true := by
  simp only [txtN, List.mem_cons, List.not_mem_nil, or_false] at h
  rcases h with rfl | rfl | rfl | rfl | rfl | rfl | rfl <;> exact isDg_dgB _
theorem rn_one8 {b : UInt8} {r n : Nat} (hr : Rn b r n) (h : b.toNat < 128) : n = 1 := by unfold Rn at hr; omega
theorem iterPos_of {w : World} {g p : Nat} {s : ByteArray} (h : w.heap[g]? = some (.stringIter s p)) : w.iterPos g = p := by
  unfold World.iterPos
  rw [h]
theorem dg_lt {b : UInt8} (h : isDg b = true) : b.toNat < 128 := by
  unfold isDg at h
  simp only [Bool.and_eq_true, decide_eq_true_eq] at h
  omega
theorem dup_bad8 {cs : List Col} {os : List Cov} {c : Col} (hc : c ∈ cs) : rightX (cs ++ [c]) os = false := by
  cases hq : rightX (cs ++ [c]) os with
  | false => rfl
  | true =>
    obtain ⟨_, h2, _⟩ := right_cols hq
    rw [List.map_append, List.map_singleton, List.nodup_append] at h2
    exact absurd rfl (h2.2.2 _ (List.mem_map_of_mem hc) _ (.head _))
theorem plugs_snoc8 {cs : List Col} {c : Col} (h : Good cs) (hc : c ∈ cs) : ∀ x ∈ cs ++ [c], x.plugs = [] := fun x hx => by
  rcases List.mem_append.1 hx with hx | hx
  · exact (h.1 x hx).2
  · cases List.mem_singleton.1 hx; exact (h.1 _ hc).2
set_option maxRecDepth 100000 in
set_option maxHeartbeats 40000000 in
theorem SlotWrong_any (l : List Pl) (p : Option Addr) (c : Nat) (n : Nat) (hl : l.length ≤ 9223372036854775807) (hcap : l.length ≤ c) (hok : ∀ y ∈ l, plOk y) (hn : n ≤ 4294967295) (x : Slt) (hx : x.half ≤ 255) (v : Int) (b : UInt8) (w : World) (hp : SLV w p (l.flatMap plC)) (hE : Env w) : Calls Tryd.prog 9 #[.slice p l.length c, .int .u32 ((n : Nat) : Int), .agg (sltC x).toArray, .int .i64 v, .int .u8 ((b.toNat : Nat) : Int)] w fun e w' => e = .returned (.bool true) ∧ Below w.heap.size w w' := by
  have HE := Lib.hid hE
  clear hE
  have HP := Lib.hid hp
  clear hp
  obtain ⟨cs, hcs⟩ : ∃ cs, builtC l = cs := ⟨_, rfl⟩
  have hg : Good cs := hcs ▸ built_good l
  obtain ⟨h0, h12⟩ : 0 < cs.length ∧ cs.length ≤ 12 := hcs ▸ built_len l
  have hct : ∀ c ∈ cs, c.tiers ≤ 10 ∧ 1 ≤ c.tiers := fun c hc => by have := colx_in (hg.1 c hc).1; omega
  obtain ⟨ck, hck⟩ : ∃ c, cs[0]? = some c := ⟨_, List.getElem?_eq_getElem h0⟩
  have hs40 := slots_40 (List.mem_of_getElem? hck) (hct ck (List.mem_of_getElem? hck)).2
  have hsl : (slotsX cs 40).length ≤ 4000 := by rw [slots_len]; have h1 := posT_le (cs := cs) (m := 10) (fun c hc => (hct c hc).1); have h2 : (hsX 40).length = 1 := rfl; rw [h2]; omega
  go_enter Tryd.func9, Tryd.ntmps9
  refine wp_seq ?_
  refine wp_region_L (W0 := w) [] (KS.start w) ?_
  refine wpL_new (fun g => .pointer (some ⟨g, 0, none⟩)) (obi := .cells (sltC x).toArray 34 (0, 0)) rfl rfl (fun _ => by kernel_rfl) (fun _ => by simp only [List.setIfInBounds_toArray, List.set_cons_succ, List.set_cons_zero] <;> rfl) fun g1 Bg1 Fg1 => ?_
  refine lm (v := .bool false) rfl rfl ?_
  refine wpL_done (fun W1 hW1 => ?_)
  refine (show Code.wp _ _ _ _ _ from ?_)
  refine wp_seq ?_
  have HG7 := Lib.hid (CapR.of (cs := sltC x) hW1 (.head _))
  have hb7 := hW1.1
  have HP7 := Lib.hid (HP.out.keep hb7)
  refine wp_region_L (W0 := W1) [] ((KS.start W1)) ?_
  refine lm (v := .slice p l.length c) rfl rfl ?_
  refine lm (v := .int .u32 ((n : Nat) : Int)) rfl rfl ?_
  refine wpL_c (f := 33) (args := #[.slice p l.length c, .int .u32 ((n : Nat) : Int)]) (ShipT W1 cs (builtO n)) rfl (by kernel_rfl) (fun _ => (by kernel_rfl)) (fun W hW => (by have h9 := Built_any l p c n hl hcap hok hn (RL.base HP7.out) W hW; rw [hcs] at h9; exact h9)) (fun _ => by simp only [List.setIfInBounds_toArray, List.set_cons_succ, List.set_cons_zero] <;> rfl) ?_
  rintro _ TS ⟨pcS, ccS, osS, poS, coS, rfl, hccS, hcoS, hCS, hOS, hRS, hMS⟩
  refine wpL_rebase fun WB hWB => ?_
  have HCS := Lib.hid (hCS WB hWB)
  have HOS := Lib.hid (hOS WB hWB)
  have HRS := Lib.hid (hRS WB hWB)
  clear hCS hOS hRS
  have hoS : GoodO (osS.map fun o => (o.bay, o.rows)) := by rw [hMS]; exact builtO_sub n
  have lrS := goodO_rows hoS
  have HPS := Lib.hid ((good_plugs hg).1 WB)
  have lpS := (good_plugs hg).2
  have loS : osS.length ≤ 10 := by have h8 := congrArg List.length hMS; rw [List.length_map] at h8; have h9 := builtO_len n; omega
  have hr : rightX cs osS = true := good_right hg h0 h12 hoS
  have hbB := hb7.trans (hWB.1.mono hb7.size)
  have HG7 := Lib.hid (HG7.out.keep hWB.1)
  refine wpL_new (fun g => .pointer (some ⟨g, 0, none⟩)) (obi := .cells (shC (.slice none 0 0) (.slice none 0 0) tl0).toArray 32 (0, 0)) rfl rfl (fun _ => by kernel_rfl) (fun _ => by simp only [List.setIfInBounds_toArray, List.set_cons_succ, List.set_cons_zero] <;> rfl) fun g2 Bg2 Fg2 => ?_
  refine wpL_s [(g2, .cells (shC (.slice pcS cs.length ccS) (.slice poS osS.length coS) tl0).toArray 32 (0, 0))] rfl rfl (st_row (off := 0) (v := .agg (shC (.slice pcS cs.length ccS) (.slice poS osS.length coS) tl0).toArray) rfl (by kernel_rfl) (by kernel_rfl) (.head _) Bg2 (by kernel_rfl) (by first | (simp [Value.cells]; done) | exact Nat.le_of_ble_eq_true rfl) (fun v hv => shC_one v hv) (by kernel_rfl) (List.forall_mem_cons.2 ⟨.inl rfl, (List.forall_mem_nil _)⟩)) ?_
  refine wpL_done (fun W2 hW2 => ?_)
  refine (show Code.wp _ _ _ _ _ from ?_)
  refine wp_seq ?_
  refine wp_region_L (W0 := WB) [(g2, .cells (shC (.slice pcS cs.length ccS) (.slice poS osS.length coS) tl0).toArray 32 (0, 0))] (hW2) ?_
  refine lv (v := .agg (shC (.slice pcS cs.length ccS) (.slice poS osS.length coS) tl0).toArray) rfl rfl (yb_load (n := 13) (off := 0) rfl (by kernel_rfl) (.head _) Tryd.underlying32 rfl (by kernel_rfl) (by first | (simp [Value.cells]; done) | exact Nat.le_of_ble_eq_true rfl) (by kernel_rfl)) ?_
  refine wpL_c (f := 17) (args := #[.agg (shC (.slice pcS cs.length ccS) (.slice poS osS.length coS) tl0).toArray, .int .u8 40]) (OutRL sltC WB [(g2, .cells (shC (.slice pcS cs.length ccS) (.slice poS osS.length coS) tl0).toArray 32 (0, 0))] (slotsX cs 40)) rfl (by kernel_rfl) (fun _ => (by kernel_rfl)) (fun W hW => calls_r hW (All_any cs pcS ccS (by omega) osS poS coS (by omega) tl0 (fun c hc => by have := hct c hc; omega) 40 W ((RL.base HCS.out) _ (hW.sub (fun _ h => by cases h))) ((RL.base HOS.out) _ (hW.sub (fun _ h => by cases h))))) (fun _ => by simp only [List.setIfInBounds_toArray, List.set_cons_succ, List.set_cons_zero] <;> rfl) ?_
  rintro _ _ ⟨p3, c3, Kl3, rfl, n3, R3, N3, rfl⟩
  obtain dj4_0 : Dk g2 Kl3 := by simpa only [dj_app_l, dj_app_r, dj_cons_l, dj_cons_r, dj_nil_l, dj_nil_r, dk_app, dk_cons, dk_nil, and_true, true_and, and_assoc] using (show Dj [(g2, .cells (shC (.slice pcS cs.length ccS) (.slice poS osS.length coS) tl0).toArray 32 (0, 0))] Kl3 from N3)
  refine lm (v := .slice p3 ((slotsX cs 40).length) c3) rfl rfl ?_
  refine wpL_done (fun W3 hW3 => ?_)
  refine (show Code.wp _ _ _ _ _ from ?_)
  refine wp_seq ?_
  refine wp_seq ?_
  refine wp_region_L (W0 := WB) ((g2, .cells (shC (.slice pcS cs.length ccS) (.slice poS osS.length coS) tl0).toArray 32 (0, 0)) :: Kl3) (hW3) ?_
  refine lm (v := .slice p3 ((slotsX cs 40).length) c3) rfl rfl ?_
  refine lp (v := .int .i64 ((((slotsX cs 40).length) : Nat) : Int)) rfl rfl (run_lenL (p := p3) (cap := c3) (n := (slotsX cs 40).length) rfl Tryd.underlying35 (by kernel_rfl)) ?_
  refine lp (v := .bool (decide (((slotsX cs 40).length) = 0))) rfl rfl (run_bin rfl (vx := (.int .i64 ((((slotsX cs 40).length) : Nat) : Int))) (vy := (.int .i64 ((0 : Nat) : Int))) (by kernel_rfl) (by kernel_rfl) fun w => bn_eql rfl w) ?_
  refine wpL_done (fun W4 hW4 => ?_)
  refine (show Code.wp _ _ _ _ _ from ?_)
  cases hd1 : (decide (((slotsX cs 40).length) = 0)) with
  | false =>
    have h1 : ¬ (((slotsX cs 40).length) = 0) := of_decide_eq_false hd1
    clear hd1
    refine wp_cond_false rfl ?_
    refine wp_skip ?_
    refine (show Code.wp _ _ _ _ _ from ?_)
    refine wp_seq ?_
    refine wp_region_V (W0 := WB) ((g2, .cells (shC (.slice pcS cs.length ccS) (.slice poS osS.length coS) tl0).toArray 32 (0, 0)) :: Kl3) (by kernel_rfl) (hW4) ?_
    refine vv (i := 0) (v := .agg (shC (.slice pcS cs.length ccS) (.slice poS osS.length coS) tl0).toArray) rfl rfl rfl (yb_load (n := 13) (off := 0) rfl (by kernel_rfl) (.head _) Tryd.underlying32 rfl (by kernel_rfl) (by first | (simp [Value.cells]; done) | exact Nat.le_of_ble_eq_true rfl) (by kernel_rfl)) ?_
    refine vm (i := 1) (v := .slice p3 ((slotsX cs 40).length) c3) rfl rfl rfl ?_
    obtain ⟨y5, g5_, f5_, hy5, hp5, hc5⟩ := RL.at R3 sltC_len (by decide) (hW4.sub (fun p hp => by simp only [List.mem_cons, List.mem_append, List.nil_append, List.not_mem_nil, or_assoc, or_false, false_or, hp, true_or, or_true])) (k := 0) (by omega)
    have his := slots_is hy5 (.inr rfl)
    obtain ⟨nm, hnm⟩ : ∃ nm, nm = nameX cs y5 := ⟨_, rfl⟩
    have hnm7 : nm.length = 7 := by rw [hnm]; exact nameX_len _ _
    have hnn : nameR cs osS y5 = (nm, 0) := by rw [hnm]; exact name_some hr his
    have hnd : ∀ b ∈ nm, isDg b = true := fun b hb => by rw [hnm] at hb; exact txt_dg hb
    refine vp (i := 2) (v := .pointer (some ⟨g5_, f5_ + 0 * 3, none⟩)) rfl rfl rfl (run_idxQ (p := p3) (cap := c3) (n := (slotsX cs 40).length) (j := .i64) (k := 0) (sz := 3) rfl Tryd.underlying35 (by kernel_rfl) (by kernel_rfl) hp5 (by kernel_rfl) (by omega)) ?_
    refine vv (i := 3) (v := .agg (sltC y5).toArray) rfl rfl rfl (yb_rs (off := f5_ + 0 * 3) (cs := sltC y5) rfl (by kernel_rfl) (fun W hW => hc5 W (hW.sub (fun p hp => by simp only [List.mem_cons, List.mem_append, List.nil_append, List.not_mem_nil, or_assoc, or_false, false_or, hp, true_or, or_true]))) Tryd.underlying34 rfl (by kernel_rfl)) ?_
    refine vv (i := 4) (v := .tuple #[strV nm, .int .i64 0]) rfl rfl rfl (yb_call (f := 29) (args := #[.agg (shC (.slice pcS cs.length ccS) (.slice poS osS.length coS) tl0).toArray, .agg (sltC y5).toArray]) (fun _ => by kernel_rfl) fun W hW => (by have h9 := SName_any cs pcS ccS (by omega) osS poS coS (by omega) tl0 y5.col y5.tier y5.half W ((RL.base HCS.out) _ (hW.sub (fun _ h => by cases h))) ((RL.base HOS.out) _ (hW.sub (fun _ h => by cases h))) (HRS.out.keep hW.1) lrS ((good_plugs hg).1 W) (good_plugs hg).2 (HE.out.keep (hbB.trans (hW.1.mono hbB.size))); rw [hnn] at h9; exact h9)) ?_
    refine vm (i := 5) (v := .tuple #[strV nm, .int .i64 0]) rfl rfl rfl ?_
    refine vm (i := 6) (v := strV nm) rfl rfl rfl ?_
    refine vm (i := 7) (v := .int .i64 0) rfl rfl rfl ?_
    refine vm (i := 8) (v := strV nm) rfl rfl rfl ?_
    refine vm (i := 9) (v := .int .i64 0) rfl rfl rfl ?_
    refine wpV_done (by kernel_rfl) (fun W5 hW5 => ?_) _
    refine (show Code.wp _ _ _ _ _ from ?_)
    refine wp_seq ?_
    refine wp_seq ?_
    refine wp_region_L (W0 := WB) ((g2, .cells (shC (.slice pcS cs.length ccS) (.slice poS osS.length coS) tl0).toArray 32 (0, 0)) :: Kl3) (hW5) ?_
    refine lm (v := .int .i64 0) rfl rfl ?_
    refine lm (v := .bool false) rfl rfl ?_
    refine lm (v := .bool false) rfl rfl ?_
    refine lm (v := strV nm) rfl rfl ?_
    refine lp (v := .int .i64 7) rfl rfl (fun w => (run_lenS (l := nm) rfl Tryd.underlying9 (by kernel_rfl) w).trans (by rw [hnm7] <;> rfl)) ?_
    refine lm (v := .bool false) rfl rfl ?_
    refine lm (v := .bool false) rfl rfl ?_
    refine wpL_done (fun W6 hW6 => ?_)
    refine (show Code.wp _ _ _ _ _ from ?_)
    refine wp_cond_false rfl ?_
    refine wp_skip ?_
    refine (show Code.wp _ _ _ _ _ from ?_)
    refine wp_seq ?_
    have HG7 := Lib.hid (HG7.out.keep hW6.1)
    have hbZ := hbB.trans (hW6.1.mono hbB.size)
    have HCZ := Lib.hid (HCS.out.keep hW6.1)
    have HOZ := Lib.hid (HOS.out.keep hW6.1)
    have HRZ := Lib.hid (HRS.out.keep hW6.1)
    have HGZ := Lib.hid (CapR.of (cs := (shC (.slice pcS cs.length ccS) (.slice poS osS.length coS) tl0)) hW6 (.head _))
    clear HCS HOS HRS HPS
    have HPS := Lib.hid ((good_plugs hg).1 W6)
    refine wp_region_L (W0 := W6) [] ((KS.start W6)) ?_
    refine lv (v := .agg (shC (.slice pcS cs.length ccS) (.slice poS osS.length coS) tl0).toArray) rfl rfl (yb_rs (off := 0) (cs := _) rfl (by kernel_rfl) (fun W hW => ((HGZ.out).keep hW.1).2) Tryd.underlying32 rfl (by kernel_rfl)) ?_
    refine wpL_new (fun g => .pointer (some ⟨g, 0, none⟩)) (obi := .cells (shC (.slice none 0 0) (.slice none 0 0) tl0).toArray 32 (0, 0)) rfl rfl (fun _ => by kernel_rfl) (fun _ => by simp only [List.setIfInBounds_toArray, List.set_cons_succ, List.set_cons_zero] <;> rfl) fun g6 Bg6 Fg6 => ?_
    refine wpL_s [(g6, .cells (shC (.slice pcS cs.length ccS) (.slice poS osS.length coS) tl0).toArray 32 (0, 0))] rfl rfl (st_row (off := 0) (v := .agg (shC (.slice pcS cs.length ccS) (.slice poS osS.length coS) tl0).toArray) rfl (by kernel_rfl) (by kernel_rfl) (.head _) Bg6 (by kernel_rfl) (by first | (simp [Value.cells]; done) | exact Nat.le_of_ble_eq_true rfl) (fun v hv => shC_one v hv) (by kernel_rfl) (List.forall_mem_cons.2 ⟨.inl rfl, (List.forall_mem_nil _)⟩)) ?_
    refine wpL_done (fun W7 hW7 => ?_)
    refine (show Code.wp _ _ _ _ _ from ?_)
    refine wp_seq ?_
    refine wp_region_V (W0 := W6) [(g6, .cells (shC (.slice pcS cs.length ccS) (.slice poS osS.length coS) tl0).toArray 32 (0, 0))] (by kernel_rfl) (hW7) ?_
    refine vm (i := 1) (v := .pointer (some ⟨g2, 0, none⟩)) rfl rfl rfl ?_
    refine vb (i := 2) (v := .slice pcS cs.length ccS) rfl rfl rfl (yb_rf (v := .slice pcS cs.length ccS) rfl (by kernel_rfl) (fun W hW => ((HGZ.out).keep hW.1).2 0 _ rfl) Tryd.underlying22 rfl) ?_
    refine vm (i := 4) (v := .pointer (some ⟨g2, 0, none⟩)) rfl rfl rfl ?_
    refine vb (i := 5) (v := .slice pcS cs.length ccS) rfl rfl rfl (yb_rf (v := .slice pcS cs.length ccS) rfl (by kernel_rfl) (fun W hW => ((HGZ.out).keep hW.1).2 0 _ rfl) Tryd.underlying22 rfl) ?_
    obtain ⟨y7, g7_, f7_, hy7, hp7, hc7⟩ := RL.at (RL.base HCZ.out) colC_len (by decide) (hW7.sub (fun _ h => by cases h)) (k := 0) (by omega)
    have hcy := List.mem_of_getElem? hy7
    have hbad : rightX (cs ++ [y7]) osS = false := dup_bad8 hcy
    have HPB : ∀ W, PlR W (cs ++ [y7]) := fun W => plr_nil (plugs_snoc8 hg hcy)
    have lpB : ∀ c ∈ cs ++ [y7], c.plugs.length ≤ 4000000000 := fun c hc => by rw [plugs_snoc8 hg hcy c hc]; exact Nat.zero_le _
    refine vp (i := 6) (v := .pointer (some ⟨g7_, f7_ + 0 * 12, none⟩)) rfl rfl rfl (run_idxQ (p := pcS) (cap := ccS) (n := cs.length) (j := .i64) (k := 0) (sz := 12) rfl Tryd.underlying22 (by kernel_rfl) (by kernel_rfl) hp7 (by kernel_rfl) (by omega)) ?_
    refine vb (i := 7) (v := .agg (colC y7).toArray) rfl rfl rfl (yb_rs (off := f7_ + 0 * 12) (cs := colC y7) rfl (by kernel_rfl) (fun W hW => hc7 W (hW.sub (fun _ h => by cases h))) Tryd.underlying65 rfl (by kernel_rfl)) ?_
    refine wpV_2 (i := 0) (j := 8) (by kernel_rfl) ?_ ?_
    · refine stepV_nsx (fun g => .slice (some ⟨g, 0, none⟩) 0 0) (i := 0) (obi := .cells #[] 65 (0, 0)) rfl rfl rfl (fun _ => by kernel_rfl) (fun _ => by simp only [List.setIfInBounds_toArray, List.set_cons_succ, List.set_cons_zero] <;> rfl) fun g8 Bg8 Fg8 => ?_
      obtain dj9_0 : g6 ≠ g8 := by simpa only [dj_app_l, dj_app_r, dj_cons_l, dj_cons_r, dj_nil_l, dj_nil_r, dk_app, dk_cons, dk_nil, and_true, true_and, and_assoc] using (show Dk g8 [(g6, .cells (shC (.slice pcS cs.length ccS) (.slice poS osS.length coS) tl0).toArray 32 (0, 0))] from Fg8)
      refine wpV_2 (i := 3) (j := 8) (by kernel_rfl) ?_ ?_
      · refine stepV_gx (AppO W6 65 12 [(g6, .cells (shC (.slice pcS cs.length ccS) (.slice poS osS.length coS) tl0).toArray 32 (0, 0))] (0 + cs.length) ((([] : List Col).flatMap colC) ++ (cs.flatMap colC))) (i := 3) rfl rfl rfl rfl (app_any el_col (m := cs.length) (news := (cs.flatMap colC)) (y := .slice pcS cs.length ccS) rfl (by kernel_rfl) (by kernel_rfl) (src_rl (c := ccS) Tryd.underlying22 colC_len colC_one (by decide) ((RL.base HCZ.out).mono (fun _ h => by cases h)) rfl) (own_rnone (cells := colC) Bg8) (fun p hp => by cases List.mem_singleton.1 hp; exact (.head _)) (fun p hp => ⟨by simp only [List.mem_cons, List.mem_append, List.nil_append, List.not_mem_nil, or_assoc, or_false, false_or] at hp ⊢ <;> grind, (show Dj [(g6, .cells (shC (.slice pcS cs.length ccS) (.slice poS osS.length coS) tl0).toArray 32 (0, 0))] [(g8, .cells #[] 65 (0, 0))] from (by (try simp only [dj_app_l, dj_app_r, dj_cons_l, dj_cons_r, dj_nil_l, dj_nil_r, dk_app, dk_cons, dk_nil, and_true, true_and, and_assoc]); repeat' (first | trivial | assumption | exact Dj.symm (by assumption) | exact Ne.symm (by assumption) | apply And.intro))) p hp⟩) (by omega) (by omega)) (fun _ => by simp only [List.setIfInBounds_toArray, List.set_cons_succ, List.set_cons_zero] <;> rfl) ?_
        rintro v10 K9 ⟨Kl10, O10, N10, rfl⟩
        obtain dj11_0 : Dk g6 Kl10 := by simpa only [dj_app_l, dj_app_r, dj_cons_l, dj_cons_r, dj_nil_l, dj_nil_r, dk_app, dk_cons, dk_nil, and_true, true_and, and_assoc] using (show Dj [(g6, .cells (shC (.slice pcS cs.length ccS) (.slice poS osS.length coS) tl0).toArray 32 (0, 0))] Kl10 from N10)
        refine wpV_ns (fun g => .slice (some ⟨g, 0, none⟩) 1 1) (i := 8) (obi := .cells (colC y7).toArray 65 (0, 0)) rfl rfl rfl (by kernel_rfl) (fun _ => by kernel_rfl) (fun _ => by simp only [List.setIfInBounds_toArray, List.set_cons_succ, List.set_cons_zero] <;> rfl) fun g12 Bg12 Fg12 => ?_
        obtain ⟨dj13_0, dj13_1⟩ : g6 ≠ g12 ∧ Dk g12 Kl10 := by simpa only [dj_app_l, dj_app_r, dj_cons_l, dj_cons_r, dj_nil_l, dj_nil_r, dk_app, dk_cons, dk_nil, and_true, true_and, and_assoc] using (show Dk g12 ((g6, .cells (shC (.slice pcS cs.length ccS) (.slice poS osS.length coS) tl0).toArray 32 (0, 0)) :: Kl10) from Fg12)
        refine wpV_g (AppO W6 65 12 [(g6, .cells (shC (.slice pcS cs.length ccS) (.slice poS osS.length coS) tl0).toArray 32 (0, 0))] ((0 + cs.length) + 1) (((([] : List Col).flatMap colC) ++ (cs.flatMap colC)) ++ [.int .i64 y7.bay, .int .i64 y7.row, .bool y7.deck, .int .i64 y7.tiers, .int .i64 y7.height, .int .i64 y7.k20, .int .i64 y7.k40, .int .i64 y7.lash, .slice y7.pp y7.plugs.length y7.pc, .int .i64 y7.x, .int .i64 y7.y, .int .i64 y7.z])) (i := 9) rfl rfl rfl (by kernel_rfl) rfl (app_own el_col (m := 1) (c := 1) (news := [.int .i64 y7.bay, .int .i64 y7.row, .bool y7.deck, .int .i64 y7.tiers, .int .i64 y7.height, .int .i64 y7.k20, .int .i64 y7.k40, .int .i64 y7.lash, .slice y7.pp y7.plugs.length y7.pc, .int .i64 y7.x, .int .i64 y7.y, .int .i64 y7.z]) rfl (by kernel_rfl) (by kernel_rfl) (.head _) O10 (fun p hp => by simp only [List.mem_cons, List.mem_append, List.nil_append, List.not_mem_nil, or_assoc, or_false, false_or, hp, or_true, true_or]) (fun p hp => ⟨by simp only [List.mem_cons, List.mem_append, List.nil_append, List.not_mem_nil, or_assoc, or_false, false_or] at hp ⊢ <;> grind, (show Dj [(g6, .cells (shC (.slice pcS cs.length ccS) (.slice poS osS.length coS) tl0).toArray 32 (0, 0))] Kl10 from (by (try simp only [dj_app_l, dj_app_r, dj_cons_l, dj_cons_r, dj_nil_l, dj_nil_r, dk_app, dk_cons, dk_nil, and_true, true_and, and_assoc]); repeat' (first | trivial | assumption | exact Dj.symm (by assumption) | exact Ne.symm (by assumption) | apply And.intro))) p hp⟩) rfl (by simp [strV, Value.oneCell']) (by omega) (by omega) (by omega)) (fun _ => by simp only [List.setIfInBounds_toArray, List.set_cons_succ, List.set_cons_zero] <;> rfl) ?_
        rintro v14 K9 ⟨Kl14, O14, N14, rfl⟩
        obtain dj15_0 : Dk g6 Kl14 := by simpa only [dj_app_l, dj_app_r, dj_cons_l, dj_cons_r, dj_nil_l, dj_nil_r, dk_app, dk_cons, dk_nil, and_true, true_and, and_assoc] using (show Dj [(g6, .cells (shC (.slice pcS cs.length ccS) (.slice poS osS.length coS) tl0).toArray 32 (0, 0))] Kl14 from N14)
        refine vm (i := 10) (v := .pointer (some ⟨g6, 0, none⟩)) rfl rfl rfl ?_
        replace O14 := own_app (cells := colC) (l' := (cs ++ [y7])) O14 (by simp only [List.flatMap_append, List.flatMap_nil, List.nil_append, List.append_assoc, List.flatMap_cons, List.append_nil] <;> rfl) (by simp only [List.length_append, List.length_take, List.length_drop, List.length_nil, List.length_cons] <;> omega)
        obtain ⟨p16, c16, rfl, n16, R16⟩ := own_rl O14
        refine wpV_s ((g6, .cells (shC (.slice p16 ((cs ++ [y7]).length) c16) (.slice poS osS.length coS) tl0).toArray 32 (0, 0)) :: Kl14) (i := 11) rfl (by kernel_rfl) rfl rfl rfl (st_row (off := 0) (v := .slice p16 ((cs ++ [y7]).length) c16) rfl (by kernel_rfl) (by kernel_rfl) (.head _) Bg6 (by kernel_rfl) (by first | (simp [Value.cells]; done) | exact Nat.le_of_ble_eq_true rfl) (by intro v hv; simp [Value.cells] at hv; first | (subst hv; rfl) | (rcases hv with rfl <;> rfl)) (by kernel_rfl) (List.forall_mem_cons.2 ⟨.inl rfl, (fun p hp => .inr ⟨(.tail _ hp), ((show Dk g6 Kl14 from (by (try simp only [dj_app_l, dj_app_r, dj_cons_l, dj_cons_r, dj_nil_l, dj_nil_r, dk_app, dk_cons, dk_nil, and_true, true_and, and_assoc]); repeat' (first | trivial | assumption | exact Dj.symm (by assumption) | exact Ne.symm (by assumption) | apply And.intro))) _ hp)⟩)⟩)) ?_
        refine wpV_done (by kernel_rfl) (fun W8 hW8 => ?_) _
        refine (show Code.wp _ _ _ _ _ from ?_)
        refine wp_seq ?_
        refine wp_region_L (W0 := W6) ((g6, .cells (shC (.slice p16 ((cs ++ [y7]).length) c16) (.slice poS osS.length coS) tl0).toArray 32 (0, 0)) :: Kl14) (hW8) ?_
        refine lv (v := .agg (shC (.slice p16 ((cs ++ [y7]).length) c16) (.slice poS osS.length coS) tl0).toArray) rfl rfl (yb_load (n := 13) (off := 0) rfl (by kernel_rfl) (.head _) Tryd.underlying32 rfl (by kernel_rfl) (by first | (simp [Value.cells]; done) | exact Nat.le_of_ble_eq_true rfl) (by kernel_rfl)) ?_
        refine lv (v := .agg (sltC x).toArray) rfl rfl (yb_rs (off := 0) (cs := _) rfl (by kernel_rfl) (fun W hW => ((HG7.out).keep hW.1).2) Tryd.underlying34 rfl (by kernel_rfl)) ?_
        refine lv (v := .tuple #[strV [], .int .i64 2]) rfl rfl (yb_call (f := 29) (args := #[.agg (shC (.slice p16 ((cs ++ [y7]).length) c16) (.slice poS osS.length coS) tl0).toArray, .agg (sltC x).toArray]) (fun _ => by kernel_rfl) fun W hW => (by have h9 := SName_any (cs ++ [y7]) p16 c16 (by rw [List.length_append, List.length_singleton]; omega) osS poS coS (by omega) tl0 x.col x.tier x.half W (R16 _ (hW.sub (fun p hp => by simp only [List.mem_cons, List.mem_append, List.nil_append, List.not_mem_nil, or_assoc, or_false, false_or, hp, true_or, or_true]))) ((RL.base HOZ.out) _ (hW.sub (fun _ h => by cases h))) (HRZ.out.keep hW.1) lrS (HPB W) lpB (HE.out.keep (hbZ.trans (hW.1.mono hbZ.size))); rw [name_bad hbad] at h9; exact h9)) ?_
        refine lm (v := .tuple #[strV [], .int .i64 2]) rfl rfl ?_
        refine lm (v := strV []) rfl rfl ?_
        refine lm (v := .int .i64 2) rfl rfl ?_
        refine lm (v := strV []) rfl rfl ?_
        refine lm (v := .int .i64 2) rfl rfl ?_
        refine wpL_done (fun W9 hW9 => ?_)
        refine (show Code.wp _ _ _ _ _ from ?_)
        refine wp_seq ?_
        refine wp_region_L (W0 := W6) ((g6, .cells (shC (.slice p16 ((cs ++ [y7]).length) c16) (.slice poS osS.length coS) tl0).toArray 32 (0, 0)) :: Kl14) (hW9) ?_
        refine lv (v := .agg (shC (.slice p16 ((cs ++ [y7]).length) c16) (.slice poS osS.length coS) tl0).toArray) rfl rfl (yb_load (n := 13) (off := 0) rfl (by kernel_rfl) (.head _) Tryd.underlying32 rfl (by kernel_rfl) (by first | (simp [Value.cells]; done) | exact Nat.le_of_ble_eq_true rfl) (by kernel_rfl)) ?_
        refine lm (v := strV nm) rfl rfl ?_
        refine lv (v := .tuple #[.agg #[.int .i64 0, .int .i64 0, .int .u8 0], .int .i64 2]) rfl rfl (yb_call (f := 31) (args := #[.agg (shC (.slice p16 ((cs ++ [y7]).length) c16) (.slice poS osS.length coS) tl0).toArray, strV nm]) (fun _ => by kernel_rfl) fun W hW => (by have h9 := SFind_any (cs ++ [y7]) p16 c16 (by rw [List.length_append, List.length_singleton]; omega) osS poS coS (by omega) tl0 nm (by first | omega | (simp only [List.length_set, List.length_append, List.length_take, List.length_cons, List.length_nil]; omega)) W (R16 _ (hW.sub (fun p hp => by simp only [List.mem_cons, List.mem_append, List.nil_append, List.not_mem_nil, or_assoc, or_false, false_or, hp, true_or, or_true]))) ((RL.base HOZ.out) _ (hW.sub (fun _ h => by cases h))) (HRZ.out.keep hW.1) lrS (HPB W) lpB (HE.out.keep (hbZ.trans (hW.1.mono hbZ.size))); rw [find_bad hbad] at h9; exact h9)) ?_
        refine lm (v := .tuple #[.agg #[.int .i64 0, .int .i64 0, .int .u8 0], .int .i64 2]) rfl rfl ?_
        refine lm (v := .agg #[.int .i64 0, .int .i64 0, .int .u8 0]) rfl rfl ?_
        refine lm (v := .int .i64 2) rfl rfl ?_
        refine wpL_new (fun g => .pointer (some ⟨g, 0, none⟩)) (obi := .cells #[.int .i64 0, .int .i64 0, .int .u8 0] 34 (0, 0)) rfl rfl (fun _ => by kernel_rfl) (fun _ => by simp only [List.setIfInBounds_toArray, List.set_cons_succ, List.set_cons_zero] <;> rfl) fun g17 Bg17 Fg17 => ?_
        obtain ⟨dj18_0, dj18_1⟩ : g6 ≠ g17 ∧ Dk g17 Kl14 := by simpa only [dj_app_l, dj_app_r, dj_cons_l, dj_cons_r, dj_nil_l, dj_nil_r, dk_app, dk_cons, dk_nil, and_true, true_and, and_assoc] using (show Dk g17 ((g6, .cells (shC (.slice p16 ((cs ++ [y7]).length) c16) (.slice poS osS.length coS) tl0).toArray 32 (0, 0)) :: Kl14) from Fg17)
        refine wpL_s ((g17, .cells #[.int .i64 0, .int .i64 0, .int .u8 0] 34 (0, 0)) :: (g6, .cells (shC (.slice p16 ((cs ++ [y7]).length) c16) (.slice poS osS.length coS) tl0).toArray 32 (0, 0)) :: Kl14) rfl rfl (st_row (off := 0) (v := .agg #[.int .i64 0, .int .i64 0, .int .u8 0]) rfl (by kernel_rfl) (by kernel_rfl) (.head _) Bg17 (by kernel_rfl) (by first | (simp [Value.cells]; done) | exact Nat.le_of_ble_eq_true rfl) (by intro v hv; simp [Value.cells] at hv; first | (subst hv; rfl) | (rcases hv with rfl | rfl | rfl <;> rfl)) (by kernel_rfl) (List.forall_mem_cons.2 ⟨.inl rfl, (List.forall_mem_cons.2 ⟨.inr ⟨(.tail _ (.head _)), (by first | assumption | exact Ne.symm (by assumption))⟩, (fun p hp => .inr ⟨(.tail _ (.tail _ hp)), ((show Dk g17 Kl14 from (by (try simp only [dj_app_l, dj_app_r, dj_cons_l, dj_cons_r, dj_nil_l, dj_nil_r, dk_app, dk_cons, dk_nil, and_true, true_and, and_assoc]); repeat' (first | trivial | assumption | exact Dj.symm (by assumption) | exact Ne.symm (by assumption) | apply And.intro))) _ hp)⟩)⟩)⟩)) ?_
        refine lm (v := .int .i64 2) rfl rfl ?_
        refine wpL_done (fun W10 hW10 => ?_)
        refine (show Code.wp _ _ _ _ _ from ?_)
        refine wp_seq ?_
        refine wp_region_L (W0 := W6) ((g17, .cells #[.int .i64 0, .int .i64 0, .int .u8 0] 34 (0, 0)) :: (g6, .cells (shC (.slice p16 ((cs ++ [y7]).length) c16) (.slice poS osS.length coS) tl0).toArray 32 (0, 0)) :: Kl14) (hW10) ?_
        refine lv (v := .agg (shC (.slice pcS cs.length ccS) (.slice poS osS.length coS) tl0).toArray) rfl rfl (yb_rs (off := 0) (cs := _) rfl (by kernel_rfl) (fun W hW => ((HGZ.out).keep hW.1).2) Tryd.underlying32 rfl (by kernel_rfl)) ?_
        refine lm (v := .int .i64 v) rfl rfl ?_
        refine lm (v := .pointer (some ⟨g2, 0, none⟩)) rfl rfl ?_
        refine lv (v := .slice pcS cs.length ccS) rfl rfl (yb_rf (v := .slice pcS cs.length ccS) rfl (by kernel_rfl) (fun W hW => ((HGZ.out).keep hW.1).2 0 _ rfl) Tryd.underlying22 rfl) ?_
        refine lp (v := .int .i64 ((cs.length : Nat) : Int)) rfl rfl (run_lenL (p := pcS) (cap := ccS) (n := cs.length) rfl Tryd.underlying22 (by kernel_rfl)) ?_
        refine lp (v := .int .i64 (max v ((cs.length : Nat) : Int))) rfl rfl (run_max2 (x := v) (y := ((cs.length : Nat) : Int)) (z := (max v ((cs.length : Nat) : Int))) rfl (by kernel_rfl) (by kernel_rfl) rfl) ?_
        refine lm (v := .agg #[.int .i64 (max v ((cs.length : Nat) : Int)), .int .i64 0, .int .u8 0]) rfl rfl ?_
        refine lv (v := .tuple #[strV [], .int .i64 6]) rfl rfl (yb_call (f := 29) (args := #[.agg (shC (.slice pcS cs.length ccS) (.slice poS osS.length coS) tl0).toArray, .agg #[.int .i64 (max v ((cs.length : Nat) : Int)), .int .i64 0, .int .u8 0]]) (fun _ => by kernel_rfl) fun W hW => (by have h9 := SName_any cs pcS ccS (by omega) osS poS coS (by omega) tl0 (max v ((cs.length : Nat) : Int)) 0 0 W ((RL.base HCZ.out) _ (hW.sub (fun _ h => by cases h))) ((RL.base HOZ.out) _ (hW.sub (fun _ h => by cases h))) (HRZ.out.keep hW.1) lrS ((good_plugs hg).1 W) (good_plugs hg).2 (HE.out.keep (hbZ.trans (hW.1.mono hbZ.size))); rw [name_none hr (is_noex (x := (⟨(max v ((cs.length : Nat) : Int)), 0, 0⟩ : Slt)) (ex_nocol (by simp only; omega)))] at h9; exact h9)) ?_
        refine lm (v := .tuple #[strV [], .int .i64 6]) rfl rfl ?_
        refine lm (v := strV []) rfl rfl ?_
        refine lm (v := .int .i64 6) rfl rfl ?_
        refine lm (v := strV []) rfl rfl ?_
        refine lm (v := .int .i64 6) rfl rfl ?_
        refine wpL_done (fun W11 hW11 => ?_)
        refine (show Code.wp _ _ _ _ _ from ?_)
        refine wp_seq ?_
        refine wp_region_L (W0 := W6) ((g17, .cells #[.int .i64 0, .int .i64 0, .int .u8 0] 34 (0, 0)) :: (g6, .cells (shC (.slice p16 ((cs ++ [y7]).length) c16) (.slice poS osS.length coS) tl0).toArray 32 (0, 0)) :: Kl14) (hW11) ?_
        refine lv (v := .agg (shC (.slice pcS cs.length ccS) (.slice poS osS.length coS) tl0).toArray) rfl rfl (yb_rs (off := 0) (cs := _) rfl (by kernel_rfl) (fun W hW => ((HGZ.out).keep hW.1).2) Tryd.underlying32 rfl (by kernel_rfl)) ?_
        refine lm (v := .int .i64 v) rfl rfl ?_
        refine lp (v := .int .i64 (min v (-1))) rfl rfl (run_min2 (x := v) (y := (-1)) (z := (min v (-1))) rfl (by kernel_rfl) (by kernel_rfl) rfl) ?_
        refine lm (v := .agg #[.int .i64 (min v (-1)), .int .i64 0, .int .u8 0]) rfl rfl ?_
        refine lv (v := .tuple #[strV [], .int .i64 6]) rfl rfl (yb_call (f := 29) (args := #[.agg (shC (.slice pcS cs.length ccS) (.slice poS osS.length coS) tl0).toArray, .agg #[.int .i64 (min v (-1)), .int .i64 0, .int .u8 0]]) (fun _ => by kernel_rfl) fun W hW => (by have h9 := SName_any cs pcS ccS (by omega) osS poS coS (by omega) tl0 (min v (-1)) 0 0 W ((RL.base HCZ.out) _ (hW.sub (fun _ h => by cases h))) ((RL.base HOZ.out) _ (hW.sub (fun _ h => by cases h))) (HRZ.out.keep hW.1) lrS ((good_plugs hg).1 W) (good_plugs hg).2 (HE.out.keep (hbZ.trans (hW.1.mono hbZ.size))); rw [name_none hr (is_noex (x := (⟨(min v (-1)), 0, 0⟩ : Slt)) (ex_nocol (by simp only; omega)))] at h9; exact h9)) ?_
        refine lm (v := .tuple #[strV [], .int .i64 6]) rfl rfl ?_
        refine lm (v := strV []) rfl rfl ?_
        refine lm (v := .int .i64 6) rfl rfl ?_
        refine lm (v := strV []) rfl rfl ?_
        refine lm (v := .int .i64 6) rfl rfl ?_
        refine wpL_done (fun W12 hW12 => ?_)
        refine (show Code.wp _ _ _ _ _ from ?_)
        refine wp_seq ?_
        refine wp_region_L (W0 := W6) ((g17, .cells #[.int .i64 0, .int .i64 0, .int .u8 0] 34 (0, 0)) :: (g6, .cells (shC (.slice p16 ((cs ++ [y7]).length) c16) (.slice poS osS.length coS) tl0).toArray 32 (0, 0)) :: Kl14) (hW12) ?_
        refine lv (v := .agg (shC (.slice pcS cs.length ccS) (.slice poS osS.length coS) tl0).toArray) rfl rfl (yb_rs (off := 0) (cs := _) rfl (by kernel_rfl) (fun W hW => ((HGZ.out).keep hW.1).2) Tryd.underlying32 rfl (by kernel_rfl)) ?_
        refine lm (v := .int .i64 v) rfl rfl ?_
        refine lp (v := .int .i64 (max v 10)) rfl rfl (run_max2 (x := v) (y := 10) (z := (max v 10)) rfl (by kernel_rfl) (by kernel_rfl) rfl) ?_
        refine lm (v := .agg #[.int .i64 0, .int .i64 (max v 10), .int .u8 0]) rfl rfl ?_
        refine lv (v := .tuple #[strV [], .int .i64 6]) rfl rfl (yb_call (f := 29) (args := #[.agg (shC (.slice pcS cs.length ccS) (.slice poS osS.length coS) tl0).toArray, .agg #[.int .i64 0, .int .i64 (max v 10), .int .u8 0]]) (fun _ => by kernel_rfl) fun W hW => (by have h9 := SName_any cs pcS ccS (by omega) osS poS coS (by omega) tl0 0 (max v 10) 0 W ((RL.base HCZ.out) _ (hW.sub (fun _ h => by cases h))) ((RL.base HOZ.out) _ (hW.sub (fun _ h => by cases h))) (HRZ.out.keep hW.1) lrS ((good_plugs hg).1 W) (good_plugs hg).2 (HE.out.keep (hbZ.trans (hW.1.mono hbZ.size))); rw [name_none hr (is_noex (x := (⟨0, (max v 10), 0⟩ : Slt)) (ex_notier (fun c hc => (hct c hc).1) (by simp only; omega)))] at h9; exact h9)) ?_
        refine lm (v := .tuple #[strV [], .int .i64 6]) rfl rfl ?_
        refine lm (v := strV []) rfl rfl ?_
        refine lm (v := .int .i64 6) rfl rfl ?_
        refine lm (v := strV []) rfl rfl ?_
        refine lm (v := .int .i64 6) rfl rfl ?_
        refine wpL_done (fun W13 hW13 => ?_)
        refine (show Code.wp _ _ _ _ _ from ?_)
        refine wp_seq ?_
        refine wp_region_L (W0 := W6) ((g17, .cells #[.int .i64 0, .int .i64 0, .int .u8 0] 34 (0, 0)) :: (g6, .cells (shC (.slice p16 ((cs ++ [y7]).length) c16) (.slice poS osS.length coS) tl0).toArray 32 (0, 0)) :: Kl14) (hW13) ?_
        refine lv (v := .agg (shC (.slice pcS cs.length ccS) (.slice poS osS.length coS) tl0).toArray) rfl rfl (yb_rs (off := 0) (cs := _) rfl (by kernel_rfl) (fun W hW => ((HGZ.out).keep hW.1).2) Tryd.underlying32 rfl (by kernel_rfl)) ?_
        refine lm (v := .pointer (some ⟨g1, 2, none⟩)) rfl rfl ?_
        refine lv (v := .int .u8 ((x.half : Nat) : Int)) rfl rfl (yb_rf (v := .int .u8 ((x.half : Nat) : Int)) rfl (by kernel_rfl) (fun W hW => ((HG7.out).keep hW.1).2 2 _ rfl) Tryd.underlying5 rfl) ?_
        refine lp (v := .int .u8 (((x.half % 253) : Nat) : Int)) rfl rfl (run_bin rfl (vx := (.int .u8 ((x.half : Nat) : Int))) (vy := (.int .u8 ((253 : Nat) : Int))) (by kernel_rfl) (by kernel_rfl) fun w => bn_rem (z := (x.half % 253)) rfl (by omega) w) ?_
        refine lp (v := .int .u8 (((3 + (x.half % 253)) : Nat) : Int)) rfl rfl (run_bin rfl (vx := (.int .u8 ((3 : Nat) : Int))) (vy := (.int .u8 (((x.half % 253) : Nat) : Int))) (by kernel_rfl) (by kernel_rfl) fun w => bn_add (z := (3 + (x.half % 253))) rfl (wr_u8 (by omega)) w) ?_
        refine lm (v := .agg #[.int .i64 0, .int .i64 0, .int .u8 (((3 + (x.half % 253)) : Nat) : Int)]) rfl rfl ?_
        refine lv (v := .tuple #[strV [], .int .i64 6]) rfl rfl (yb_call (f := 29) (args := #[.agg (shC (.slice pcS cs.length ccS) (.slice poS osS.length coS) tl0).toArray, .agg #[.int .i64 0, .int .i64 0, .int .u8 (((3 + (x.half % 253)) : Nat) : Int)]]) (fun _ => by kernel_rfl) fun W hW => (by have h9 := SName_any cs pcS ccS (by omega) osS poS coS (by omega) tl0 0 0 (3 + (x.half % 253)) W ((RL.base HCZ.out) _ (hW.sub (fun _ h => by cases h))) ((RL.base HOZ.out) _ (hW.sub (fun _ h => by cases h))) (HRZ.out.keep hW.1) lrS ((good_plugs hg).1 W) (good_plugs hg).2 (HE.out.keep (hbZ.trans (hW.1.mono hbZ.size))); rw [name_none hr (is_nohalf (x := (⟨0, 0, (3 + (x.half % 253))⟩ : Slt)) (by simp only; omega))] at h9; exact h9)) ?_
        refine lm (v := .tuple #[strV [], .int .i64 6]) rfl rfl ?_
        refine lm (v := strV []) rfl rfl ?_
        refine lm (v := .int .i64 6) rfl rfl ?_
        refine lm (v := strV []) rfl rfl ?_
        refine lm (v := .int .i64 6) rfl rfl ?_
        refine wpL_done (fun W14 hW14 => ?_)
        refine (show Code.wp _ _ _ _ _ from ?_)
        refine wp_seq ?_
        refine wp_seq ?_
        refine wp_region_L (W0 := W6) ((g17, .cells #[.int .i64 0, .int .i64 0, .int .u8 0] 34 (0, 0)) :: (g6, .cells (shC (.slice p16 ((cs ++ [y7]).length) c16) (.slice poS osS.length coS) tl0).toArray 32 (0, 0)) :: Kl14) (hW14) ?_
        refine lm (v := .int .i64 2) rfl rfl ?_
        refine lm (v := .bool false) rfl rfl ?_
        refine lm (v := .bool false) rfl rfl ?_
        refine lm (v := .int .i64 2) rfl rfl ?_
        refine lm (v := .bool false) rfl rfl ?_
        refine lm (v := .bool false) rfl rfl ?_
        refine lm (v := .bool false) rfl rfl ?_
        refine lm (v := .int .i64 6) rfl rfl ?_
        refine lm (v := .bool false) rfl rfl ?_
        refine lm (v := .bool false) rfl rfl ?_
        refine lm (v := .bool false) rfl rfl ?_
        refine lm (v := .int .i64 6) rfl rfl ?_
        refine lm (v := .bool false) rfl rfl ?_
        refine lm (v := .bool false) rfl rfl ?_
        refine lm (v := .bool false) rfl rfl ?_
        refine lm (v := .int .i64 6) rfl rfl ?_
        refine lm (v := .bool false) rfl rfl ?_
        refine lm (v := .bool false) rfl rfl ?_
        refine lm (v := .bool false) rfl rfl ?_
        refine lm (v := .int .i64 6) rfl rfl ?_
        refine lm (v := .bool false) rfl rfl ?_
        refine lm (v := .bool false) rfl rfl ?_
        refine wpL_done (fun W15 hW15 => ?_)
        refine (show Code.wp _ _ _ _ _ from ?_)
        refine wp_cond_false rfl ?_
        refine wp_skip ?_
        refine (show Code.wp _ _ _ _ _ from ?_)
        refine wp_seq ?_
        refine wp_seq ?_
        refine wp_region_L (W0 := W6) ((g17, .cells #[.int .i64 0, .int .i64 0, .int .u8 0] 34 (0, 0)) :: (g6, .cells (shC (.slice p16 ((cs ++ [y7]).length) c16) (.slice poS osS.length coS) tl0).toArray 32 (0, 0)) :: Kl14) (hW15) ?_
        refine lm (v := strV nm) rfl rfl ?_
        refine wpL_new (fun g => .pointer (some ⟨g, 0, none⟩)) (obi := .stringIter ⟨nm.toArray⟩ 0) rfl rfl (rg_str (l := nm) rfl Tryd.underlying9 (by kernel_rfl)) (fun _ => by simp only [List.setIfInBounds_toArray, List.set_cons_succ, List.set_cons_zero] <;> rfl) fun g19 Bg19 Fg19 => ?_
        obtain ⟨dj20_0, dj20_1, dj20_2⟩ : g17 ≠ g19 ∧ g6 ≠ g19 ∧ Dk g19 Kl14 := by simpa only [dj_app_l, dj_app_r, dj_cons_l, dj_cons_r, dj_nil_l, dj_nil_r, dk_app, dk_cons, dk_nil, and_true, true_and, and_assoc] using (show Dk g19 ((g17, .cells #[.int .i64 0, .int .i64 0, .int .u8 0] 34 (0, 0)) :: (g6, .cells (shC (.slice p16 ((cs ++ [y7]).length) c16) (.slice poS osS.length coS) tl0).toArray 32 (0, 0)) :: Kl14) from Fg19)
        refine wpL_done (fun W16 hW16 => ?_)
        refine (show Code.wp _ _ _ _ _ from ?_)
        refine wp_block ?_
        go_loopw [] (fun  wr => ∃ (k : Nat), (k ≤ nm.length) ∧ KS W6 ((g19, .stringIter ⟨nm.toArray⟩ k) :: Kl14) wr) (fun  wz => nm.length - World.iterPos wz g19)
        case atStart => exact ⟨0, (Nat.zero_le _), (hW16.sub (fun p hp => by first | exact hp | (simp only [List.mem_cons, List.mem_append, List.nil_append, List.not_mem_nil, or_assoc, or_false, false_or] at hp ⊢ <;> grind)))⟩
        case round =>
          obtain ⟨k, hk, hL17⟩ := hrel
          refine wp_seq ?_
          refine wp_region_L (W0 := W6) ((g19, .stringIter ⟨nm.toArray⟩ k) :: Kl14) (hL17) ?_
          cases hd2 : (decide (k < nm.length)) with
          | false =>
            have h2 : ¬ (k < nm.length) := of_decide_eq_false hd2
            clear hd2
            refine lv (v := .tuple #[.bool false]) rfl rfl (nx_end (l := nm) (k := k) rfl (by kernel_rfl) (.head _) h2) ?_
            refine lm (v := .bool false) rfl rfl ?_
            refine wpL_done (fun W18 hW18 => ?_)
            refine (show Code.wp _ _ _ _ _ from ?_)
            refine wp_seq ?_
            refine wp_cond_false rfl ?_
            refine wp_exit ?_
            refine (show Code.wp _ _ _ _ _ from ?_)
            refine wp_seq ?_
            refine wp_region_L (W0 := W6) ((g19, .stringIter ⟨nm.toArray⟩ k) :: Kl14) (hW18) ?_
            refine lv (v := .agg (shC (.slice pcS cs.length ccS) (.slice poS osS.length coS) tl0).toArray) rfl rfl (yb_rs (off := 0) (cs := _) rfl (by kernel_rfl) (fun W hW => ((HGZ.out).keep hW.1).2) Tryd.underlying32 rfl (by kernel_rfl)) ?_
            refine lm (v := strV nm) rfl rfl ?_
            refine lp (v := strV (nm ++ [48])) rfl rfl (run_bin rfl (vx := strV nm) (vy := strV [48]) (by kernel_rfl) (by kernel_rfl) fun w => bs_add (c := (nm ++ [48])) rfl (by first | omega | (simp; omega)) w) ?_
            refine lv (v := .tuple #[.agg #[.int .i64 0, .int .i64 0, .int .u8 0], .int .i64 80]) rfl rfl (yb_call (f := 31) (args := #[.agg (shC (.slice pcS cs.length ccS) (.slice poS osS.length coS) tl0).toArray, strV (nm ++ [48])]) (fun _ => by kernel_rfl) fun W hW => (by have h9 := SFind_any cs pcS ccS (by omega) osS poS coS (by omega) tl0 (nm ++ [48]) (by first | omega | (simp only [List.length_set, List.length_append, List.length_take, List.length_cons, List.length_nil]; omega)) W ((RL.base HCZ.out) _ (hW.sub (fun _ h => by cases h))) ((RL.base HOZ.out) _ (hW.sub (fun _ h => by cases h))) (HRZ.out.keep hW.1) lrS ((good_plugs hg).1 W) (good_plugs hg).2 (HE.out.keep (hbZ.trans (hW.1.mono hbZ.size))); rw [find_no hr (place_len (l := (nm ++ [48])) (by simp only [List.length_append, List.length_take, List.length_cons, List.length_nil]; omega))] at h9; exact h9)) ?_
            refine lm (v := .tuple #[.agg #[.int .i64 0, .int .i64 0, .int .u8 0], .int .i64 80]) rfl rfl ?_
            refine lm (v := .agg #[.int .i64 0, .int .i64 0, .int .u8 0]) rfl rfl ?_
            refine lm (v := .int .i64 80) rfl rfl ?_
            refine wpL_new (fun g => .pointer (some ⟨g, 0, none⟩)) (obi := .cells #[.int .i64 0, .int .i64 0, .int .u8 0] 34 (0, 0)) rfl rfl (fun _ => by kernel_rfl) (fun _ => by simp only [List.setIfInBounds_toArray, List.set_cons_succ, List.set_cons_zero] <;> rfl) fun g21 Bg21 Fg21 => ?_
            obtain ⟨dj22_0, dj22_1⟩ : g19 ≠ g21 ∧ Dk g21 Kl14 := by simpa only [dj_app_l, dj_app_r, dj_cons_l, dj_cons_r, dj_nil_l, dj_nil_r, dk_app, dk_cons, dk_nil, and_true, true_and, and_assoc] using (show Dk g21 ((g19, .stringIter ⟨nm.toArray⟩ k) :: Kl14) from Fg21)
            refine wpL_s ((g21, .cells #[.int .i64 0, .int .i64 0, .int .u8 0] 34 (0, 0)) :: (g19, .stringIter ⟨nm.toArray⟩ k) :: Kl14) rfl rfl (st_row (off := 0) (v := .agg #[.int .i64 0, .int .i64 0, .int .u8 0]) rfl (by kernel_rfl) (by kernel_rfl) (.head _) Bg21 (by kernel_rfl) (by first | (simp [Value.cells]; done) | exact Nat.le_of_ble_eq_true rfl) (by intro v hv; simp [Value.cells] at hv; first | (subst hv; rfl) | (rcases hv with rfl | rfl | rfl <;> rfl)) (by kernel_rfl) (List.forall_mem_cons.2 ⟨.inl rfl, (List.forall_mem_cons.2 ⟨.inr ⟨(.tail _ (.head _)), (by first | assumption | exact Ne.symm (by assumption))⟩, (fun p hp => .inr ⟨(.tail _ (.tail _ hp)), ((show Dk g21 Kl14 from (by (try simp only [dj_app_l, dj_app_r, dj_cons_l, dj_cons_r, dj_nil_l, dj_nil_r, dk_app, dk_cons, dk_nil, and_true, true_and, and_assoc]); repeat' (first | trivial | assumption | exact Dj.symm (by assumption) | exact Ne.symm (by assumption) | apply And.intro))) _ hp)⟩)⟩)⟩)) ?_
            refine lm (v := .int .i64 80) rfl rfl ?_
            refine wpL_done (fun W19 hW19 => ?_)
            refine (show Code.wp _ _ _ _ _ from ?_)
            refine wp_seq ?_
            refine wp_region_V (W0 := W6) ((g21, .cells #[.int .i64 0, .int .i64 0, .int .u8 0] 34 (0, 0)) :: (g19, .stringIter ⟨nm.toArray⟩ k) :: Kl14) (by kernel_rfl) (hW19) ?_
            refine vb (i := 0) (v := .agg (shC (.slice pcS cs.length ccS) (.slice poS osS.length coS) tl0).toArray) rfl rfl rfl (yb_rs (off := 0) (cs := _) rfl (by kernel_rfl) (fun W hW => ((HGZ.out).keep hW.1).2) Tryd.underlying32 rfl (by kernel_rfl)) ?_
            refine vm (i := 1) (v := strV nm) rfl rfl rfl ?_
            refine vp (i := 2) (v := strV (nm.take 6)) rfl rfl rfl (run_slH (k2 := .i64) (l := nm) (r := (nm.take 6)) (j := 6) rfl Tryd.underlying9 (by kernel_rfl) (by kernel_rfl) (by first | omega | (simp; omega)) rfl) ?_
            refine vv (i := 3) (v := .tuple #[.agg #[.int .i64 0, .int .i64 0, .int .u8 0], .int .i64 80]) rfl rfl rfl (yb_call (f := 31) (args := #[.agg (shC (.slice pcS cs.length ccS) (.slice poS osS.length coS) tl0).toArray, strV (nm.take 6)]) (fun _ => by kernel_rfl) fun W hW => (by have h9 := SFind_any cs pcS ccS (by omega) osS poS coS (by omega) tl0 (nm.take 6) (by first | omega | (simp only [List.length_set, List.length_append, List.length_take, List.length_cons, List.length_nil]; omega)) W ((RL.base HCZ.out) _ (hW.sub (fun _ h => by cases h))) ((RL.base HOZ.out) _ (hW.sub (fun _ h => by cases h))) (HRZ.out.keep hW.1) lrS ((good_plugs hg).1 W) (good_plugs hg).2 (HE.out.keep (hbZ.trans (hW.1.mono hbZ.size))); rw [find_no hr (place_len (l := (nm.take 6)) (by simp only [List.length_append, List.length_take, List.length_cons, List.length_nil]; omega))] at h9; exact h9)) ?_
            refine vm (i := 4) (v := .tuple #[.agg #[.int .i64 0, .int .i64 0, .int .u8 0], .int .i64 80]) rfl rfl rfl ?_
            refine vm (i := 5) (v := .agg #[.int .i64 0, .int .i64 0, .int .u8 0]) rfl rfl rfl ?_
            refine vm (i := 6) (v := .int .i64 80) rfl rfl rfl ?_
            refine wpV_ns (fun g => .pointer (some ⟨g, 0, none⟩)) (i := 7) (obi := .cells #[.int .i64 0, .int .i64 0, .int .u8 0] 34 (0, 0)) rfl rfl rfl (by kernel_rfl) (fun _ => by kernel_rfl) (fun _ => by simp only [List.setIfInBounds_toArray, List.set_cons_succ, List.set_cons_zero] <;> rfl) fun g23 Bg23 Fg23 => ?_
            obtain ⟨dj24_0, dj24_1, dj24_2⟩ : g21 ≠ g23 ∧ g19 ≠ g23 ∧ Dk g23 Kl14 := by simpa only [dj_app_l, dj_app_r, dj_cons_l, dj_cons_r, dj_nil_l, dj_nil_r, dk_app, dk_cons, dk_nil, and_true, true_and, and_assoc] using (show Dk g23 ((g21, .cells #[.int .i64 0, .int .i64 0, .int .u8 0] 34 (0, 0)) :: (g19, .stringIter ⟨nm.toArray⟩ k) :: Kl14) from Fg23)
            refine wpV_s ((g23, .cells #[.int .i64 0, .int .i64 0, .int .u8 0] 34 (0, 0)) :: (g21, .cells #[.int .i64 0, .int .i64 0, .int .u8 0] 34 (0, 0)) :: (g19, .stringIter ⟨nm.toArray⟩ k) :: Kl14) (i := 8) rfl (by kernel_rfl) rfl rfl rfl (st_row (off := 0) (v := .agg #[.int .i64 0, .int .i64 0, .int .u8 0]) rfl (by kernel_rfl) (by kernel_rfl) (.head _) Bg23 (by kernel_rfl) (by first | (simp [Value.cells]; done) | exact Nat.le_of_ble_eq_true rfl) (by intro v hv; simp [Value.cells] at hv; first | (subst hv; rfl) | (rcases hv with rfl | rfl | rfl <;> rfl)) (by kernel_rfl) (List.forall_mem_cons.2 ⟨.inl rfl, (List.forall_mem_cons.2 ⟨.inr ⟨(.tail _ (.head _)), (by first | assumption | exact Ne.symm (by assumption))⟩, (List.forall_mem_cons.2 ⟨.inr ⟨(.tail _ (.tail _ (.head _))), (by first | assumption | exact Ne.symm (by assumption))⟩, (fun p hp => .inr ⟨(.tail _ (.tail _ (.tail _ hp))), ((show Dk g23 Kl14 from (by (try simp only [dj_app_l, dj_app_r, dj_cons_l, dj_cons_r, dj_nil_l, dj_nil_r, dk_app, dk_cons, dk_nil, and_true, true_and, and_assoc]); repeat' (first | trivial | assumption | exact Dj.symm (by assumption) | exact Ne.symm (by assumption) | apply And.intro))) _ hp)⟩)⟩)⟩)⟩)) ?_
            refine vm (i := 9) (v := .int .i64 80) rfl rfl rfl ?_
            refine wpV_done (by kernel_rfl) (fun W20 hW20 => ?_) _
            refine (show Code.wp _ _ _ _ _ from ?_)
            refine wp_seq ?_
            refine wp_region_L (W0 := W6) ((g23, .cells #[.int .i64 0, .int .i64 0, .int .u8 0] 34 (0, 0)) :: (g21, .cells #[.int .i64 0, .int .i64 0, .int .u8 0] 34 (0, 0)) :: (g19, .stringIter ⟨nm.toArray⟩ k) :: Kl14) (hW20) ?_
            refine lv (v := .agg (shC (.slice pcS cs.length ccS) (.slice poS osS.length coS) tl0).toArray) rfl rfl (yb_rs (off := 0) (cs := _) rfl (by kernel_rfl) (fun W hW => ((HGZ.out).keep hW.1).2) Tryd.underlying32 rfl (by kernel_rfl)) ?_
            refine lv (v := .tuple #[.agg #[.int .i64 0, .int .i64 0, .int .u8 0], .int .i64 80]) rfl rfl (yb_call (f := 31) (args := #[.agg (shC (.slice pcS cs.length ccS) (.slice poS osS.length coS) tl0).toArray, strV [48, 48, 48, 48, 48, 48, 50]]) (fun _ => by kernel_rfl) fun W hW => (by have h9 := SFind_any cs pcS ccS (by omega) osS poS coS (by omega) tl0 [48, 48, 48, 48, 48, 48, 50] (by first | omega | (simp only [List.length_set, List.length_append, List.length_take, List.length_cons, List.length_nil]; omega)) W ((RL.base HCZ.out) _ (hW.sub (fun _ h => by cases h))) ((RL.base HOZ.out) _ (hW.sub (fun _ h => by cases h))) (HRZ.out.keep hW.1) lrS ((good_plugs hg).1 W) (good_plugs hg).2 (HE.out.keep (hbZ.trans (hW.1.mono hbZ.size))); rw [find_no hr (l := [48, 48, 48, 48, 48, 48, 50]) (by kernel_rfl)] at h9; exact h9)) ?_
            refine lm (v := .tuple #[.agg #[.int .i64 0, .int .i64 0, .int .u8 0], .int .i64 80]) rfl rfl ?_
            refine lm (v := .agg #[.int .i64 0, .int .i64 0, .int .u8 0]) rfl rfl ?_
            refine lm (v := .int .i64 80) rfl rfl ?_
            refine wpL_new (fun g => .pointer (some ⟨g, 0, none⟩)) (obi := .cells #[.int .i64 0, .int .i64 0, .int .u8 0] 34 (0, 0)) rfl rfl (fun _ => by kernel_rfl) (fun _ => by simp only [List.setIfInBounds_toArray, List.set_cons_succ, List.set_cons_zero] <;> rfl) fun g25 Bg25 Fg25 => ?_
            obtain ⟨dj26_0, dj26_1, dj26_2, dj26_3⟩ : g23 ≠ g25 ∧ g21 ≠ g25 ∧ g19 ≠ g25 ∧ Dk g25 Kl14 := by simpa only [dj_app_l, dj_app_r, dj_cons_l, dj_cons_r, dj_nil_l, dj_nil_r, dk_app, dk_cons, dk_nil, and_true, true_and, and_assoc] using (show Dk g25 ((g23, .cells #[.int .i64 0, .int .i64 0, .int .u8 0] 34 (0, 0)) :: (g21, .cells #[.int .i64 0, .int .i64 0, .int .u8 0] 34 (0, 0)) :: (g19, .stringIter ⟨nm.toArray⟩ k) :: Kl14) from Fg25)
            refine wpL_s ((g25, .cells #[.int .i64 0, .int .i64 0, .int .u8 0] 34 (0, 0)) :: (g23, .cells #[.int .i64 0, .int .i64 0, .int .u8 0] 34 (0, 0)) :: (g21, .cells #[.int .i64 0, .int .i64 0, .int .u8 0] 34 (0, 0)) :: (g19, .stringIter ⟨nm.toArray⟩ k) :: Kl14) rfl rfl (st_row (off := 0) (v := .agg #[.int .i64 0, .int .i64 0, .int .u8 0]) rfl (by kernel_rfl) (by kernel_rfl) (.head _) Bg25 (by kernel_rfl) (by first | (simp [Value.cells]; done) | exact Nat.le_of_ble_eq_true rfl) (by intro v hv; simp [Value.cells] at hv; first | (subst hv; rfl) | (rcases hv with rfl | rfl | rfl <;> rfl)) (by kernel_rfl) (List.forall_mem_cons.2 ⟨.inl rfl, (List.forall_mem_cons.2 ⟨.inr ⟨(.tail _ (.head _)), (by first | assumption | exact Ne.symm (by assumption))⟩, (List.forall_mem_cons.2 ⟨.inr ⟨(.tail _ (.tail _ (.head _))), (by first | assumption | exact Ne.symm (by assumption))⟩, (List.forall_mem_cons.2 ⟨.inr ⟨(.tail _ (.tail _ (.tail _ (.head _)))), (by first | assumption | exact Ne.symm (by assumption))⟩, (fun p hp => .inr ⟨(.tail _ (.tail _ (.tail _ (.tail _ hp)))), ((show Dk g25 Kl14 from (by (try simp only [dj_app_l, dj_app_r, dj_cons_l, dj_cons_r, dj_nil_l, dj_nil_r, dk_app, dk_cons, dk_nil, and_true, true_and, and_assoc]); repeat' (first | trivial | assumption | exact Dj.symm (by assumption) | exact Ne.symm (by assumption) | apply And.intro))) _ hp)⟩)⟩)⟩)⟩)⟩)) ?_
            refine lm (v := .int .i64 80) rfl rfl ?_
            refine wpL_done (fun W21 hW21 => ?_)
            refine (show Code.wp _ _ _ _ _ from ?_)
            refine wp_seq ?_
            refine wp_region_L (W0 := W6) ((g25, .cells #[.int .i64 0, .int .i64 0, .int .u8 0] 34 (0, 0)) :: (g23, .cells #[.int .i64 0, .int .i64 0, .int .u8 0] 34 (0, 0)) :: (g21, .cells #[.int .i64 0, .int .i64 0, .int .u8 0] 34 (0, 0)) :: (g19, .stringIter ⟨nm.toArray⟩ k) :: Kl14) (hW21) ?_
            refine lv (v := .agg (shC (.slice pcS cs.length ccS) (.slice poS osS.length coS) tl0).toArray) rfl rfl (yb_rs (off := 0) (cs := _) rfl (by kernel_rfl) (fun W hW => ((HGZ.out).keep hW.1).2) Tryd.underlying32 rfl (by kernel_rfl)) ?_
            refine lv (v := .tuple #[.agg #[.int .i64 0, .int .i64 0, .int .u8 0], .int .i64 80]) rfl rfl (yb_call (f := 31) (args := #[.agg (shC (.slice pcS cs.length ccS) (.slice poS osS.length coS) tl0).toArray, strV [48, 48, 49, 48, 48, 50, 50]]) (fun _ => by kernel_rfl) fun W hW => (by have h9 := SFind_any cs pcS ccS (by omega) osS poS coS (by omega) tl0 [48, 48, 49, 48, 48, 50, 50] (by first | omega | (simp only [List.length_set, List.length_append, List.length_take, List.length_cons, List.length_nil]; omega)) W ((RL.base HCZ.out) _ (hW.sub (fun _ h => by cases h))) ((RL.base HOZ.out) _ (hW.sub (fun _ h => by cases h))) (HRZ.out.keep hW.1) lrS ((good_plugs hg).1 W) (good_plugs hg).2 (HE.out.keep (hbZ.trans (hW.1.mono hbZ.size))); rw [find_no hr (l := [48, 48, 49, 48, 48, 50, 50]) (by kernel_rfl)] at h9; exact h9)) ?_
            refine lm (v := .tuple #[.agg #[.int .i64 0, .int .i64 0, .int .u8 0], .int .i64 80]) rfl rfl ?_
            refine lm (v := .agg #[.int .i64 0, .int .i64 0, .int .u8 0]) rfl rfl ?_
            refine lm (v := .int .i64 80) rfl rfl ?_
            refine wpL_new (fun g => .pointer (some ⟨g, 0, none⟩)) (obi := .cells #[.int .i64 0, .int .i64 0, .int .u8 0] 34 (0, 0)) rfl rfl (fun _ => by kernel_rfl) (fun _ => by simp only [List.setIfInBounds_toArray, List.set_cons_succ, List.set_cons_zero] <;> rfl) fun g27 Bg27 Fg27 => ?_
            obtain ⟨dj28_0, dj28_1, dj28_2, dj28_3, dj28_4⟩ : g25 ≠ g27 ∧ g23 ≠ g27 ∧ g21 ≠ g27 ∧ g19 ≠ g27 ∧ Dk g27 Kl14 := by simpa only [dj_app_l, dj_app_r, dj_cons_l, dj_cons_r, dj_nil_l, dj_nil_r, dk_app, dk_cons, dk_nil, and_true, true_and, and_assoc] using (show Dk g27 ((g25, .cells #[.int .i64 0, .int .i64 0, .int .u8 0] 34 (0, 0)) :: (g23, .cells #[.int .i64 0, .int .i64 0, .int .u8 0] 34 (0, 0)) :: (g21, .cells #[.int .i64 0, .int .i64 0, .int .u8 0] 34 (0, 0)) :: (g19, .stringIter ⟨nm.toArray⟩ k) :: Kl14) from Fg27)
            refine wpL_s ((g27, .cells #[.int .i64 0, .int .i64 0, .int .u8 0] 34 (0, 0)) :: (g25, .cells #[.int .i64 0, .int .i64 0, .int .u8 0] 34 (0, 0)) :: (g23, .cells #[.int .i64 0, .int .i64 0, .int .u8 0] 34 (0, 0)) :: (g21, .cells #[.int .i64 0, .int .i64 0, .int .u8 0] 34 (0, 0)) :: (g19, .stringIter ⟨nm.toArray⟩ k) :: Kl14) rfl rfl (st_row (off := 0) (v := .agg #[.int .i64 0, .int .i64 0, .int .u8 0]) rfl (by kernel_rfl) (by kernel_rfl) (.head _) Bg27 (by kernel_rfl) (by first | (simp [Value.cells]; done) | exact Nat.le_of_ble_eq_true rfl) (by intro v hv; simp [Value.cells] at hv; first | (subst hv; rfl) | (rcases hv with rfl | rfl | rfl <;> rfl)) (by kernel_rfl) (List.forall_mem_cons.2 ⟨.inl rfl, (List.forall_mem_cons.2 ⟨.inr ⟨(.tail _ (.head _)), (by first | assumption | exact Ne.symm (by assumption))⟩, (List.forall_mem_cons.2 ⟨.inr ⟨(.tail _ (.tail _ (.head _))), (by first | assumption | exact Ne.symm (by assumption))⟩, (List.forall_mem_cons.2 ⟨.inr ⟨(.tail _ (.tail _ (.tail _ (.head _)))), (by first | assumption | exact Ne.symm (by assumption))⟩, (List.forall_mem_cons.2 ⟨.inr ⟨(.tail _ (.tail _ (.tail _ (.tail _ (.head _))))), (by first | assumption | exact Ne.symm (by assumption))⟩, (fun p hp => .inr ⟨(.tail _ (.tail _ (.tail _ (.tail _ (.tail _ hp))))), ((show Dk g27 Kl14 from (by (try simp only [dj_app_l, dj_app_r, dj_cons_l, dj_cons_r, dj_nil_l, dj_nil_r, dk_app, dk_cons, dk_nil, and_true, true_and, and_assoc]); repeat' (first | trivial | assumption | exact Dj.symm (by assumption) | exact Ne.symm (by assumption) | apply And.intro))) _ hp)⟩)⟩)⟩)⟩)⟩)⟩)) ?_
            refine lm (v := .int .i64 80) rfl rfl ?_
            refine wpL_done (fun W22 hW22 => ?_)
            refine (show Code.wp _ _ _ _ _ from ?_)
            refine wp_seq ?_
            refine wp_region_L (W0 := W6) ((g27, .cells #[.int .i64 0, .int .i64 0, .int .u8 0] 34 (0, 0)) :: (g25, .cells #[.int .i64 0, .int .i64 0, .int .u8 0] 34 (0, 0)) :: (g23, .cells #[.int .i64 0, .int .i64 0, .int .u8 0] 34 (0, 0)) :: (g21, .cells #[.int .i64 0, .int .i64 0, .int .u8 0] 34 (0, 0)) :: (g19, .stringIter ⟨nm.toArray⟩ k) :: Kl14) (hW22) ?_
            refine lv (v := .agg (shC (.slice pcS cs.length ccS) (.slice poS osS.length coS) tl0).toArray) rfl rfl (yb_rs (off := 0) (cs := _) rfl (by kernel_rfl) (fun W hW => ((HGZ.out).keep hW.1).2) Tryd.underlying32 rfl (by kernel_rfl)) ?_
            refine lv (v := .tuple #[.agg #[.int .i64 0, .int .i64 0, .int .u8 0], .int .i64 80]) rfl rfl (yb_call (f := 31) (args := #[.agg (shC (.slice pcS cs.length ccS) (.slice poS osS.length coS) tl0).toArray, strV [48, 48, 49, 48, 48, 56, 48]]) (fun _ => by kernel_rfl) fun W hW => (by have h9 := SFind_any cs pcS ccS (by omega) osS poS coS (by omega) tl0 [48, 48, 49, 48, 48, 56, 48] (by first | omega | (simp only [List.length_set, List.length_append, List.length_take, List.length_cons, List.length_nil]; omega)) W ((RL.base HCZ.out) _ (hW.sub (fun _ h => by cases h))) ((RL.base HOZ.out) _ (hW.sub (fun _ h => by cases h))) (HRZ.out.keep hW.1) lrS ((good_plugs hg).1 W) (good_plugs hg).2 (HE.out.keep (hbZ.trans (hW.1.mono hbZ.size))); rw [find_no hr (l := [48, 48, 49, 48, 48, 56, 48]) (by kernel_rfl)] at h9; exact h9)) ?_
            refine lm (v := .tuple #[.agg #[.int .i64 0, .int .i64 0, .int .u8 0], .int .i64 80]) rfl rfl ?_
            refine lm (v := .agg #[.int .i64 0, .int .i64 0, .int .u8 0]) rfl rfl ?_
            refine lm (v := .int .i64 80) rfl rfl ?_
            refine wpL_new (fun g => .pointer (some ⟨g, 0, none⟩)) (obi := .cells #[.int .i64 0, .int .i64 0, .int .u8 0] 34 (0, 0)) rfl rfl (fun _ => by kernel_rfl) (fun _ => by simp only [List.setIfInBounds_toArray, List.set_cons_succ, List.set_cons_zero] <;> rfl) fun g29 Bg29 Fg29 => ?_
            obtain ⟨dj30_0, dj30_1, dj30_2, dj30_3, dj30_4, dj30_5⟩ : g27 ≠ g29 ∧ g25 ≠ g29 ∧ g23 ≠ g29 ∧ g21 ≠ g29 ∧ g19 ≠ g29 ∧ Dk g29 Kl14 := by simpa only [dj_app_l, dj_app_r, dj_cons_l, dj_cons_r, dj_nil_l, dj_nil_r, dk_app, dk_cons, dk_nil, and_true, true_and, and_assoc] using (show Dk g29 ((g27, .cells #[.int .i64 0, .int .i64 0, .int .u8 0] 34 (0, 0)) :: (g25, .cells #[.int .i64 0, .int .i64 0, .int .u8 0] 34 (0, 0)) :: (g23, .cells #[.int .i64 0, .int .i64 0, .int .u8 0] 34 (0, 0)) :: (g21, .cells #[.int .i64 0, .int .i64 0, .int .u8 0] 34 (0, 0)) :: (g19, .stringIter ⟨nm.toArray⟩ k) :: Kl14) from Fg29)
            refine wpL_s ((g29, .cells #[.int .i64 0, .int .i64 0, .int .u8 0] 34 (0, 0)) :: (g27, .cells #[.int .i64 0, .int .i64 0, .int .u8 0] 34 (0, 0)) :: (g25, .cells #[.int .i64 0, .int .i64 0, .int .u8 0] 34 (0, 0)) :: (g23, .cells #[.int .i64 0, .int .i64 0, .int .u8 0] 34 (0, 0)) :: (g21, .cells #[.int .i64 0, .int .i64 0, .int .u8 0] 34 (0, 0)) :: (g19, .stringIter ⟨nm.toArray⟩ k) :: Kl14) rfl rfl (st_row (off := 0) (v := .agg #[.int .i64 0, .int .i64 0, .int .u8 0]) rfl (by kernel_rfl) (by kernel_rfl) (.head _) Bg29 (by kernel_rfl) (by first | (simp [Value.cells]; done) | exact Nat.le_of_ble_eq_true rfl) (by intro v hv; simp [Value.cells] at hv; first | (subst hv; rfl) | (rcases hv with rfl | rfl | rfl <;> rfl)) (by kernel_rfl) (List.forall_mem_cons.2 ⟨.inl rfl, (List.forall_mem_cons.2 ⟨.inr ⟨(.tail _ (.head _)), (by first | assumption | exact Ne.symm (by assumption))⟩, (List.forall_mem_cons.2 ⟨.inr ⟨(.tail _ (.tail _ (.head _))), (by first | assumption | exact Ne.symm (by assumption))⟩, (List.forall_mem_cons.2 ⟨.inr ⟨(.tail _ (.tail _ (.tail _ (.head _)))), (by first | assumption | exact Ne.symm (by assumption))⟩, (List.forall_mem_cons.2 ⟨.inr ⟨(.tail _ (.tail _ (.tail _ (.tail _ (.head _))))), (by first | assumption | exact Ne.symm (by assumption))⟩, (List.forall_mem_cons.2 ⟨.inr ⟨(.tail _ (.tail _ (.tail _ (.tail _ (.tail _ (.head _)))))), (by first | assumption | exact Ne.symm (by assumption))⟩, (fun p hp => .inr ⟨(.tail _ (.tail _ (.tail _ (.tail _ (.tail _ (.tail _ hp)))))), ((show Dk g29 Kl14 from (by (try simp only [dj_app_l, dj_app_r, dj_cons_l, dj_cons_r, dj_nil_l, dj_nil_r, dk_app, dk_cons, dk_nil, and_true, true_and, and_assoc]); repeat' (first | trivial | assumption | exact Dj.symm (by assumption) | exact Ne.symm (by assumption) | apply And.intro))) _ hp)⟩)⟩)⟩)⟩)⟩)⟩)⟩)) ?_
            refine lm (v := .int .i64 80) rfl rfl ?_
            refine wpL_done (fun W23 hW23 => ?_)
            refine (show Code.wp _ _ _ _ _ from ?_)
            refine wp_seq ?_
            refine wp_region_L (W0 := W6) ((g29, .cells #[.int .i64 0, .int .i64 0, .int .u8 0] 34 (0, 0)) :: (g27, .cells #[.int .i64 0, .int .i64 0, .int .u8 0] 34 (0, 0)) :: (g25, .cells #[.int .i64 0, .int .i64 0, .int .u8 0] 34 (0, 0)) :: (g23, .cells #[.int .i64 0, .int .i64 0, .int .u8 0] 34 (0, 0)) :: (g21, .cells #[.int .i64 0, .int .i64 0, .int .u8 0] 34 (0, 0)) :: (g19, .stringIter ⟨nm.toArray⟩ k) :: Kl14) (hW23) ?_
            refine lm (v := .int .i64 80) rfl rfl ?_
            refine lm (v := .bool true) rfl rfl ?_
            refine lm (v := .bool true) rfl rfl ?_
            refine lm (v := .int .i64 80) rfl rfl ?_
            refine lm (v := .int .i64 80) rfl rfl ?_
            refine lm (v := .bool true) rfl rfl ?_
            refine lm (v := .bool true) rfl rfl ?_
            refine lm (v := .bool true) rfl rfl ?_
            refine lm (v := .int .i64 80) rfl rfl ?_
            refine lm (v := .int .i64 80) rfl rfl ?_
            refine lm (v := .bool true) rfl rfl ?_
            refine lm (v := .bool true) rfl rfl ?_
            refine lm (v := .bool true) rfl rfl ?_
            refine lm (v := .int .i64 80) rfl rfl ?_
            refine lm (v := .int .i64 80) rfl rfl ?_
            refine lm (v := .bool true) rfl rfl ?_
            refine lm (v := .bool true) rfl rfl ?_
            refine lm (v := .bool true) rfl rfl ?_
            refine lm (v := .int .i64 80) rfl rfl ?_
            refine lm (v := .int .i64 80) rfl rfl ?_
            refine lm (v := .bool true) rfl rfl ?_
            refine lm (v := .bool true) rfl rfl ?_
            refine lm (v := .bool true) rfl rfl ?_
            refine lv (v := .bool true) rfl rfl (yb_call (f := 11) (args := #[]) (fun _ => by kernel_rfl) fun W hW => awake8_any W (HE.out.keep (hbZ.trans (hW.1.mono hbZ.size)))) ?_
            refine lm (v := .bool true) rfl rfl ?_
            refine lm (v := .bool true) rfl rfl ?_
            refine wpL_done (fun W24 hW24 => ?_)
            refine (show Code.wp _ _ _ _ _ from ?_)
            refine wp_ret ?_
            try simp only [inBlock_ret, then_ret]
            refine bodyPost_ret (v := .bool true) ?_ rfl ?_
            · kernel_rfl
            · exact ⟨rfl, (hbZ.trans (hW24.1.mono hbZ.size))⟩
          | true =>
            have h2 : k < nm.length := of_decide_eq_true hd2
            clear hd2
            obtain ⟨b31, hb31⟩ : ∃ b, (nm : List UInt8)[k]? = some b := ⟨_, List.getElem?_eq_getElem (by omega)⟩
            have lb31 := b31.toNat_lt
            refine wpL_g (NxO nm k b31 (fun n => ((g19, .stringIter ⟨nm.toArray⟩ (k + n)) :: Kl14))) rfl rfl (nx_some (Kf := fun n => ((g19, .stringIter ⟨nm.toArray⟩ (k + n)) :: Kl14)) rfl (by kernel_rfl) (.head _) Bg19 hb31 (fun n => (List.forall_mem_cons.2 ⟨.inl rfl, (fun p hp => .inr ⟨(.tail _ hp), ((show Dk g19 Kl14 from (by (try simp only [dj_app_l, dj_app_r, dj_cons_l, dj_cons_r, dj_nil_l, dj_nil_r, dk_app, dk_cons, dk_nil, and_true, true_and, and_assoc]); repeat' (first | trivial | assumption | exact Dj.symm (by assumption) | exact Ne.symm (by assumption) | apply And.intro))) _ hp)⟩)⟩))) (fun _ => by simp only [List.setIfInBounds_toArray, List.set_cons_succ, List.set_cons_zero] <;> rfl) ?_
            rintro _ K9 ⟨r32, n32, rfl, rfl, hr32⟩
            refine lm (v := .bool true) rfl rfl ?_
            refine wpL_done (fun W25 hW25 => ?_)
            have mbb31 := dg_lt (hnd _ (List.mem_of_getElem? hb31))
            obtain rfl := rn_one8 hr32 mbb31
            refine (show Code.wp _ _ _ _ _ from ?_)
            refine wp_seq ?_
            refine wp_cond_true rfl ?_
            refine wp_skip ?_
            refine (show Code.wp _ _ _ _ _ from ?_)
            refine wp_block ?_
            refine wp_seq ?_
            refine wp_region_L (W0 := W6) ((g19, .stringIter ⟨nm.toArray⟩ (k + 1)) :: Kl14) (hW25) ?_
            refine lm (v := .int .i64 ((k : Nat) : Int)) rfl rfl ?_
            refine lm (v := .int .i64 ((k : Nat) : Int)) rfl rfl ?_
            refine wpL_done (fun W26 hW26 => ?_)
            refine (show Code.wp _ _ _ _ _ from ?_)
            refine wp_seq ?_
            refine wp_region_L (W0 := W6) ((g19, .stringIter ⟨nm.toArray⟩ (k + 1)) :: Kl14) (hW26) ?_
            refine lm (v := strV nm) rfl rfl ?_
            refine wpL_g (ConvB W6 5 ((g19, .stringIter ⟨nm.toArray⟩ (k + 1)) :: Kl14) nm) rfl rfl (conv_bytes rfl Tryd.underlying78 Tryd.underlying5 Tryd.underlying9 (by kernel_rfl)) (fun _ => by simp only [List.setIfInBounds_toArray, List.set_cons_succ, List.set_cons_zero] <;> rfl) ?_
            rintro v K9 ⟨g33, capg33, curg33, frg33, rfl, Bg33, Fg33, Rg33, Zg33, Yg33, rfl⟩
            obtain ⟨dj34_0, dj34_1⟩ : g19 ≠ g33 ∧ Dk g33 Kl14 := by simpa only [dj_app_l, dj_app_r, dj_cons_l, dj_cons_r, dj_nil_l, dj_nil_r, dk_app, dk_cons, dk_nil, and_true, true_and, and_assoc] using (show Dk g33 ((g19, .stringIter ⟨nm.toArray⟩ (k + 1)) :: Kl14) from Fg33)
            refine lm (v := .slice (some ⟨g33, 0, none⟩) nm.length capg33) rfl rfl ?_
            refine wpL_done (fun W27 hW27 => ?_)
            refine (show Code.wp _ _ _ _ _ from ?_)
            refine wp_seq ?_
            refine wp_region_L (W0 := W6) ((g33, .cells curg33 5 frg33) :: (g19, .stringIter ⟨nm.toArray⟩ (k + 1)) :: Kl14) (hW27) ?_
            refine lm (v := .slice (some ⟨g33, 0, none⟩) nm.length capg33) rfl rfl ?_
            refine lm (v := .int .i64 ((k : Nat) : Int)) rfl rfl ?_
            refine lm (v := .int .u8 ((b.toNat : Nat) : Int)) rfl rfl ?_
            refine lp (v := .pointer (some ⟨g33, 0 + k * 1, none⟩)) rfl rfl (run_idxL (j := .i64) (n := nm.length) (cap := capg33) (b := g33) (off := 0) (k := k) (sz := 1) rfl Tryd.underlying78 (by kernel_rfl) (by kernel_rfl) (by kernel_rfl) (by omega)) ?_
            have Lcur35 : (nm.set k b).length = nm.length := List.length_set
            have Rcur35 : RowB (curg33.setIfInBounds (0 + k * 1) (.int .u8 ((b.toNat : Nat) : Int))) (nm.set k b) := rowb_set Rg33 Zg33 (by omega)
            have Zcur35 : (nm.set k b).length ≤ (curg33.setIfInBounds (0 + k * 1) (.int .u8 ((b.toNat : Nat) : Int))).size := by simpa using Zg33
            have Ycur35 : (curg33.setIfInBounds (0 + k * 1) (.int .u8 ((b.toNat : Nat) : Int))).size ≤ frg33.1 := by simpa using Yg33
            refine wpL_s ((g33, .cells (curg33.setIfInBounds (0 + k * 1) (.int .u8 ((b.toNat : Nat) : Int))) 5 frg33) :: (g19, .stringIter ⟨nm.toArray⟩ (k + 1)) :: Kl14) rfl rfl (st_at (off := 0 + k * 1) (v := .int .u8 ((b.toNat : Nat) : Int)) rfl (by kernel_rfl) (by kernel_rfl) (.head _) Bg33 (by kernel_rfl) rfl rfl (by have := Zg33; omega) (.inl Yg33) (List.forall_mem_cons.2 ⟨.inl rfl, (List.forall_mem_cons.2 ⟨.inr ⟨(.tail _ (.head _)), (by first | assumption | exact Ne.symm (by assumption))⟩, (fun p hp => .inr ⟨(.tail _ (.tail _ hp)), ((show Dk g33 Kl14 from (by (try simp only [dj_app_l, dj_app_r, dj_cons_l, dj_cons_r, dj_nil_l, dj_nil_r, dk_app, dk_cons, dk_nil, and_true, true_and, and_assoc]); repeat' (first | trivial | assumption | exact Dj.symm (by assumption) | exact Ne.symm (by assumption) | apply And.intro))) _ hp)⟩)⟩)⟩)) ?_
            refine wpL_done (fun W28 hW28 => ?_)
            refine (show Code.wp _ _ _ _ _ from ?_)
            refine wp_seq ?_
            refine wp_region_L (W0 := W6) ((g33, .cells (curg33.setIfInBounds (0 + k * 1) (.int .u8 ((b.toNat : Nat) : Int))) 5 frg33) :: (g19, .stringIter ⟨nm.toArray⟩ (k + 1)) :: Kl14) (hW28) ?_
            refine lv (v := .agg (shC (.slice pcS cs.length ccS) (.slice poS osS.length coS) tl0).toArray) rfl rfl (yb_rs (off := 0) (cs := _) rfl (by kernel_rfl) (fun W hW => ((HGZ.out).keep hW.1).2) Tryd.underlying32 rfl (by kernel_rfl)) ?_
            refine lm (v := .slice (some ⟨g33, 0, none⟩) nm.length capg33) rfl rfl ?_
            refine lv (v := strV (nm.set k b)) rfl rfl (yb_str (n := nm.length) (cap := capg33) (l := (nm.set k b)) rfl Tryd.underlying78 Tryd.underlying5 Tryd.underlying9 (by kernel_rfl) (by simp) (.head _) Rcur35) ?_
            obtain ⟨fy, fe, hfe, hfc, hfp⟩ := find_what hr (nm.set k b)
            have hset : (nm.set k b)[k]? = some b := List.getElem?_set_self (by omega)
            refine lv (v := .tuple #[.agg (sltC fy).toArray, .int .i64 ((fe : Nat) : Int)]) rfl rfl (yb_call (f := 31) (args := #[.agg (shC (.slice pcS cs.length ccS) (.slice poS osS.length coS) tl0).toArray, strV (nm.set k b)]) (fun _ => by kernel_rfl) fun W hW => (by have h9 := SFind_any cs pcS ccS (by omega) osS poS coS (by omega) tl0 (nm.set k b) (by first | omega | (simp only [List.length_set, List.length_append, List.length_take, List.length_cons, List.length_nil]; omega)) W ((RL.base HCZ.out) _ (hW.sub (fun _ h => by cases h))) ((RL.base HOZ.out) _ (hW.sub (fun _ h => by cases h))) (HRZ.out.keep hW.1) lrS ((good_plugs hg).1 W) (good_plugs hg).2 (HE.out.keep (hbZ.trans (hW.1.mono hbZ.size))); rw [hfe] at h9; exact h9)) ?_
            refine lm (v := .tuple #[.agg (sltC fy).toArray, .int .i64 ((fe : Nat) : Int)]) rfl rfl ?_
            refine lm (v := .agg (sltC fy).toArray) rfl rfl ?_
            refine lm (v := .int .i64 ((fe : Nat) : Int)) rfl rfl ?_
            refine wpL_new (fun g => .pointer (some ⟨g, 0, none⟩)) (obi := .cells #[.int .i64 0, .int .i64 0, .int .u8 0] 34 (0, 0)) rfl rfl (fun _ => by kernel_rfl) (fun _ => by simp only [List.setIfInBounds_toArray, List.set_cons_succ, List.set_cons_zero] <;> rfl) fun g36 Bg36 Fg36 => ?_
            obtain ⟨dj37_0, dj37_1, dj37_2⟩ : g33 ≠ g36 ∧ g19 ≠ g36 ∧ Dk g36 Kl14 := by simpa only [dj_app_l, dj_app_r, dj_cons_l, dj_cons_r, dj_nil_l, dj_nil_r, dk_app, dk_cons, dk_nil, and_true, true_and, and_assoc] using (show Dk g36 ((g33, .cells (curg33.setIfInBounds (0 + k * 1) (.int .u8 ((b.toNat : Nat) : Int))) 5 frg33) :: (g19, .stringIter ⟨nm.toArray⟩ (k + 1)) :: Kl14) from Fg36)
            refine wpL_s ((g36, .cells (sltC fy).toArray 34 (0, 0)) :: (g33, .cells (curg33.setIfInBounds (0 + k * 1) (.int .u8 ((b.toNat : Nat) : Int))) 5 frg33) :: (g19, .stringIter ⟨nm.toArray⟩ (k + 1)) :: Kl14) rfl rfl (st_row (off := 0) (v := .agg (sltC fy).toArray) rfl (by kernel_rfl) (by kernel_rfl) (.head _) Bg36 (by kernel_rfl) (by first | (simp [Value.cells]; done) | exact Nat.le_of_ble_eq_true rfl) (fun v hv => sltC_one fy v hv) (by kernel_rfl) (List.forall_mem_cons.2 ⟨.inl rfl, (List.forall_mem_cons.2 ⟨.inr ⟨(.tail _ (.head _)), (by first | assumption | exact Ne.symm (by assumption))⟩, (List.forall_mem_cons.2 ⟨.inr ⟨(.tail _ (.tail _ (.head _))), (by first | assumption | exact Ne.symm (by assumption))⟩, (fun p hp => .inr ⟨(.tail _ (.tail _ (.tail _ hp))), ((show Dk g36 Kl14 from (by (try simp only [dj_app_l, dj_app_r, dj_cons_l, dj_cons_r, dj_nil_l, dj_nil_r, dk_app, dk_cons, dk_nil, and_true, true_and, and_assoc]); repeat' (first | trivial | assumption | exact Dj.symm (by assumption) | exact Ne.symm (by assumption) | apply And.intro))) _ hp)⟩)⟩)⟩)⟩)) ?_
            refine lm (v := .int .i64 ((fe : Nat) : Int)) rfl rfl ?_
            refine wpL_done (fun W29 hW29 => ?_)
            refine (show Code.wp _ _ _ _ _ from ?_)
            refine wp_seq ?_
            refine wp_region_L (W0 := W6) ((g36, .cells (sltC fy).toArray 34 (0, 0)) :: (g33, .cells (curg33.setIfInBounds (0 + k * 1) (.int .u8 ((b.toNat : Nat) : Int))) 5 frg33) :: (g19, .stringIter ⟨nm.toArray⟩ (k + 1)) :: Kl14) (hW29) ?_
            refine lm (v := .int .u8 ((b.toNat : Nat) : Int)) rfl rfl ?_
            refine lp (v := .bool (!(decide (b.toNat < 48)))) rfl rfl (run_bin rfl (vx := (.int .u8 ((b.toNat : Nat) : Int))) (vy := (.int .u8 ((48 : Nat) : Int))) (by kernel_rfl) (by kernel_rfl) fun w => bn_geq rfl w) ?_
            refine lm (v := .bool (!(decide (b.toNat < 48)))) rfl rfl ?_
            cases hd3 : (decide (b.toNat < 48)) with
            | false =>
              have h3 : ¬ (b.toNat < 48) := of_decide_eq_false hd3
              clear hd3
              refine lm (v := .int .u8 ((b.toNat : Nat) : Int)) rfl rfl ?_
              refine lp (v := .bool (!(decide (57 < b.toNat)))) rfl rfl (run_bin rfl (vx := (.int .u8 ((b.toNat : Nat) : Int))) (vy := (.int .u8 ((57 : Nat) : Int))) (by kernel_rfl) (by kernel_rfl) fun w => bn_leq rfl w) ?_
              refine lm (v := .bool (!(decide (57 < b.toNat)))) rfl rfl ?_
              refine lm (v := .bool (!(decide (57 < b.toNat)))) rfl rfl ?_
              refine wpL_done (fun W30 hW30 => ?_)
              refine (show Code.wp _ _ _ _ _ from ?_)
              refine wp_seq ?_
              refine wp_seq ?_
              refine wp_region_L (W0 := W6) ((g36, .cells (sltC fy).toArray 34 (0, 0)) :: (g33, .cells (curg33.setIfInBounds (0 + k * 1) (.int .u8 ((b.toNat : Nat) : Int))) 5 frg33) :: (g19, .stringIter ⟨nm.toArray⟩ (k + 1)) :: Kl14) (hW30) ?_
              refine lm (v := .bool (!(decide (57 < b.toNat)))) rfl rfl ?_
              refine lp (v := .bool (decide (57 < b.toNat))) rfl rfl (run_un (v := .bool (decide (57 < b.toNat))) rfl (by kernel_rfl) fun w => (un_not w).trans (by rw [Bool.not_not])) ?_
              refine lm (v := .bool (decide (57 < b.toNat))) rfl rfl ?_
              cases hd4 : (decide (57 < b.toNat)) with
              | false =>
                have h4 : ¬ (57 < b.toNat) := of_decide_eq_false hd4
                clear hd4
                refine ln rfl ?_
                refine ln rfl ?_
                refine lm (v := .bool false) rfl rfl ?_
                refine lm (v := .bool false) rfl rfl ?_
                refine lm (v := .int .i64 ((fe : Nat) : Int)) rfl rfl ?_
                refine lp (v := .bool (!(decide (fe = 0)))) rfl rfl (run_bin rfl (vx := (.int .i64 ((fe : Nat) : Int))) (vy := (.int .i64 ((0 : Nat) : Int))) (by kernel_rfl) (by kernel_rfl) fun w => bn_neq rfl w) ?_
                refine lm (v := .bool (!(decide (fe = 0)))) rfl rfl ?_
                cases hd5 : (decide (fe = 0)) with
                | false =>
                  have h5 : ¬ (fe = 0) := of_decide_eq_false hd5
                  clear hd5
                  refine lv (v := .agg (sltC fy).toArray) rfl rfl (yb_load (n := 3) (off := 0) rfl (by kernel_rfl) (.head _) Tryd.underlying34 rfl (by kernel_rfl) (by first | (simp [Value.cells]; done) | exact Nat.le_of_ble_eq_true rfl) (by kernel_rfl)) ?_
                  refine lm (v := .agg #[.int .i64 0, .int .i64 0, .int .u8 0]) rfl rfl ?_
                  refine lp (v := .bool (!(eqS fy (⟨0, 0, 0⟩ : Slt)))) rfl rfl (run_bin rfl (vx := .agg (sltC fy).toArray) (vy := .agg (sltC (⟨0, 0, 0⟩ : Slt)).toArray) (by kernel_rfl) (by kernel_rfl) fun w => ne_slt w) ?_
                  refine lm (v := .bool (!(eqS fy (⟨0, 0, 0⟩ : Slt)))) rfl rfl ?_
                  refine lm (v := .bool (!(eqS fy (⟨0, 0, 0⟩ : Slt)))) rfl rfl ?_
                  refine wpL_done (fun W31 hW31 => ?_)
                  refine (show Code.wp _ _ _ _ _ from ?_)
                  cases h6 : (eqS fy (⟨0, 0, 0⟩ : Slt)) with
                  | false =>
                    exact absurd (show (eqS fy (⟨0, 0, 0⟩ : Slt)) = true from by rcases hfc with ⟨h, _⟩ | ⟨_, h⟩; exact absurd h h5; rw [h]; rfl) (by rw [h6]; decide)
                  | true =>
                    refine wp_cond_false rfl ?_
                    refine wp_skip ?_
                    refine (show Code.wp _ _ _ _ _ from ?_)
                    refine wp_seq ?_
                    refine wp_region_L (W0 := W6) ((g36, .cells (sltC fy).toArray 34 (0, 0)) :: (g33, .cells (curg33.setIfInBounds (0 + k * 1) (.int .u8 ((b.toNat : Nat) : Int))) 5 frg33) :: (g19, .stringIter ⟨nm.toArray⟩ (k + 1)) :: Kl14) (hW31) ?_
                    refine lv (v := .agg (shC (.slice pcS cs.length ccS) (.slice poS osS.length coS) tl0).toArray) rfl rfl (yb_rs (off := 0) (cs := _) rfl (by kernel_rfl) (fun W hW => ((HGZ.out).keep hW.1).2) Tryd.underlying32 rfl (by kernel_rfl)) ?_
                    refine lv (v := .agg (sltC fy).toArray) rfl rfl (yb_load (n := 3) (off := 0) rfl (by kernel_rfl) (.head _) Tryd.underlying34 rfl (by kernel_rfl) (by first | (simp [Value.cells]; done) | exact Nat.le_of_ble_eq_true rfl) (by kernel_rfl)) ?_
                    refine lv (v := .tuple #[strV ((nameR cs osS fy).1), .int .i64 ((((nameR cs osS fy).2) : Nat) : Int)]) rfl rfl (yb_call (f := 29) (args := #[.agg (shC (.slice pcS cs.length ccS) (.slice poS osS.length coS) tl0).toArray, .agg (sltC fy).toArray]) (fun _ => by kernel_rfl) fun W hW => SName_any cs pcS ccS (by omega) osS poS coS (by omega) tl0 fy.col fy.tier fy.half W ((RL.base HCZ.out) _ (hW.sub (fun _ h => by cases h))) ((RL.base HOZ.out) _ (hW.sub (fun _ h => by cases h))) (HRZ.out.keep hW.1) lrS ((good_plugs hg).1 W) (good_plugs hg).2 (HE.out.keep (hbZ.trans (hW.1.mono hbZ.size)))) ?_
                    refine lm (v := .tuple #[strV ((nameR cs osS fy).1), .int .i64 ((((nameR cs osS fy).2) : Nat) : Int)]) rfl rfl ?_
                    refine lm (v := strV ((nameR cs osS fy).1)) rfl rfl ?_
                    refine lm (v := .int .i64 ((((nameR cs osS fy).2) : Nat) : Int)) rfl rfl ?_
                    refine lm (v := strV ((nameR cs osS fy).1)) rfl rfl ?_
                    refine lm (v := .int .i64 ((((nameR cs osS fy).2) : Nat) : Int)) rfl rfl ?_
                    refine wpL_done (fun W32 hW32 => ?_)
                    refine (show Code.wp _ _ _ _ _ from ?_)
                    refine wp_seq ?_
                    refine wp_region_L (W0 := W6) ((g36, .cells (sltC fy).toArray 34 (0, 0)) :: (g33, .cells (curg33.setIfInBounds (0 + k * 1) (.int .u8 ((b.toNat : Nat) : Int))) 5 frg33) :: (g19, .stringIter ⟨nm.toArray⟩ (k + 1)) :: Kl14) (hW32) ?_
                    refine lm (v := .int .i64 ((fe : Nat) : Int)) rfl rfl ?_
                    refine lp (v := .bool false) rfl rfl (run_bin rfl (vx := (.int .i64 ((fe : Nat) : Int))) (vy := (.int .i64 ((0 : Nat) : Int))) (by kernel_rfl) (by kernel_rfl) fun w => bn_eql (decide_eq_false (by assumption)) w) ?_
                    refine lm (v := .bool false) rfl rfl ?_
                    refine ln rfl ?_
                    refine ln rfl ?_
                    refine ln rfl ?_
                    refine ln rfl ?_
                    refine ln rfl ?_
                    refine ln rfl ?_
                    refine ln rfl ?_
                    refine ln rfl ?_
                    refine lm (v := .bool false) rfl rfl ?_
                    refine wpL_done (fun W33 hW33 => ?_)
                    refine (show Code.wp _ _ _ _ _ from ?_)
                    refine wp_cond_false rfl ?_
                    refine wp_skip ?_
                    go_roundw
                    case rel =>
                      repeat apply Exists.intro
                      exact ⟨⟨(k + 1), (by omega), (hW33.sub (fun p hp => by first | exact hp | (simp only [List.mem_cons, List.mem_append, List.nil_append, List.not_mem_nil, or_assoc, or_false, false_or] at hp ⊢ <;> grind)))⟩, rfl⟩
                    case measure => have e1 := iterPos_of (hL17.2 _ (.head _)); have e2 := iterPos_of (hW33.2 _ (.tail _ (.tail _ (.head _)))); rw [e1, e2]; omega
                | true =>
                  have h5 : fe = 0 := of_decide_eq_true hd5
                  clear hd5
                  refine ln rfl ?_
                  refine ln rfl ?_
                  refine ln rfl ?_
                  refine lm (v := .bool false) rfl rfl ?_
                  refine lm (v := .bool false) rfl rfl ?_
                  refine wpL_done (fun W34 hW34 => ?_)
                  refine (show Code.wp _ _ _ _ _ from ?_)
                  refine wp_cond_false rfl ?_
                  refine wp_skip ?_
                  refine (show Code.wp _ _ _ _ _ from ?_)
                  refine wp_seq ?_
                  refine wp_region_L (W0 := W6) ((g36, .cells (sltC fy).toArray 34 (0, 0)) :: (g33, .cells (curg33.setIfInBounds (0 + k * 1) (.int .u8 ((b.toNat : Nat) : Int))) 5 frg33) :: (g19, .stringIter ⟨nm.toArray⟩ (k + 1)) :: Kl14) (hW34) ?_
                  refine lv (v := .agg (shC (.slice pcS cs.length ccS) (.slice poS osS.length coS) tl0).toArray) rfl rfl (yb_rs (off := 0) (cs := _) rfl (by kernel_rfl) (fun W hW => ((HGZ.out).keep hW.1).2) Tryd.underlying32 rfl (by kernel_rfl)) ?_
                  refine lv (v := .agg (sltC fy).toArray) rfl rfl (yb_load (n := 3) (off := 0) rfl (by kernel_rfl) (.head _) Tryd.underlying34 rfl (by kernel_rfl) (by first | (simp [Value.cells]; done) | exact Nat.le_of_ble_eq_true rfl) (by kernel_rfl)) ?_
                  have hback : nameR cs osS fy = (nm.set k b, 0) := by rcases hfc with ⟨_, h⟩ | ⟨h, _⟩; exact h; exact absurd h5 h
                  refine lv (v := .tuple #[strV (nm.set k b), .int .i64 0]) rfl rfl (yb_call (f := 29) (args := #[.agg (shC (.slice pcS cs.length ccS) (.slice poS osS.length coS) tl0).toArray, .agg (sltC fy).toArray]) (fun _ => by kernel_rfl) fun W hW => (by have h9 := SName_any cs pcS ccS (by omega) osS poS coS (by omega) tl0 fy.col fy.tier fy.half W ((RL.base HCZ.out) _ (hW.sub (fun _ h => by cases h))) ((RL.base HOZ.out) _ (hW.sub (fun _ h => by cases h))) (HRZ.out.keep hW.1) lrS ((good_plugs hg).1 W) (good_plugs hg).2 (HE.out.keep (hbZ.trans (hW.1.mono hbZ.size))); rw [hback] at h9; exact h9)) ?_
                  refine lm (v := .tuple #[strV (nm.set k b), .int .i64 0]) rfl rfl ?_
                  refine lm (v := strV (nm.set k b)) rfl rfl ?_
                  refine lm (v := .int .i64 0) rfl rfl ?_
                  refine lm (v := strV (nm.set k b)) rfl rfl ?_
                  refine lm (v := .int .i64 0) rfl rfl ?_
                  refine wpL_done (fun W35 hW35 => ?_)
                  refine (show Code.wp _ _ _ _ _ from ?_)
                  refine wp_seq ?_
                  refine wp_region_L (W0 := W6) ((g36, .cells (sltC fy).toArray 34 (0, 0)) :: (g33, .cells (curg33.setIfInBounds (0 + k * 1) (.int .u8 ((b.toNat : Nat) : Int))) 5 frg33) :: (g19, .stringIter ⟨nm.toArray⟩ (k + 1)) :: Kl14) (hW35) ?_
                  refine lm (v := .int .i64 ((fe : Nat) : Int)) rfl rfl ?_
                  refine lp (v := .bool true) rfl rfl (run_bin rfl (vx := (.int .i64 ((fe : Nat) : Int))) (vy := (.int .i64 ((0 : Nat) : Int))) (by kernel_rfl) (by kernel_rfl) fun w => bn_eql (decide_eq_true (by assumption)) w) ?_
                  refine lm (v := .bool true) rfl rfl ?_
                  refine lm (v := .int .i64 0) rfl rfl ?_
                  refine lm (v := .bool false) rfl rfl ?_
                  refine lm (v := .bool false) rfl rfl ?_
                  refine lm (v := strV (nm.set k b)) rfl rfl ?_
                  refine lm (v := .slice (some ⟨g33, 0, none⟩) nm.length capg33) rfl rfl ?_
                  refine lv (v := strV (nm.set k b)) rfl rfl (yb_str (n := nm.length) (cap := capg33) (l := (nm.set k b)) rfl Tryd.underlying78 Tryd.underlying5 Tryd.underlying9 (by kernel_rfl) (by simp) (.tail _ (.head _)) Rcur35) ?_
                  refine lp (v := .bool false) rfl rfl (run_bin rfl (vx := strV (nm.set k b)) (vy := strV (nm.set k b)) (by kernel_rfl) (by kernel_rfl) fun w => bs_neq (decide_eq_true rfl) w) ?_
                  refine lm (v := .bool false) rfl rfl ?_
                  refine lm (v := .bool false) rfl rfl ?_
                  refine wpL_done (fun W36 hW36 => ?_)
                  refine (show Code.wp _ _ _ _ _ from ?_)
                  refine wp_cond_false rfl ?_
                  refine wp_skip ?_
                  go_roundw
                  case rel =>
                    repeat apply Exists.intro
                    exact ⟨⟨(k + 1), (by omega), (hW36.sub (fun p hp => by first | exact hp | (simp only [List.mem_cons, List.mem_append, List.nil_append, List.not_mem_nil, or_assoc, or_false, false_or] at hp ⊢ <;> grind)))⟩, rfl⟩
                  case measure => have e1 := iterPos_of (hL17.2 _ (.head _)); have e2 := iterPos_of (hW36.2 _ (.tail _ (.tail _ (.head _)))); rw [e1, e2]; omega
              | true =>
                have h4 : 57 < b.toNat := of_decide_eq_true hd4
                clear hd4
                refine lm (v := .int .i64 ((fe : Nat) : Int)) rfl rfl ?_
                refine lp (v := .bool (!(decide (fe = 80)))) rfl rfl (run_bin rfl (vx := (.int .i64 ((fe : Nat) : Int))) (vy := (.int .i64 ((80 : Nat) : Int))) (by kernel_rfl) (by kernel_rfl) fun w => bn_neq rfl w) ?_
                refine lm (v := .bool (!(decide (fe = 80)))) rfl rfl ?_
                refine lm (v := .bool (!(decide (fe = 80)))) rfl rfl ?_
                cases hd7 : (decide (fe = 80)) with
                | false =>
                  have h7 : ¬ (fe = 80) := of_decide_eq_false hd7
                  clear hd7
                  exact absurd (hfp (place_dg hset (nodg_hi h4))) h7
                | true =>
                  have h7 : fe = 80 := of_decide_eq_true hd7
                  clear hd7
                  refine lm (v := .int .i64 ((fe : Nat) : Int)) rfl rfl ?_
                  refine lp (v := .bool (!(decide (fe = 0)))) rfl rfl (run_bin rfl (vx := (.int .i64 ((fe : Nat) : Int))) (vy := (.int .i64 ((0 : Nat) : Int))) (by kernel_rfl) (by kernel_rfl) fun w => bn_neq rfl w) ?_
                  refine lm (v := .bool (!(decide (fe = 0)))) rfl rfl ?_
                  cases hd8 : (decide (fe = 0)) with
                  | false =>
                    have h8 : ¬ (fe = 0) := of_decide_eq_false hd8
                    clear hd8
                    refine lv (v := .agg (sltC fy).toArray) rfl rfl (yb_load (n := 3) (off := 0) rfl (by kernel_rfl) (.head _) Tryd.underlying34 rfl (by kernel_rfl) (by first | (simp [Value.cells]; done) | exact Nat.le_of_ble_eq_true rfl) (by kernel_rfl)) ?_
                    refine lm (v := .agg #[.int .i64 0, .int .i64 0, .int .u8 0]) rfl rfl ?_
                    refine lp (v := .bool (!(eqS fy (⟨0, 0, 0⟩ : Slt)))) rfl rfl (run_bin rfl (vx := .agg (sltC fy).toArray) (vy := .agg (sltC (⟨0, 0, 0⟩ : Slt)).toArray) (by kernel_rfl) (by kernel_rfl) fun w => ne_slt w) ?_
                    refine lm (v := .bool (!(eqS fy (⟨0, 0, 0⟩ : Slt)))) rfl rfl ?_
                    refine lm (v := .bool (!(eqS fy (⟨0, 0, 0⟩ : Slt)))) rfl rfl ?_
                    refine wpL_done (fun W37 hW37 => ?_)
                    refine (show Code.wp _ _ _ _ _ from ?_)
                    cases h9 : (eqS fy (⟨0, 0, 0⟩ : Slt)) with
                    | false =>
                      exact absurd (show (eqS fy (⟨0, 0, 0⟩ : Slt)) = true from by rcases hfc with ⟨h, _⟩ | ⟨_, h⟩; exact absurd h h8; rw [h]; rfl) (by rw [h9]; decide)
                    | true =>
                      refine wp_cond_false rfl ?_
                      refine wp_skip ?_
                      refine (show Code.wp _ _ _ _ _ from ?_)
                      refine wp_seq ?_
                      refine wp_region_L (W0 := W6) ((g36, .cells (sltC fy).toArray 34 (0, 0)) :: (g33, .cells (curg33.setIfInBounds (0 + k * 1) (.int .u8 ((b.toNat : Nat) : Int))) 5 frg33) :: (g19, .stringIter ⟨nm.toArray⟩ (k + 1)) :: Kl14) (hW37) ?_
                      refine lv (v := .agg (shC (.slice pcS cs.length ccS) (.slice poS osS.length coS) tl0).toArray) rfl rfl (yb_rs (off := 0) (cs := _) rfl (by kernel_rfl) (fun W hW => ((HGZ.out).keep hW.1).2) Tryd.underlying32 rfl (by kernel_rfl)) ?_
                      refine lv (v := .agg (sltC fy).toArray) rfl rfl (yb_load (n := 3) (off := 0) rfl (by kernel_rfl) (.head _) Tryd.underlying34 rfl (by kernel_rfl) (by first | (simp [Value.cells]; done) | exact Nat.le_of_ble_eq_true rfl) (by kernel_rfl)) ?_
                      refine lv (v := .tuple #[strV ((nameR cs osS fy).1), .int .i64 ((((nameR cs osS fy).2) : Nat) : Int)]) rfl rfl (yb_call (f := 29) (args := #[.agg (shC (.slice pcS cs.length ccS) (.slice poS osS.length coS) tl0).toArray, .agg (sltC fy).toArray]) (fun _ => by kernel_rfl) fun W hW => SName_any cs pcS ccS (by omega) osS poS coS (by omega) tl0 fy.col fy.tier fy.half W ((RL.base HCZ.out) _ (hW.sub (fun _ h => by cases h))) ((RL.base HOZ.out) _ (hW.sub (fun _ h => by cases h))) (HRZ.out.keep hW.1) lrS ((good_plugs hg).1 W) (good_plugs hg).2 (HE.out.keep (hbZ.trans (hW.1.mono hbZ.size)))) ?_
                      refine lm (v := .tuple #[strV ((nameR cs osS fy).1), .int .i64 ((((nameR cs osS fy).2) : Nat) : Int)]) rfl rfl ?_
                      refine lm (v := strV ((nameR cs osS fy).1)) rfl rfl ?_
                      refine lm (v := .int .i64 ((((nameR cs osS fy).2) : Nat) : Int)) rfl rfl ?_
                      refine lm (v := strV ((nameR cs osS fy).1)) rfl rfl ?_
                      refine lm (v := .int .i64 ((((nameR cs osS fy).2) : Nat) : Int)) rfl rfl ?_
                      refine wpL_done (fun W38 hW38 => ?_)
                      refine (show Code.wp _ _ _ _ _ from ?_)
                      refine wp_seq ?_
                      refine wp_region_L (W0 := W6) ((g36, .cells (sltC fy).toArray 34 (0, 0)) :: (g33, .cells (curg33.setIfInBounds (0 + k * 1) (.int .u8 ((b.toNat : Nat) : Int))) 5 frg33) :: (g19, .stringIter ⟨nm.toArray⟩ (k + 1)) :: Kl14) (hW38) ?_
                      refine lm (v := .int .i64 ((fe : Nat) : Int)) rfl rfl ?_
                      refine lp (v := .bool false) rfl rfl (run_bin rfl (vx := (.int .i64 ((fe : Nat) : Int))) (vy := (.int .i64 ((0 : Nat) : Int))) (by kernel_rfl) (by kernel_rfl) fun w => bn_eql (decide_eq_false (by assumption)) w) ?_
                      refine lm (v := .bool false) rfl rfl ?_
                      refine ln rfl ?_
                      refine ln rfl ?_
                      refine ln rfl ?_
                      refine ln rfl ?_
                      refine ln rfl ?_
                      refine ln rfl ?_
                      refine ln rfl ?_
                      refine ln rfl ?_
                      refine lm (v := .bool false) rfl rfl ?_
                      refine wpL_done (fun W39 hW39 => ?_)
                      refine (show Code.wp _ _ _ _ _ from ?_)
                      refine wp_cond_false rfl ?_
                      refine wp_skip ?_
                      go_roundw
                      case rel =>
                        repeat apply Exists.intro
                        exact ⟨⟨(k + 1), (by omega), (hW39.sub (fun p hp => by first | exact hp | (simp only [List.mem_cons, List.mem_append, List.nil_append, List.not_mem_nil, or_assoc, or_false, false_or] at hp ⊢ <;> grind)))⟩, rfl⟩
                      case measure => have e1 := iterPos_of (hL17.2 _ (.head _)); have e2 := iterPos_of (hW39.2 _ (.tail _ (.tail _ (.head _)))); rw [e1, e2]; omega
                  | true =>
                    have h8 : fe = 0 := of_decide_eq_true hd8
                    clear hd8
                    omega
            | true =>
              have h3 : b.toNat < 48 := of_decide_eq_true hd3
              clear hd3
              refine ln rfl ?_
              refine ln rfl ?_
              refine lm (v := .bool false) rfl rfl ?_
              refine lm (v := .bool false) rfl rfl ?_
              refine wpL_done (fun W40 hW40 => ?_)
              refine (show Code.wp _ _ _ _ _ from ?_)
              refine wp_seq ?_
              refine wp_seq ?_
              refine wp_region_L (W0 := W6) ((g36, .cells (sltC fy).toArray 34 (0, 0)) :: (g33, .cells (curg33.setIfInBounds (0 + k * 1) (.int .u8 ((b.toNat : Nat) : Int))) 5 frg33) :: (g19, .stringIter ⟨nm.toArray⟩ (k + 1)) :: Kl14) (hW40) ?_
              refine lm (v := .bool false) rfl rfl ?_
              refine lm (v := .bool true) rfl rfl ?_
              refine lm (v := .bool true) rfl rfl ?_
              refine lm (v := .int .i64 ((fe : Nat) : Int)) rfl rfl ?_
              refine lp (v := .bool (!(decide (fe = 80)))) rfl rfl (run_bin rfl (vx := (.int .i64 ((fe : Nat) : Int))) (vy := (.int .i64 ((80 : Nat) : Int))) (by kernel_rfl) (by kernel_rfl) fun w => bn_neq rfl w) ?_
              refine lm (v := .bool (!(decide (fe = 80)))) rfl rfl ?_
              refine lm (v := .bool (!(decide (fe = 80)))) rfl rfl ?_
              cases hd10 : (decide (fe = 80)) with
              | false =>
                have h10 : ¬ (fe = 80) := of_decide_eq_false hd10
                clear hd10
                exact absurd (hfp (place_dg hset (nodg_lo h3))) h10
              | true =>
                have h10 : fe = 80 := of_decide_eq_true hd10
                clear hd10
                refine lm (v := .int .i64 ((fe : Nat) : Int)) rfl rfl ?_
                refine lp (v := .bool (!(decide (fe = 0)))) rfl rfl (run_bin rfl (vx := (.int .i64 ((fe : Nat) : Int))) (vy := (.int .i64 ((0 : Nat) : Int))) (by kernel_rfl) (by kernel_rfl) fun w => bn_neq rfl w) ?_
                refine lm (v := .bool (!(decide (fe = 0)))) rfl rfl ?_
                cases hd11 : (decide (fe = 0)) with
                | false =>
                  have h11 : ¬ (fe = 0) := of_decide_eq_false hd11
                  clear hd11
                  refine lv (v := .agg (sltC fy).toArray) rfl rfl (yb_load (n := 3) (off := 0) rfl (by kernel_rfl) (.head _) Tryd.underlying34 rfl (by kernel_rfl) (by first | (simp [Value.cells]; done) | exact Nat.le_of_ble_eq_true rfl) (by kernel_rfl)) ?_
                  refine lm (v := .agg #[.int .i64 0, .int .i64 0, .int .u8 0]) rfl rfl ?_
                  refine lp (v := .bool (!(eqS fy (⟨0, 0, 0⟩ : Slt)))) rfl rfl (run_bin rfl (vx := .agg (sltC fy).toArray) (vy := .agg (sltC (⟨0, 0, 0⟩ : Slt)).toArray) (by kernel_rfl) (by kernel_rfl) fun w => ne_slt w) ?_
                  refine lm (v := .bool (!(eqS fy (⟨0, 0, 0⟩ : Slt)))) rfl rfl ?_
                  refine lm (v := .bool (!(eqS fy (⟨0, 0, 0⟩ : Slt)))) rfl rfl ?_
                  refine wpL_done (fun W41 hW41 => ?_)
                  refine (show Code.wp _ _ _ _ _ from ?_)
                  cases h12 : (eqS fy (⟨0, 0, 0⟩ : Slt)) with
                  | false =>
                    exact absurd (show (eqS fy (⟨0, 0, 0⟩ : Slt)) = true from by rcases hfc with ⟨h, _⟩ | ⟨_, h⟩; exact absurd h h11; rw [h]; rfl) (by rw [h12]; decide)
                  | true =>
                    refine wp_cond_false rfl ?_
                    refine wp_skip ?_
                    refine (show Code.wp _ _ _ _ _ from ?_)
                    refine wp_seq ?_
                    refine wp_region_L (W0 := W6) ((g36, .cells (sltC fy).toArray 34 (0, 0)) :: (g33, .cells (curg33.setIfInBounds (0 + k * 1) (.int .u8 ((b.toNat : Nat) : Int))) 5 frg33) :: (g19, .stringIter ⟨nm.toArray⟩ (k + 1)) :: Kl14) (hW41) ?_
                    refine lv (v := .agg (shC (.slice pcS cs.length ccS) (.slice poS osS.length coS) tl0).toArray) rfl rfl (yb_rs (off := 0) (cs := _) rfl (by kernel_rfl) (fun W hW => ((HGZ.out).keep hW.1).2) Tryd.underlying32 rfl (by kernel_rfl)) ?_
                    refine lv (v := .agg (sltC fy).toArray) rfl rfl (yb_load (n := 3) (off := 0) rfl (by kernel_rfl) (.head _) Tryd.underlying34 rfl (by kernel_rfl) (by first | (simp [Value.cells]; done) | exact Nat.le_of_ble_eq_true rfl) (by kernel_rfl)) ?_
                    refine lv (v := .tuple #[strV ((nameR cs osS fy).1), .int .i64 ((((nameR cs osS fy).2) : Nat) : Int)]) rfl rfl (yb_call (f := 29) (args := #[.agg (shC (.slice pcS cs.length ccS) (.slice poS osS.length coS) tl0).toArray, .agg (sltC fy).toArray]) (fun _ => by kernel_rfl) fun W hW => SName_any cs pcS ccS (by omega) osS poS coS (by omega) tl0 fy.col fy.tier fy.half W ((RL.base HCZ.out) _ (hW.sub (fun _ h => by cases h))) ((RL.base HOZ.out) _ (hW.sub (fun _ h => by cases h))) (HRZ.out.keep hW.1) lrS ((good_plugs hg).1 W) (good_plugs hg).2 (HE.out.keep (hbZ.trans (hW.1.mono hbZ.size)))) ?_
                    refine lm (v := .tuple #[strV ((nameR cs osS fy).1), .int .i64 ((((nameR cs osS fy).2) : Nat) : Int)]) rfl rfl ?_
                    refine lm (v := strV ((nameR cs osS fy).1)) rfl rfl ?_
                    refine lm (v := .int .i64 ((((nameR cs osS fy).2) : Nat) : Int)) rfl rfl ?_
                    refine lm (v := strV ((nameR cs osS fy).1)) rfl rfl ?_
                    refine lm (v := .int .i64 ((((nameR cs osS fy).2) : Nat) : Int)) rfl rfl ?_
                    refine wpL_done (fun W42 hW42 => ?_)
                    refine (show Code.wp _ _ _ _ _ from ?_)
                    refine wp_seq ?_
                    refine wp_region_L (W0 := W6) ((g36, .cells (sltC fy).toArray 34 (0, 0)) :: (g33, .cells (curg33.setIfInBounds (0 + k * 1) (.int .u8 ((b.toNat : Nat) : Int))) 5 frg33) :: (g19, .stringIter ⟨nm.toArray⟩ (k + 1)) :: Kl14) (hW42) ?_
                    refine lm (v := .int .i64 ((fe : Nat) : Int)) rfl rfl ?_
                    refine lp (v := .bool false) rfl rfl (run_bin rfl (vx := (.int .i64 ((fe : Nat) : Int))) (vy := (.int .i64 ((0 : Nat) : Int))) (by kernel_rfl) (by kernel_rfl) fun w => bn_eql (decide_eq_false (by assumption)) w) ?_
                    refine lm (v := .bool false) rfl rfl ?_
                    refine ln rfl ?_
                    refine ln rfl ?_
                    refine ln rfl ?_
                    refine ln rfl ?_
                    refine ln rfl ?_
                    refine ln rfl ?_
                    refine ln rfl ?_
                    refine ln rfl ?_
                    refine lm (v := .bool false) rfl rfl ?_
                    refine wpL_done (fun W43 hW43 => ?_)
                    refine (show Code.wp _ _ _ _ _ from ?_)
                    refine wp_cond_false rfl ?_
                    refine wp_skip ?_
                    go_roundw
                    case rel =>
                      repeat apply Exists.intro
                      exact ⟨⟨(k + 1), (by omega), (hW43.sub (fun p hp => by first | exact hp | (simp only [List.mem_cons, List.mem_append, List.nil_append, List.not_mem_nil, or_assoc, or_false, false_or] at hp ⊢ <;> grind)))⟩, rfl⟩
                    case measure => have e1 := iterPos_of (hL17.2 _ (.head _)); have e2 := iterPos_of (hW43.2 _ (.tail _ (.tail _ (.head _)))); rw [e1, e2]; omega
                | true =>
                  have h11 : fe = 0 := of_decide_eq_true hd11
                  clear hd11
                  omega
      · refine stepV_nsx (fun g => .slice (some ⟨g, 0, none⟩) 1 1) (i := 8) (obi := .cells (colC y7).toArray 65 (0, 0)) rfl rfl rfl (fun _ => by kernel_rfl) (fun _ => by simp only [List.setIfInBounds_toArray, List.set_cons_succ, List.set_cons_zero] <;> rfl) fun g38 Bg38 Fg38 => ?_
        obtain ⟨dj39_0, dj39_1⟩ : g8 ≠ g38 ∧ g6 ≠ g38 := by simpa only [dj_app_l, dj_app_r, dj_cons_l, dj_cons_r, dj_nil_l, dj_nil_r, dk_app, dk_cons, dk_nil, and_true, true_and, and_assoc] using (show Dk g38 [(g8, .cells #[] 65 (0, 0)), (g6, .cells (shC (.slice pcS cs.length ccS) (.slice poS osS.length coS) tl0).toArray 32 (0, 0))] from Fg38)
        refine wpV_g (AppO W6 65 12 [(g38, .cells (colC y7).toArray 65 (0, 0)), (g6, .cells (shC (.slice pcS cs.length ccS) (.slice poS osS.length coS) tl0).toArray 32 (0, 0))] (0 + cs.length) ((([] : List Col).flatMap colC) ++ (cs.flatMap colC))) (i := 3) rfl rfl rfl (by kernel_rfl) rfl (app_any el_col (m := cs.length) (news := (cs.flatMap colC)) (y := .slice pcS cs.length ccS) rfl (by kernel_rfl) (by kernel_rfl) (src_rl (c := ccS) Tryd.underlying22 colC_len colC_one (by decide) ((RL.base HCZ.out).mono (fun _ h => by cases h)) rfl) (own_rnone (cells := colC) Bg8) (fun p hp => by cases List.mem_singleton.1 hp; exact (.tail _ (.head _))) (fun p hp => ⟨by simp only [List.mem_cons, List.mem_append, List.nil_append, List.not_mem_nil, or_assoc, or_false, false_or] at hp ⊢ <;> grind, (show Dj [(g38, .cells (colC y7).toArray 65 (0, 0)), (g6, .cells (shC (.slice pcS cs.length ccS) (.slice poS osS.length coS) tl0).toArray 32 (0, 0))] [(g8, .cells #[] 65 (0, 0))] from (by (try simp only [dj_app_l, dj_app_r, dj_cons_l, dj_cons_r, dj_nil_l, dj_nil_r, dk_app, dk_cons, dk_nil, and_true, true_and, and_assoc]); repeat' (first | trivial | assumption | exact Dj.symm (by assumption) | exact Ne.symm (by assumption) | apply And.intro))) p hp⟩) (by omega) (by omega)) (fun _ => by simp only [List.setIfInBounds_toArray, List.set_cons_succ, List.set_cons_zero] <;> rfl) ?_
        rintro v40 K9 ⟨Kl40, O40, N40, rfl⟩
        obtain ⟨dj41_0, dj41_1⟩ : Dk g38 Kl40 ∧ Dk g6 Kl40 := by simpa only [dj_app_l, dj_app_r, dj_cons_l, dj_cons_r, dj_nil_l, dj_nil_r, dk_app, dk_cons, dk_nil, and_true, true_and, and_assoc] using (show Dj [(g38, .cells (colC y7).toArray 65 (0, 0)), (g6, .cells (shC (.slice pcS cs.length ccS) (.slice poS osS.length coS) tl0).toArray 32 (0, 0))] Kl40 from N40)
        refine (show wpV _ _ _ _ _ _ _ _ ((g38, .cells (colC y7).toArray 65 (0, 0)) :: (g6, .cells (shC (.slice pcS cs.length ccS) (.slice poS osS.length coS) tl0).toArray 32 (0, 0)) :: Kl40) from ?_)
        refine wpV_g (AppO W6 65 12 [(g6, .cells (shC (.slice pcS cs.length ccS) (.slice poS osS.length coS) tl0).toArray 32 (0, 0))] ((0 + cs.length) + 1) (((([] : List Col).flatMap colC) ++ (cs.flatMap colC)) ++ [.int .i64 y7.bay, .int .i64 y7.row, .bool y7.deck, .int .i64 y7.tiers, .int .i64 y7.height, .int .i64 y7.k20, .int .i64 y7.k40, .int .i64 y7.lash, .slice y7.pp y7.plugs.length y7.pc, .int .i64 y7.x, .int .i64 y7.y, .int .i64 y7.z])) (i := 9) rfl rfl rfl (by kernel_rfl) rfl (app_own el_col (m := 1) (c := 1) (news := [.int .i64 y7.bay, .int .i64 y7.row, .bool y7.deck, .int .i64 y7.tiers, .int .i64 y7.height, .int .i64 y7.k20, .int .i64 y7.k40, .int .i64 y7.lash, .slice y7.pp y7.plugs.length y7.pc, .int .i64 y7.x, .int .i64 y7.y, .int .i64 y7.z]) rfl (by kernel_rfl) (by kernel_rfl) (.head _) O40 (fun p hp => by simp only [List.mem_cons, List.mem_append, List.nil_append, List.not_mem_nil, or_assoc, or_false, false_or, hp, or_true, true_or]) (fun p hp => ⟨by simp only [List.mem_cons, List.mem_append, List.nil_append, List.not_mem_nil, or_assoc, or_false, false_or] at hp ⊢ <;> grind, (show Dj [(g6, .cells (shC (.slice pcS cs.length ccS) (.slice poS osS.length coS) tl0).toArray 32 (0, 0))] Kl40 from (by (try simp only [dj_app_l, dj_app_r, dj_cons_l, dj_cons_r, dj_nil_l, dj_nil_r, dk_app, dk_cons, dk_nil, and_true, true_and, and_assoc]); repeat' (first | trivial | assumption | exact Dj.symm (by assumption) | exact Ne.symm (by assumption) | apply And.intro))) p hp⟩) rfl (by simp [strV, Value.oneCell']) (by omega) (by omega) (by omega)) (fun _ => by simp only [List.setIfInBounds_toArray, List.set_cons_succ, List.set_cons_zero] <;> rfl) ?_
        rintro v42 K9 ⟨Kl42, O42, N42, rfl⟩
        obtain dj43_0 : Dk g6 Kl42 := by simpa only [dj_app_l, dj_app_r, dj_cons_l, dj_cons_r, dj_nil_l, dj_nil_r, dk_app, dk_cons, dk_nil, and_true, true_and, and_assoc] using (show Dj [(g6, .cells (shC (.slice pcS cs.length ccS) (.slice poS osS.length coS) tl0).toArray 32 (0, 0))] Kl42 from N42)
        refine vm (i := 10) (v := .pointer (some ⟨g6, 0, none⟩)) rfl rfl rfl ?_
        replace O42 := own_app (cells := colC) (l' := (cs ++ [y7])) O42 (by simp only [List.flatMap_append, List.flatMap_nil, List.nil_append, List.append_assoc, List.flatMap_cons, List.append_nil] <;> rfl) (by simp only [List.length_append, List.length_take, List.length_drop, List.length_nil, List.length_cons] <;> omega)
        obtain ⟨p44, c44, rfl, n44, R44⟩ := own_rl O42
        refine wpV_s ((g6, .cells (shC (.slice p44 ((cs ++ [y7]).length) c44) (.slice poS osS.length coS) tl0).toArray 32 (0, 0)) :: Kl42) (i := 11) rfl (by kernel_rfl) rfl rfl rfl (st_row (off := 0) (v := .slice p44 ((cs ++ [y7]).length) c44) rfl (by kernel_rfl) (by kernel_rfl) (.head _) Bg6 (by kernel_rfl) (by first | (simp [Value.cells]; done) | exact Nat.le_of_ble_eq_true rfl) (by intro v hv; simp [Value.cells] at hv; first | (subst hv; rfl) | (rcases hv with rfl <;> rfl)) (by kernel_rfl) (List.forall_mem_cons.2 ⟨.inl rfl, (fun p hp => .inr ⟨(.tail _ hp), ((show Dk g6 Kl42 from (by (try simp only [dj_app_l, dj_app_r, dj_cons_l, dj_cons_r, dj_nil_l, dj_nil_r, dk_app, dk_cons, dk_nil, and_true, true_and, and_assoc]); repeat' (first | trivial | assumption | exact Dj.symm (by assumption) | exact Ne.symm (by assumption) | apply And.intro))) _ hp)⟩)⟩)) ?_
        refine wpV_done (by kernel_rfl) (fun W44 hW44 => ?_) _
        refine (show Code.wp _ _ _ _ _ from ?_)
        refine wp_seq ?_
        refine wp_region_L (W0 := W6) ((g6, .cells (shC (.slice p44 ((cs ++ [y7]).length) c44) (.slice poS osS.length coS) tl0).toArray 32 (0, 0)) :: Kl42) (hW44) ?_
        refine lv (v := .agg (shC (.slice p44 ((cs ++ [y7]).length) c44) (.slice poS osS.length coS) tl0).toArray) rfl rfl (yb_load (n := 13) (off := 0) rfl (by kernel_rfl) (.head _) Tryd.underlying32 rfl (by kernel_rfl) (by first | (simp [Value.cells]; done) | exact Nat.le_of_ble_eq_true rfl) (by kernel_rfl)) ?_
        refine lv (v := .agg (sltC x).toArray) rfl rfl (yb_rs (off := 0) (cs := _) rfl (by kernel_rfl) (fun W hW => ((HG7.out).keep hW.1).2) Tryd.underlying34 rfl (by kernel_rfl)) ?_
        refine lv (v := .tuple #[strV [], .int .i64 2]) rfl rfl (yb_call (f := 29) (args := #[.agg (shC (.slice p44 ((cs ++ [y7]).length) c44) (.slice poS osS.length coS) tl0).toArray, .agg (sltC x).toArray]) (fun _ => by kernel_rfl) fun W hW => (by have h9 := SName_any (cs ++ [y7]) p44 c44 (by rw [List.length_append, List.length_singleton]; omega) osS poS coS (by omega) tl0 x.col x.tier x.half W (R44 _ (hW.sub (fun p hp => by simp only [List.mem_cons, List.mem_append, List.nil_append, List.not_mem_nil, or_assoc, or_false, false_or, hp, true_or, or_true]))) ((RL.base HOZ.out) _ (hW.sub (fun _ h => by cases h))) (HRZ.out.keep hW.1) lrS (HPB W) lpB (HE.out.keep (hbZ.trans (hW.1.mono hbZ.size))); rw [name_bad hbad] at h9; exact h9)) ?_
        refine lm (v := .tuple #[strV [], .int .i64 2]) rfl rfl ?_
        refine lm (v := strV []) rfl rfl ?_
        refine lm (v := .int .i64 2) rfl rfl ?_
        refine lm (v := strV []) rfl rfl ?_
        refine lm (v := .int .i64 2) rfl rfl ?_
        refine wpL_done (fun W45 hW45 => ?_)
        refine (show Code.wp _ _ _ _ _ from ?_)
        refine wp_seq ?_
        refine wp_region_L (W0 := W6) ((g6, .cells (shC (.slice p44 ((cs ++ [y7]).length) c44) (.slice poS osS.length coS) tl0).toArray 32 (0, 0)) :: Kl42) (hW45) ?_
        refine lv (v := .agg (shC (.slice p44 ((cs ++ [y7]).length) c44) (.slice poS osS.length coS) tl0).toArray) rfl rfl (yb_load (n := 13) (off := 0) rfl (by kernel_rfl) (.head _) Tryd.underlying32 rfl (by kernel_rfl) (by first | (simp [Value.cells]; done) | exact Nat.le_of_ble_eq_true rfl) (by kernel_rfl)) ?_
        refine lm (v := strV nm) rfl rfl ?_
        refine lv (v := .tuple #[.agg #[.int .i64 0, .int .i64 0, .int .u8 0], .int .i64 2]) rfl rfl (yb_call (f := 31) (args := #[.agg (shC (.slice p44 ((cs ++ [y7]).length) c44) (.slice poS osS.length coS) tl0).toArray, strV nm]) (fun _ => by kernel_rfl) fun W hW => (by have h9 := SFind_any (cs ++ [y7]) p44 c44 (by rw [List.length_append, List.length_singleton]; omega) osS poS coS (by omega) tl0 nm (by first | omega | (simp only [List.length_set, List.length_append, List.length_take, List.length_cons, List.length_nil]; omega)) W (R44 _ (hW.sub (fun p hp => by simp only [List.mem_cons, List.mem_append, List.nil_append, List.not_mem_nil, or_assoc, or_false, false_or, hp, true_or, or_true]))) ((RL.base HOZ.out) _ (hW.sub (fun _ h => by cases h))) (HRZ.out.keep hW.1) lrS (HPB W) lpB (HE.out.keep (hbZ.trans (hW.1.mono hbZ.size))); rw [find_bad hbad] at h9; exact h9)) ?_
        refine lm (v := .tuple #[.agg #[.int .i64 0, .int .i64 0, .int .u8 0], .int .i64 2]) rfl rfl ?_
        refine lm (v := .agg #[.int .i64 0, .int .i64 0, .int .u8 0]) rfl rfl ?_
        refine lm (v := .int .i64 2) rfl rfl ?_
        refine wpL_new (fun g => .pointer (some ⟨g, 0, none⟩)) (obi := .cells #[.int .i64 0, .int .i64 0, .int .u8 0] 34 (0, 0)) rfl rfl (fun _ => by kernel_rfl) (fun _ => by simp only [List.setIfInBounds_toArray, List.set_cons_succ, List.set_cons_zero] <;> rfl) fun g45 Bg45 Fg45 => ?_
        obtain ⟨dj46_0, dj46_1⟩ : g6 ≠ g45 ∧ Dk g45 Kl42 := by simpa only [dj_app_l, dj_app_r, dj_cons_l, dj_cons_r, dj_nil_l, dj_nil_r, dk_app, dk_cons, dk_nil, and_true, true_and, and_assoc] using (show Dk g45 ((g6, .cells (shC (.slice p44 ((cs ++ [y7]).length) c44) (.slice poS osS.length coS) tl0).toArray 32 (0, 0)) :: Kl42) from Fg45)
        refine wpL_s ((g45, .cells #[.int .i64 0, .int .i64 0, .int .u8 0] 34 (0, 0)) :: (g6, .cells (shC (.slice p44 ((cs ++ [y7]).length) c44) (.slice poS osS.length coS) tl0).toArray 32 (0, 0)) :: Kl42) rfl rfl (st_row (off := 0) (v := .agg #[.int .i64 0, .int .i64 0, .int .u8 0]) rfl (by kernel_rfl) (by kernel_rfl) (.head _) Bg45 (by kernel_rfl) (by first | (simp [Value.cells]; done) | exact Nat.le_of_ble_eq_true rfl) (by intro v hv; simp [Value.cells] at hv; first | (subst hv; rfl) | (rcases hv with rfl | rfl | rfl <;> rfl)) (by kernel_rfl) (List.forall_mem_cons.2 ⟨.inl rfl, (List.forall_mem_cons.2 ⟨.inr ⟨(.tail _ (.head _)), (by first | assumption | exact Ne.symm (by assumption))⟩, (fun p hp => .inr ⟨(.tail _ (.tail _ hp)), ((show Dk g45 Kl42 from (by (try simp only [dj_app_l, dj_app_r, dj_cons_l, dj_cons_r, dj_nil_l, dj_nil_r, dk_app, dk_cons, dk_nil, and_true, true_and, and_assoc]); repeat' (first | trivial | assumption | exact Dj.symm (by assumption) | exact Ne.symm (by assumption) | apply And.intro))) _ hp)⟩)⟩)⟩)) ?_
        refine lm (v := .int .i64 2) rfl rfl ?_
        refine wpL_done (fun W46 hW46 => ?_)
        refine (show Code.wp _ _ _ _ _ from ?_)
        refine wp_seq ?_
        refine wp_region_L (W0 := W6) ((g45, .cells #[.int .i64 0, .int .i64 0, .int .u8 0] 34 (0, 0)) :: (g6, .cells (shC (.slice p44 ((cs ++ [y7]).length) c44) (.slice poS osS.length coS) tl0).toArray 32 (0, 0)) :: Kl42) (hW46) ?_
        refine lv (v := .agg (shC (.slice pcS cs.length ccS) (.slice poS osS.length coS) tl0).toArray) rfl rfl (yb_rs (off := 0) (cs := _) rfl (by kernel_rfl) (fun W hW => ((HGZ.out).keep hW.1).2) Tryd.underlying32 rfl (by kernel_rfl)) ?_
        refine lm (v := .int .i64 v) rfl rfl ?_
        refine lm (v := .pointer (some ⟨g2, 0, none⟩)) rfl rfl ?_
        refine lv (v := .slice pcS cs.length ccS) rfl rfl (yb_rf (v := .slice pcS cs.length ccS) rfl (by kernel_rfl) (fun W hW => ((HGZ.out).keep hW.1).2 0 _ rfl) Tryd.underlying22 rfl) ?_
        refine lp (v := .int .i64 ((cs.length : Nat) : Int)) rfl rfl (run_lenL (p := pcS) (cap := ccS) (n := cs.length) rfl Tryd.underlying22 (by kernel_rfl)) ?_
        refine lp (v := .int .i64 (max v ((cs.length : Nat) : Int))) rfl rfl (run_max2 (x := v) (y := ((cs.length : Nat) : Int)) (z := (max v ((cs.length : Nat) : Int))) rfl (by kernel_rfl) (by kernel_rfl) rfl) ?_
        refine lm (v := .agg #[.int .i64 (max v ((cs.length : Nat) : Int)), .int .i64 0, .int .u8 0]) rfl rfl ?_
        refine lv (v := .tuple #[strV [], .int .i64 6]) rfl rfl (yb_call (f := 29) (args := #[.agg (shC (.slice pcS cs.length ccS) (.slice poS osS.length coS) tl0).toArray, .agg #[.int .i64 (max v ((cs.length : Nat) : Int)), .int .i64 0, .int .u8 0]]) (fun _ => by kernel_rfl) fun W hW => (by have h9 := SName_any cs pcS ccS (by omega) osS poS coS (by omega) tl0 (max v ((cs.length : Nat) : Int)) 0 0 W ((RL.base HCZ.out) _ (hW.sub (fun _ h => by cases h))) ((RL.base HOZ.out) _ (hW.sub (fun _ h => by cases h))) (HRZ.out.keep hW.1) lrS ((good_plugs hg).1 W) (good_plugs hg).2 (HE.out.keep (hbZ.trans (hW.1.mono hbZ.size))); rw [name_none hr (is_noex (x := (⟨(max v ((cs.length : Nat) : Int)), 0, 0⟩ : Slt)) (ex_nocol (by simp only; omega)))] at h9; exact h9)) ?_
        refine lm (v := .tuple #[strV [], .int .i64 6]) rfl rfl ?_
        refine lm (v := strV []) rfl rfl ?_
        refine lm (v := .int .i64 6) rfl rfl ?_
        refine lm (v := strV []) rfl rfl ?_
        refine lm (v := .int .i64 6) rfl rfl ?_
        refine wpL_done (fun W47 hW47 => ?_)
        refine (show Code.wp _ _ _ _ _ from ?_)
        refine wp_seq ?_
        refine wp_region_L (W0 := W6) ((g45, .cells #[.int .i64 0, .int .i64 0, .int .u8 0] 34 (0, 0)) :: (g6, .cells (shC (.slice p44 ((cs ++ [y7]).length) c44) (.slice poS osS.length coS) tl0).toArray 32 (0, 0)) :: Kl42) (hW47) ?_
        refine lv (v := .agg (shC (.slice pcS cs.length ccS) (.slice poS osS.length coS) tl0).toArray) rfl rfl (yb_rs (off := 0) (cs := _) rfl (by kernel_rfl) (fun W hW => ((HGZ.out).keep hW.1).2) Tryd.underlying32 rfl (by kernel_rfl)) ?_
        refine lm (v := .int .i64 v) rfl rfl ?_
        refine lp (v := .int .i64 (min v (-1))) rfl rfl (run_min2 (x := v) (y := (-1)) (z := (min v (-1))) rfl (by kernel_rfl) (by kernel_rfl) rfl) ?_
        refine lm (v := .agg #[.int .i64 (min v (-1)), .int .i64 0, .int .u8 0]) rfl rfl ?_
        refine lv (v := .tuple #[strV [], .int .i64 6]) rfl rfl (yb_call (f := 29) (args := #[.agg (shC (.slice pcS cs.length ccS) (.slice poS osS.length coS) tl0).toArray, .agg #[.int .i64 (min v (-1)), .int .i64 0, .int .u8 0]]) (fun _ => by kernel_rfl) fun W hW => (by have h9 := SName_any cs pcS ccS (by omega) osS poS coS (by omega) tl0 (min v (-1)) 0 0 W ((RL.base HCZ.out) _ (hW.sub (fun _ h => by cases h))) ((RL.base HOZ.out) _ (hW.sub (fun _ h => by cases h))) (HRZ.out.keep hW.1) lrS ((good_plugs hg).1 W) (good_plugs hg).2 (HE.out.keep (hbZ.trans (hW.1.mono hbZ.size))); rw [name_none hr (is_noex (x := (⟨(min v (-1)), 0, 0⟩ : Slt)) (ex_nocol (by simp only; omega)))] at h9; exact h9)) ?_
        refine lm (v := .tuple #[strV [], .int .i64 6]) rfl rfl ?_
        refine lm (v := strV []) rfl rfl ?_
        refine lm (v := .int .i64 6) rfl rfl ?_
        refine lm (v := strV []) rfl rfl ?_
        refine lm (v := .int .i64 6) rfl rfl ?_
        refine wpL_done (fun W48 hW48 => ?_)
        refine (show Code.wp _ _ _ _ _ from ?_)
        refine wp_seq ?_
        refine wp_region_L (W0 := W6) ((g45, .cells #[.int .i64 0, .int .i64 0, .int .u8 0] 34 (0, 0)) :: (g6, .cells (shC (.slice p44 ((cs ++ [y7]).length) c44) (.slice poS osS.length coS) tl0).toArray 32 (0, 0)) :: Kl42) (hW48) ?_
        refine lv (v := .agg (shC (.slice pcS cs.length ccS) (.slice poS osS.length coS) tl0).toArray) rfl rfl (yb_rs (off := 0) (cs := _) rfl (by kernel_rfl) (fun W hW => ((HGZ.out).keep hW.1).2) Tryd.underlying32 rfl (by kernel_rfl)) ?_
        refine lm (v := .int .i64 v) rfl rfl ?_
        refine lp (v := .int .i64 (max v 10)) rfl rfl (run_max2 (x := v) (y := 10) (z := (max v 10)) rfl (by kernel_rfl) (by kernel_rfl) rfl) ?_
        refine lm (v := .agg #[.int .i64 0, .int .i64 (max v 10), .int .u8 0]) rfl rfl ?_
        refine lv (v := .tuple #[strV [], .int .i64 6]) rfl rfl (yb_call (f := 29) (args := #[.agg (shC (.slice pcS cs.length ccS) (.slice poS osS.length coS) tl0).toArray, .agg #[.int .i64 0, .int .i64 (max v 10), .int .u8 0]]) (fun _ => by kernel_rfl) fun W hW => (by have h9 := SName_any cs pcS ccS (by omega) osS poS coS (by omega) tl0 0 (max v 10) 0 W ((RL.base HCZ.out) _ (hW.sub (fun _ h => by cases h))) ((RL.base HOZ.out) _ (hW.sub (fun _ h => by cases h))) (HRZ.out.keep hW.1) lrS ((good_plugs hg).1 W) (good_plugs hg).2 (HE.out.keep (hbZ.trans (hW.1.mono hbZ.size))); rw [name_none hr (is_noex (x := (⟨0, (max v 10), 0⟩ : Slt)) (ex_notier (fun c hc => (hct c hc).1) (by simp only; omega)))] at h9; exact h9)) ?_
        refine lm (v := .tuple #[strV [], .int .i64 6]) rfl rfl ?_
        refine lm (v := strV []) rfl rfl ?_
        refine lm (v := .int .i64 6) rfl rfl ?_
        refine lm (v := strV []) rfl rfl ?_
        refine lm (v := .int .i64 6) rfl rfl ?_
        refine wpL_done (fun W49 hW49 => ?_)
        refine (show Code.wp _ _ _ _ _ from ?_)
        refine wp_seq ?_
        refine wp_region_L (W0 := W6) ((g45, .cells #[.int .i64 0, .int .i64 0, .int .u8 0] 34 (0, 0)) :: (g6, .cells (shC (.slice p44 ((cs ++ [y7]).length) c44) (.slice poS osS.length coS) tl0).toArray 32 (0, 0)) :: Kl42) (hW49) ?_
        refine lv (v := .agg (shC (.slice pcS cs.length ccS) (.slice poS osS.length coS) tl0).toArray) rfl rfl (yb_rs (off := 0) (cs := _) rfl (by kernel_rfl) (fun W hW => ((HGZ.out).keep hW.1).2) Tryd.underlying32 rfl (by kernel_rfl)) ?_
        refine lm (v := .pointer (some ⟨g1, 2, none⟩)) rfl rfl ?_
        refine lv (v := .int .u8 ((x.half : Nat) : Int)) rfl rfl (yb_rf (v := .int .u8 ((x.half : Nat) : Int)) rfl (by kernel_rfl) (fun W hW => ((HG7.out).keep hW.1).2 2 _ rfl) Tryd.underlying5 rfl) ?_
        refine lp (v := .int .u8 (((x.half % 253) : Nat) : Int)) rfl rfl (run_bin rfl (vx := (.int .u8 ((x.half : Nat) : Int))) (vy := (.int .u8 ((253 : Nat) : Int))) (by kernel_rfl) (by kernel_rfl) fun w => bn_rem (z := (x.half % 253)) rfl (by omega) w) ?_
        refine lp (v := .int .u8 (((3 + (x.half % 253)) : Nat) : Int)) rfl rfl (run_bin rfl (vx := (.int .u8 ((3 : Nat) : Int))) (vy := (.int .u8 (((x.half % 253) : Nat) : Int))) (by kernel_rfl) (by kernel_rfl) fun w => bn_add (z := (3 + (x.half % 253))) rfl (wr_u8 (by omega)) w) ?_
        refine lm (v := .agg #[.int .i64 0, .int .i64 0, .int .u8 (((3 + (x.half % 253)) : Nat) : Int)]) rfl rfl ?_
        refine lv (v := .tuple #[strV [], .int .i64 6]) rfl rfl (yb_call (f := 29) (args := #[.agg (shC (.slice pcS cs.length ccS) (.slice poS osS.length coS) tl0).toArray, .agg #[.int .i64 0, .int .i64 0, .int .u8 (((3 + (x.half % 253)) : Nat) : Int)]]) (fun _ => by kernel_rfl) fun W hW => (by have h9 := SName_any cs pcS ccS (by omega) osS poS coS (by omega) tl0 0 0 (3 + (x.half % 253)) W ((RL.base HCZ.out) _ (hW.sub (fun _ h => by cases h))) ((RL.base HOZ.out) _ (hW.sub (fun _ h => by cases h))) (HRZ.out.keep hW.1) lrS ((good_plugs hg).1 W) (good_plugs hg).2 (HE.out.keep (hbZ.trans (hW.1.mono hbZ.size))); rw [name_none hr (is_nohalf (x := (⟨0, 0, (3 + (x.half % 253))⟩ : Slt)) (by simp only; omega))] at h9; exact h9)) ?_
        refine lm (v := .tuple #[strV [], .int .i64 6]) rfl rfl ?_
        refine lm (v := strV []) rfl rfl ?_
        refine lm (v := .int .i64 6) rfl rfl ?_
        refine lm (v := strV []) rfl rfl ?_
        refine lm (v := .int .i64 6) rfl rfl ?_
        refine wpL_done (fun W50 hW50 => ?_)
        refine (show Code.wp _ _ _ _ _ from ?_)
        refine wp_seq ?_
        refine wp_seq ?_
        refine wp_region_L (W0 := W6) ((g45, .cells #[.int .i64 0, .int .i64 0, .int .u8 0] 34 (0, 0)) :: (g6, .cells (shC (.slice p44 ((cs ++ [y7]).length) c44) (.slice poS osS.length coS) tl0).toArray 32 (0, 0)) :: Kl42) (hW50) ?_
        refine lm (v := .int .i64 2) rfl rfl ?_
        refine lm (v := .bool false) rfl rfl ?_
        refine lm (v := .bool false) rfl rfl ?_
        refine lm (v := .int .i64 2) rfl rfl ?_
        refine lm (v := .bool false) rfl rfl ?_
        refine lm (v := .bool false) rfl rfl ?_
        refine lm (v := .bool false) rfl rfl ?_
        refine lm (v := .int .i64 6) rfl rfl ?_
        refine lm (v := .bool false) rfl rfl ?_
        refine lm (v := .bool false) rfl rfl ?_
        refine lm (v := .bool false) rfl rfl ?_
        refine lm (v := .int .i64 6) rfl rfl ?_
        refine lm (v := .bool false) rfl rfl ?_
        refine lm (v := .bool false) rfl rfl ?_
        refine lm (v := .bool false) rfl rfl ?_
        refine lm (v := .int .i64 6) rfl rfl ?_
        refine lm (v := .bool false) rfl rfl ?_
        refine lm (v := .bool false) rfl rfl ?_
        refine lm (v := .bool false) rfl rfl ?_
        refine lm (v := .int .i64 6) rfl rfl ?_
        refine lm (v := .bool false) rfl rfl ?_
        refine lm (v := .bool false) rfl rfl ?_
        refine wpL_done (fun W51 hW51 => ?_)
        refine (show Code.wp _ _ _ _ _ from ?_)
        refine wp_cond_false rfl ?_
        refine wp_skip ?_
        refine (show Code.wp _ _ _ _ _ from ?_)
        refine wp_seq ?_
        refine wp_seq ?_
        refine wp_region_L (W0 := W6) ((g45, .cells #[.int .i64 0, .int .i64 0, .int .u8 0] 34 (0, 0)) :: (g6, .cells (shC (.slice p44 ((cs ++ [y7]).length) c44) (.slice poS osS.length coS) tl0).toArray 32 (0, 0)) :: Kl42) (hW51) ?_
        refine lm (v := strV nm) rfl rfl ?_
        refine wpL_new (fun g => .pointer (some ⟨g, 0, none⟩)) (obi := .stringIter ⟨nm.toArray⟩ 0) rfl rfl (rg_str (l := nm) rfl Tryd.underlying9 (by kernel_rfl)) (fun _ => by simp only [List.setIfInBounds_toArray, List.set_cons_succ, List.set_cons_zero] <;> rfl) fun g47 Bg47 Fg47 => ?_
        obtain ⟨dj48_0, dj48_1, dj48_2⟩ : g45 ≠ g47 ∧ g6 ≠ g47 ∧ Dk g47 Kl42 := by simpa only [dj_app_l, dj_app_r, dj_cons_l, dj_cons_r, dj_nil_l, dj_nil_r, dk_app, dk_cons, dk_nil, and_true, true_and, and_assoc] using (show Dk g47 ((g45, .cells #[.int .i64 0, .int .i64 0, .int .u8 0] 34 (0, 0)) :: (g6, .cells (shC (.slice p44 ((cs ++ [y7]).length) c44) (.slice poS osS.length coS) tl0).toArray 32 (0, 0)) :: Kl42) from Fg47)
        refine wpL_done (fun W52 hW52 => ?_)
        refine (show Code.wp _ _ _ _ _ from ?_)
        refine wp_block ?_
        go_loopw [] (fun  wr => ∃ (k : Nat), (k ≤ nm.length) ∧ KS W6 ((g47, .stringIter ⟨nm.toArray⟩ k) :: Kl42) wr) (fun  wz => nm.length - World.iterPos wz g47)
        case atStart => exact ⟨0, (Nat.zero_le _), (hW52.sub (fun p hp => by first | exact hp | (simp only [List.mem_cons, List.mem_append, List.nil_append, List.not_mem_nil, or_assoc, or_false, false_or] at hp ⊢ <;> grind)))⟩
        case round =>
          obtain ⟨k, hk, hL53⟩ := hrel
          refine wp_seq ?_
          refine wp_region_L (W0 := W6) ((g47, .stringIter ⟨nm.toArray⟩ k) :: Kl42) (hL53) ?_
          cases hd13 : (decide (k < nm.length)) with
          | false =>
            have h13 : ¬ (k < nm.length) := of_decide_eq_false hd13
            clear hd13
            refine lv (v := .tuple #[.bool false]) rfl rfl (nx_end (l := nm) (k := k) rfl (by kernel_rfl) (.head _) h13) ?_
            refine lm (v := .bool false) rfl rfl ?_
            refine wpL_done (fun W54 hW54 => ?_)
            refine (show Code.wp _ _ _ _ _ from ?_)
            refine wp_seq ?_
            refine wp_cond_false rfl ?_
            refine wp_exit ?_
            refine (show Code.wp _ _ _ _ _ from ?_)
            refine wp_seq ?_
            refine wp_region_L (W0 := W6) ((g47, .stringIter ⟨nm.toArray⟩ k) :: Kl42) (hW54) ?_
            refine lv (v := .agg (shC (.slice pcS cs.length ccS) (.slice poS osS.length coS) tl0).toArray) rfl rfl (yb_rs (off := 0) (cs := _) rfl (by kernel_rfl) (fun W hW => ((HGZ.out).keep hW.1).2) Tryd.underlying32 rfl (by kernel_rfl)) ?_
            refine lm (v := strV nm) rfl rfl ?_
            refine lp (v := strV (nm ++ [48])) rfl rfl (run_bin rfl (vx := strV nm) (vy := strV [48]) (by kernel_rfl) (by kernel_rfl) fun w => bs_add (c := (nm ++ [48])) rfl (by first | omega | (simp; omega)) w) ?_
            refine lv (v := .tuple #[.agg #[.int .i64 0, .int .i64 0, .int .u8 0], .int .i64 80]) rfl rfl (yb_call (f := 31) (args := #[.agg (shC (.slice pcS cs.length ccS) (.slice poS osS.length coS) tl0).toArray, strV (nm ++ [48])]) (fun _ => by kernel_rfl) fun W hW => (by have h9 := SFind_any cs pcS ccS (by omega) osS poS coS (by omega) tl0 (nm ++ [48]) (by first | omega | (simp only [List.length_set, List.length_append, List.length_take, List.length_cons, List.length_nil]; omega)) W ((RL.base HCZ.out) _ (hW.sub (fun _ h => by cases h))) ((RL.base HOZ.out) _ (hW.sub (fun _ h => by cases h))) (HRZ.out.keep hW.1) lrS ((good_plugs hg).1 W) (good_plugs hg).2 (HE.out.keep (hbZ.trans (hW.1.mono hbZ.size))); rw [find_no hr (place_len (l := (nm ++ [48])) (by simp only [List.length_append, List.length_take, List.length_cons, List.length_nil]; omega))] at h9; exact h9)) ?_
            refine lm (v := .tuple #[.agg #[.int .i64 0, .int .i64 0, .int .u8 0], .int .i64 80]) rfl rfl ?_
            refine lm (v := .agg #[.int .i64 0, .int .i64 0, .int .u8 0]) rfl rfl ?_
            refine lm (v := .int .i64 80) rfl rfl ?_
            refine wpL_new (fun g => .pointer (some ⟨g, 0, none⟩)) (obi := .cells #[.int .i64 0, .int .i64 0, .int .u8 0] 34 (0, 0)) rfl rfl (fun _ => by kernel_rfl) (fun _ => by simp only [List.setIfInBounds_toArray, List.set_cons_succ, List.set_cons_zero] <;> rfl) fun g49 Bg49 Fg49 => ?_
            obtain ⟨dj50_0, dj50_1⟩ : g47 ≠ g49 ∧ Dk g49 Kl42 := by simpa only [dj_app_l, dj_app_r, dj_cons_l, dj_cons_r, dj_nil_l, dj_nil_r, dk_app, dk_cons, dk_nil, and_true, true_and, and_assoc] using (show Dk g49 ((g47, .stringIter ⟨nm.toArray⟩ k) :: Kl42) from Fg49)
            refine wpL_s ((g49, .cells #[.int .i64 0, .int .i64 0, .int .u8 0] 34 (0, 0)) :: (g47, .stringIter ⟨nm.toArray⟩ k) :: Kl42) rfl rfl (st_row (off := 0) (v := .agg #[.int .i64 0, .int .i64 0, .int .u8 0]) rfl (by kernel_rfl) (by kernel_rfl) (.head _) Bg49 (by kernel_rfl) (by first | (simp [Value.cells]; done) | exact Nat.le_of_ble_eq_true rfl) (by intro v hv; simp [Value.cells] at hv; first | (subst hv; rfl) | (rcases hv with rfl | rfl | rfl <;> rfl)) (by kernel_rfl) (List.forall_mem_cons.2 ⟨.inl rfl, (List.forall_mem_cons.2 ⟨.inr ⟨(.tail _ (.head _)), (by first | assumption | exact Ne.symm (by assumption))⟩, (fun p hp => .inr ⟨(.tail _ (.tail _ hp)), ((show Dk g49 Kl42 from (by (try simp only [dj_app_l, dj_app_r, dj_cons_l, dj_cons_r, dj_nil_l, dj_nil_r, dk_app, dk_cons, dk_nil, and_true, true_and, and_assoc]); repeat' (first | trivial | assumption | exact Dj.symm (by assumption) | exact Ne.symm (by assumption) | apply And.intro))) _ hp)⟩)⟩)⟩)) ?_
            refine lm (v := .int .i64 80) rfl rfl ?_
            refine wpL_done (fun W55 hW55 => ?_)
            refine (show Code.wp _ _ _ _ _ from ?_)
            refine wp_seq ?_
            refine wp_region_V (W0 := W6) ((g49, .cells #[.int .i64 0, .int .i64 0, .int .u8 0] 34 (0, 0)) :: (g47, .stringIter ⟨nm.toArray⟩ k) :: Kl42) (by kernel_rfl) (hW55) ?_
            refine vb (i := 0) (v := .agg (shC (.slice pcS cs.length ccS) (.slice poS osS.length coS) tl0).toArray) rfl rfl rfl (yb_rs (off := 0) (cs := _) rfl (by kernel_rfl) (fun W hW => ((HGZ.out).keep hW.1).2) Tryd.underlying32 rfl (by kernel_rfl)) ?_
            refine vm (i := 1) (v := strV nm) rfl rfl rfl ?_
            refine vp (i := 2) (v := strV (nm.take 6)) rfl rfl rfl (run_slH (k2 := .i64) (l := nm) (r := (nm.take 6)) (j := 6) rfl Tryd.underlying9 (by kernel_rfl) (by kernel_rfl) (by first | omega | (simp; omega)) rfl) ?_
            refine vv (i := 3) (v := .tuple #[.agg #[.int .i64 0, .int .i64 0, .int .u8 0], .int .i64 80]) rfl rfl rfl (yb_call (f := 31) (args := #[.agg (shC (.slice pcS cs.length ccS) (.slice poS osS.length coS) tl0).toArray, strV (nm.take 6)]) (fun _ => by kernel_rfl) fun W hW => (by have h9 := SFind_any cs pcS ccS (by omega) osS poS coS (by omega) tl0 (nm.take 6) (by first | omega | (simp only [List.length_set, List.length_append, List.length_take, List.length_cons, List.length_nil]; omega)) W ((RL.base HCZ.out) _ (hW.sub (fun _ h => by cases h))) ((RL.base HOZ.out) _ (hW.sub (fun _ h => by cases h))) (HRZ.out.keep hW.1) lrS ((good_plugs hg).1 W) (good_plugs hg).2 (HE.out.keep (hbZ.trans (hW.1.mono hbZ.size))); rw [find_no hr (place_len (l := (nm.take 6)) (by simp only [List.length_append, List.length_take, List.length_cons, List.length_nil]; omega))] at h9; exact h9)) ?_
            refine vm (i := 4) (v := .tuple #[.agg #[.int .i64 0, .int .i64 0, .int .u8 0], .int .i64 80]) rfl rfl rfl ?_
            refine vm (i := 5) (v := .agg #[.int .i64 0, .int .i64 0, .int .u8 0]) rfl rfl rfl ?_
            refine vm (i := 6) (v := .int .i64 80) rfl rfl rfl ?_
            refine wpV_ns (fun g => .pointer (some ⟨g, 0, none⟩)) (i := 7) (obi := .cells #[.int .i64 0, .int .i64 0, .int .u8 0] 34 (0, 0)) rfl rfl rfl (by kernel_rfl) (fun _ => by kernel_rfl) (fun _ => by simp only [List.setIfInBounds_toArray, List.set_cons_succ, List.set_cons_zero] <;> rfl) fun g51 Bg51 Fg51 => ?_
            obtain ⟨dj52_0, dj52_1, dj52_2⟩ : g49 ≠ g51 ∧ g47 ≠ g51 ∧ Dk g51 Kl42 := by simpa only [dj_app_l, dj_app_r, dj_cons_l, dj_cons_r, dj_nil_l, dj_nil_r, dk_app, dk_cons, dk_nil, and_true, true_and, and_assoc] using (show Dk g51 ((g49, .cells #[.int .i64 0, .int .i64 0, .int .u8 0] 34 (0, 0)) :: (g47, .stringIter ⟨nm.toArray⟩ k) :: Kl42) from Fg51)
            refine wpV_s ((g51, .cells #[.int .i64 0, .int .i64 0, .int .u8 0] 34 (0, 0)) :: (g49, .cells #[.int .i64 0, .int .i64 0, .int .u8 0] 34 (0, 0)) :: (g47, .stringIter ⟨nm.toArray⟩ k) :: Kl42) (i := 8) rfl (by kernel_rfl) rfl rfl rfl (st_row (off := 0) (v := .agg #[.int .i64 0, .int .i64 0, .int .u8 0]) rfl (by kernel_rfl) (by kernel_rfl) (.head _) Bg51 (by kernel_rfl) (by first | (simp [Value.cells]; done) | exact Nat.le_of_ble_eq_true rfl) (by intro v hv; simp [Value.cells] at hv; first | (subst hv; rfl) | (rcases hv with rfl | rfl | rfl <;> rfl)) (by kernel_rfl) (List.forall_mem_cons.2 ⟨.inl rfl, (List.forall_mem_cons.2 ⟨.inr ⟨(.tail _ (.head _)), (by first | assumption | exact Ne.symm (by assumption))⟩, (List.forall_mem_cons.2 ⟨.inr ⟨(.tail _ (.tail _ (.head _))), (by first | assumption | exact Ne.symm (by assumption))⟩, (fun p hp => .inr ⟨(.tail _ (.tail _ (.tail _ hp))), ((show Dk g51 Kl42 from (by (try simp only [dj_app_l, dj_app_r, dj_cons_l, dj_cons_r, dj_nil_l, dj_nil_r, dk_app, dk_cons, dk_nil, and_true, true_and, and_assoc]); repeat' (first | trivial | assumption | exact Dj.symm (by assumption) | exact Ne.symm (by assumption) | apply And.intro))) _ hp)⟩)⟩)⟩)⟩)) ?_
            refine vm (i := 9) (v := .int .i64 80) rfl rfl rfl ?_
            refine wpV_done (by kernel_rfl) (fun W56 hW56 => ?_) _
            refine (show Code.wp _ _ _ _ _ from ?_)
            refine wp_seq ?_
            refine wp_region_L (W0 := W6) ((g51, .cells #[.int .i64 0, .int .i64 0, .int .u8 0] 34 (0, 0)) :: (g49, .cells #[.int .i64 0, .int .i64 0, .int .u8 0] 34 (0, 0)) :: (g47, .stringIter ⟨nm.toArray⟩ k) :: Kl42) (hW56) ?_
            refine lv (v := .agg (shC (.slice pcS cs.length ccS) (.slice poS osS.length coS) tl0).toArray) rfl rfl (yb_rs (off := 0) (cs := _) rfl (by kernel_rfl) (fun W hW => ((HGZ.out).keep hW.1).2) Tryd.underlying32 rfl (by kernel_rfl)) ?_
            refine lv (v := .tuple #[.agg #[.int .i64 0, .int .i64 0, .int .u8 0], .int .i64 80]) rfl rfl (yb_call (f := 31) (args := #[.agg (shC (.slice pcS cs.length ccS) (.slice poS osS.length coS) tl0).toArray, strV [48, 48, 48, 48, 48, 48, 50]]) (fun _ => by kernel_rfl) fun W hW => (by have h9 := SFind_any cs pcS ccS (by omega) osS poS coS (by omega) tl0 [48, 48, 48, 48, 48, 48, 50] (by first | omega | (simp only [List.length_set, List.length_append, List.length_take, List.length_cons, List.length_nil]; omega)) W ((RL.base HCZ.out) _ (hW.sub (fun _ h => by cases h))) ((RL.base HOZ.out) _ (hW.sub (fun _ h => by cases h))) (HRZ.out.keep hW.1) lrS ((good_plugs hg).1 W) (good_plugs hg).2 (HE.out.keep (hbZ.trans (hW.1.mono hbZ.size))); rw [find_no hr (l := [48, 48, 48, 48, 48, 48, 50]) (by kernel_rfl)] at h9; exact h9)) ?_
            refine lm (v := .tuple #[.agg #[.int .i64 0, .int .i64 0, .int .u8 0], .int .i64 80]) rfl rfl ?_
            refine lm (v := .agg #[.int .i64 0, .int .i64 0, .int .u8 0]) rfl rfl ?_
            refine lm (v := .int .i64 80) rfl rfl ?_
            refine wpL_new (fun g => .pointer (some ⟨g, 0, none⟩)) (obi := .cells #[.int .i64 0, .int .i64 0, .int .u8 0] 34 (0, 0)) rfl rfl (fun _ => by kernel_rfl) (fun _ => by simp only [List.setIfInBounds_toArray, List.set_cons_succ, List.set_cons_zero] <;> rfl) fun g53 Bg53 Fg53 => ?_
            obtain ⟨dj54_0, dj54_1, dj54_2, dj54_3⟩ : g51 ≠ g53 ∧ g49 ≠ g53 ∧ g47 ≠ g53 ∧ Dk g53 Kl42 := by simpa only [dj_app_l, dj_app_r, dj_cons_l, dj_cons_r, dj_nil_l, dj_nil_r, dk_app, dk_cons, dk_nil, and_true, true_and, and_assoc] using (show Dk g53 ((g51, .cells #[.int .i64 0, .int .i64 0, .int .u8 0] 34 (0, 0)) :: (g49, .cells #[.int .i64 0, .int .i64 0, .int .u8 0] 34 (0, 0)) :: (g47, .stringIter ⟨nm.toArray⟩ k) :: Kl42) from Fg53)
            refine wpL_s ((g53, .cells #[.int .i64 0, .int .i64 0, .int .u8 0] 34 (0, 0)) :: (g51, .cells #[.int .i64 0, .int .i64 0, .int .u8 0] 34 (0, 0)) :: (g49, .cells #[.int .i64 0, .int .i64 0, .int .u8 0] 34 (0, 0)) :: (g47, .stringIter ⟨nm.toArray⟩ k) :: Kl42) rfl rfl (st_row (off := 0) (v := .agg #[.int .i64 0, .int .i64 0, .int .u8 0]) rfl (by kernel_rfl) (by kernel_rfl) (.head _) Bg53 (by kernel_rfl) (by first | (simp [Value.cells]; done) | exact Nat.le_of_ble_eq_true rfl) (by intro v hv; simp [Value.cells] at hv; first | (subst hv; rfl) | (rcases hv with rfl | rfl | rfl <;> rfl)) (by kernel_rfl) (List.forall_mem_cons.2 ⟨.inl rfl, (List.forall_mem_cons.2 ⟨.inr ⟨(.tail _ (.head _)), (by first | assumption | exact Ne.symm (by assumption))⟩, (List.forall_mem_cons.2 ⟨.inr ⟨(.tail _ (.tail _ (.head _))), (by first | assumption | exact Ne.symm (by assumption))⟩, (List.forall_mem_cons.2 ⟨.inr ⟨(.tail _ (.tail _ (.tail _ (.head _)))), (by first | assumption | exact Ne.symm (by assumption))⟩, (fun p hp => .inr ⟨(.tail _ (.tail _ (.tail _ (.tail _ hp)))), ((show Dk g53 Kl42 from (by (try simp only [dj_app_l, dj_app_r, dj_cons_l, dj_cons_r, dj_nil_l, dj_nil_r, dk_app, dk_cons, dk_nil, and_true, true_and, and_assoc]); repeat' (first | trivial | assumption | exact Dj.symm (by assumption) | exact Ne.symm (by assumption) | apply And.intro))) _ hp)⟩)⟩)⟩)⟩)⟩)) ?_
            refine lm (v := .int .i64 80) rfl rfl ?_
            refine wpL_done (fun W57 hW57 => ?_)
            refine (show Code.wp _ _ _ _ _ from ?_)
            refine wp_seq ?_
            refine wp_region_L (W0 := W6) ((g53, .cells #[.int .i64 0, .int .i64 0, .int .u8 0] 34 (0, 0)) :: (g51, .cells #[.int .i64 0, .int .i64 0, .int .u8 0] 34 (0, 0)) :: (g49, .cells #[.int .i64 0, .int .i64 0, .int .u8 0] 34 (0, 0)) :: (g47, .stringIter ⟨nm.toArray⟩ k) :: Kl42) (hW57) ?_
            refine lv (v := .agg (shC (.slice pcS cs.length ccS) (.slice poS osS.length coS) tl0).toArray) rfl rfl (yb_rs (off := 0) (cs := _) rfl (by kernel_rfl) (fun W hW => ((HGZ.out).keep hW.1).2) Tryd.underlying32 rfl (by kernel_rfl)) ?_
            refine lv (v := .tuple #[.agg #[.int .i64 0, .int .i64 0, .int .u8 0], .int .i64 80]) rfl rfl (yb_call (f := 31) (args := #[.agg (shC (.slice pcS cs.length ccS) (.slice poS osS.length coS) tl0).toArray, strV [48, 48, 49, 48, 48, 50, 50]]) (fun _ => by kernel_rfl) fun W hW => (by have h9 := SFind_any cs pcS ccS (by omega) osS poS coS (by omega) tl0 [48, 48, 49, 48, 48, 50, 50] (by first | omega | (simp only [List.length_set, List.length_append, List.length_take, List.length_cons, List.length_nil]; omega)) W ((RL.base HCZ.out) _ (hW.sub (fun _ h => by cases h))) ((RL.base HOZ.out) _ (hW.sub (fun _ h => by cases h))) (HRZ.out.keep hW.1) lrS ((good_plugs hg).1 W) (good_plugs hg).2 (HE.out.keep (hbZ.trans (hW.1.mono hbZ.size))); rw [find_no hr (l := [48, 48, 49, 48, 48, 50, 50]) (by kernel_rfl)] at h9; exact h9)) ?_
            refine lm (v := .tuple #[.agg #[.int .i64 0, .int .i64 0, .int .u8 0], .int .i64 80]) rfl rfl ?_
            refine lm (v := .agg #[.int .i64 0, .int .i64 0, .int .u8 0]) rfl rfl ?_
            refine lm (v := .int .i64 80) rfl rfl ?_
            refine wpL_new (fun g => .pointer (some ⟨g, 0, none⟩)) (obi := .cells #[.int .i64 0, .int .i64 0, .int .u8 0] 34 (0, 0)) rfl rfl (fun _ => by kernel_rfl) (fun _ => by simp only [List.setIfInBounds_toArray, List.set_cons_succ, List.set_cons_zero] <;> rfl) fun g55 Bg55 Fg55 => ?_
            obtain ⟨dj56_0, dj56_1, dj56_2, dj56_3, dj56_4⟩ : g53 ≠ g55 ∧ g51 ≠ g55 ∧ g49 ≠ g55 ∧ g47 ≠ g55 ∧ Dk g55 Kl42 := by simpa only [dj_app_l, dj_app_r, dj_cons_l, dj_cons_r, dj_nil_l, dj_nil_r, dk_app, dk_cons, dk_nil, and_true, true_and, and_assoc] using (show Dk g55 ((g53, .cells #[.int .i64 0, .int .i64 0, .int .u8 0] 34 (0, 0)) :: (g51, .cells #[.int .i64 0, .int .i64 0, .int .u8 0] 34 (0, 0)) :: (g49, .cells #[.int .i64 0, .int .i64 0, .int .u8 0] 34 (0, 0)) :: (g47, .stringIter ⟨nm.toArray⟩ k) :: Kl42) from Fg55)
            refine wpL_s ((g55, .cells #[.int .i64 0, .int .i64 0, .int .u8 0] 34 (0, 0)) :: (g53, .cells #[.int .i64 0, .int .i64 0, .int .u8 0] 34 (0, 0)) :: (g51, .cells #[.int .i64 0, .int .i64 0, .int .u8 0] 34 (0, 0)) :: (g49, .cells #[.int .i64 0, .int .i64 0, .int .u8 0] 34 (0, 0)) :: (g47, .stringIter ⟨nm.toArray⟩ k) :: Kl42) rfl rfl (st_row (off := 0) (v := .agg #[.int .i64 0, .int .i64 0, .int .u8 0]) rfl (by kernel_rfl) (by kernel_rfl) (.head _) Bg55 (by kernel_rfl) (by first | (simp [Value.cells]; done) | exact Nat.le_of_ble_eq_true rfl) (by intro v hv; simp [Value.cells] at hv; first | (subst hv; rfl) | (rcases hv with rfl | rfl | rfl <;> rfl)) (by kernel_rfl) (List.forall_mem_cons.2 ⟨.inl rfl, (List.forall_mem_cons.2 ⟨.inr ⟨(.tail _ (.head _)), (by first | assumption | exact Ne.symm (by assumption))⟩, (List.forall_mem_cons.2 ⟨.inr ⟨(.tail _ (.tail _ (.head _))), (by first | assumption | exact Ne.symm (by assumption))⟩, (List.forall_mem_cons.2 ⟨.inr ⟨(.tail _ (.tail _ (.tail _ (.head _)))), (by first | assumption | exact Ne.symm (by assumption))⟩, (List.forall_mem_cons.2 ⟨.inr ⟨(.tail _ (.tail _ (.tail _ (.tail _ (.head _))))), (by first | assumption | exact Ne.symm (by assumption))⟩, (fun p hp => .inr ⟨(.tail _ (.tail _ (.tail _ (.tail _ (.tail _ hp))))), ((show Dk g55 Kl42 from (by (try simp only [dj_app_l, dj_app_r, dj_cons_l, dj_cons_r, dj_nil_l, dj_nil_r, dk_app, dk_cons, dk_nil, and_true, true_and, and_assoc]); repeat' (first | trivial | assumption | exact Dj.symm (by assumption) | exact Ne.symm (by assumption) | apply And.intro))) _ hp)⟩)⟩)⟩)⟩)⟩)⟩)) ?_
            refine lm (v := .int .i64 80) rfl rfl ?_
            refine wpL_done (fun W58 hW58 => ?_)
            refine (show Code.wp _ _ _ _ _ from ?_)
            refine wp_seq ?_
            refine wp_region_L (W0 := W6) ((g55, .cells #[.int .i64 0, .int .i64 0, .int .u8 0] 34 (0, 0)) :: (g53, .cells #[.int .i64 0, .int .i64 0, .int .u8 0] 34 (0, 0)) :: (g51, .cells #[.int .i64 0, .int .i64 0, .int .u8 0] 34 (0, 0)) :: (g49, .cells #[.int .i64 0, .int .i64 0, .int .u8 0] 34 (0, 0)) :: (g47, .stringIter ⟨nm.toArray⟩ k) :: Kl42) (hW58) ?_
            refine lv (v := .agg (shC (.slice pcS cs.length ccS) (.slice poS osS.length coS) tl0).toArray) rfl rfl (yb_rs (off := 0) (cs := _) rfl (by kernel_rfl) (fun W hW => ((HGZ.out).keep hW.1).2) Tryd.underlying32 rfl (by kernel_rfl)) ?_
            refine lv (v := .tuple #[.agg #[.int .i64 0, .int .i64 0, .int .u8 0], .int .i64 80]) rfl rfl (yb_call (f := 31) (args := #[.agg (shC (.slice pcS cs.length ccS) (.slice poS osS.length coS) tl0).toArray, strV [48, 48, 49, 48, 48, 56, 48]]) (fun _ => by kernel_rfl) fun W hW => (by have h9 := SFind_any cs pcS ccS (by omega) osS poS coS (by omega) tl0 [48, 48, 49, 48, 48, 56, 48] (by first | omega | (simp only [List.length_set, List.length_append, List.length_take, List.length_cons, List.length_nil]; omega)) W ((RL.base HCZ.out) _ (hW.sub (fun _ h => by cases h))) ((RL.base HOZ.out) _ (hW.sub (fun _ h => by cases h))) (HRZ.out.keep hW.1) lrS ((good_plugs hg).1 W) (good_plugs hg).2 (HE.out.keep (hbZ.trans (hW.1.mono hbZ.size))); rw [find_no hr (l := [48, 48, 49, 48, 48, 56, 48]) (by kernel_rfl)] at h9; exact h9)) ?_
            refine lm (v := .tuple #[.agg #[.int .i64 0, .int .i64 0, .int .u8 0], .int .i64 80]) rfl rfl ?_
            refine lm (v := .agg #[.int .i64 0, .int .i64 0, .int .u8 0]) rfl rfl ?_
            refine lm (v := .int .i64 80) rfl rfl ?_
            refine wpL_new (fun g => .pointer (some ⟨g, 0, none⟩)) (obi := .cells #[.int .i64 0, .int .i64 0, .int .u8 0] 34 (0, 0)) rfl rfl (fun _ => by kernel_rfl) (fun _ => by simp only [List.setIfInBounds_toArray, List.set_cons_succ, List.set_cons_zero] <;> rfl) fun g57 Bg57 Fg57 => ?_
            obtain ⟨dj58_0, dj58_1, dj58_2, dj58_3, dj58_4, dj58_5⟩ : g55 ≠ g57 ∧ g53 ≠ g57 ∧ g51 ≠ g57 ∧ g49 ≠ g57 ∧ g47 ≠ g57 ∧ Dk g57 Kl42 := by simpa only [dj_app_l, dj_app_r, dj_cons_l, dj_cons_r, dj_nil_l, dj_nil_r, dk_app, dk_cons, dk_nil, and_true, true_and, and_assoc] using (show Dk g57 ((g55, .cells #[.int .i64 0, .int .i64 0, .int .u8 0] 34 (0, 0)) :: (g53, .cells #[.int .i64 0, .int .i64 0, .int .u8 0] 34 (0, 0)) :: (g51, .cells #[.int .i64 0, .int .i64 0, .int .u8 0] 34 (0, 0)) :: (g49, .cells #[.int .i64 0, .int .i64 0, .int .u8 0] 34 (0, 0)) :: (g47, .stringIter ⟨nm.toArray⟩ k) :: Kl42) from Fg57)
            refine wpL_s ((g57, .cells #[.int .i64 0, .int .i64 0, .int .u8 0] 34 (0, 0)) :: (g55, .cells #[.int .i64 0, .int .i64 0, .int .u8 0] 34 (0, 0)) :: (g53, .cells #[.int .i64 0, .int .i64 0, .int .u8 0] 34 (0, 0)) :: (g51, .cells #[.int .i64 0, .int .i64 0, .int .u8 0] 34 (0, 0)) :: (g49, .cells #[.int .i64 0, .int .i64 0, .int .u8 0] 34 (0, 0)) :: (g47, .stringIter ⟨nm.toArray⟩ k) :: Kl42) rfl rfl (st_row (off := 0) (v := .agg #[.int .i64 0, .int .i64 0, .int .u8 0]) rfl (by kernel_rfl) (by kernel_rfl) (.head _) Bg57 (by kernel_rfl) (by first | (simp [Value.cells]; done) | exact Nat.le_of_ble_eq_true rfl) (by intro v hv; simp [Value.cells] at hv; first | (subst hv; rfl) | (rcases hv with rfl | rfl | rfl <;> rfl)) (by kernel_rfl) (List.forall_mem_cons.2 ⟨.inl rfl, (List.forall_mem_cons.2 ⟨.inr ⟨(.tail _ (.head _)), (by first | assumption | exact Ne.symm (by assumption))⟩, (List.forall_mem_cons.2 ⟨.inr ⟨(.tail _ (.tail _ (.head _))), (by first | assumption | exact Ne.symm (by assumption))⟩, (List.forall_mem_cons.2 ⟨.inr ⟨(.tail _ (.tail _ (.tail _ (.head _)))), (by first | assumption | exact Ne.symm (by assumption))⟩, (List.forall_mem_cons.2 ⟨.inr ⟨(.tail _ (.tail _ (.tail _ (.tail _ (.head _))))), (by first | assumption | exact Ne.symm (by assumption))⟩, (List.forall_mem_cons.2 ⟨.inr ⟨(.tail _ (.tail _ (.tail _ (.tail _ (.tail _ (.head _)))))), (by first | assumption | exact Ne.symm (by assumption))⟩, (fun p hp => .inr ⟨(.tail _ (.tail _ (.tail _ (.tail _ (.tail _ (.tail _ hp)))))), ((show Dk g57 Kl42 from (by (try simp only [dj_app_l, dj_app_r, dj_cons_l, dj_cons_r, dj_nil_l, dj_nil_r, dk_app, dk_cons, dk_nil, and_true, true_and, and_assoc]); repeat' (first | trivial | assumption | exact Dj.symm (by assumption) | exact Ne.symm (by assumption) | apply And.intro))) _ hp)⟩)⟩)⟩)⟩)⟩)⟩)⟩)) ?_
            refine lm (v := .int .i64 80) rfl rfl ?_
            refine wpL_done (fun W59 hW59 => ?_)
            refine (show Code.wp _ _ _ _ _ from ?_)
            refine wp_seq ?_
            refine wp_region_L (W0 := W6) ((g57, .cells #[.int .i64 0, .int .i64 0, .int .u8 0] 34 (0, 0)) :: (g55, .cells #[.int .i64 0, .int .i64 0, .int .u8 0] 34 (0, 0)) :: (g53, .cells #[.int .i64 0, .int .i64 0, .int .u8 0] 34 (0, 0)) :: (g51, .cells #[.int .i64 0, .int .i64 0, .int .u8 0] 34 (0, 0)) :: (g49, .cells #[.int .i64 0, .int .i64 0, .int .u8 0] 34 (0, 0)) :: (g47, .stringIter ⟨nm.toArray⟩ k) :: Kl42) (hW59) ?_
            refine lm (v := .int .i64 80) rfl rfl ?_
            refine lm (v := .bool true) rfl rfl ?_
            refine lm (v := .bool true) rfl rfl ?_
            refine lm (v := .int .i64 80) rfl rfl ?_
            refine lm (v := .int .i64 80) rfl rfl ?_
            refine lm (v := .bool true) rfl rfl ?_
            refine lm (v := .bool true) rfl rfl ?_
            refine lm (v := .bool true) rfl rfl ?_
            refine lm (v := .int .i64 80) rfl rfl ?_
            refine lm (v := .int .i64 80) rfl rfl ?_
            refine lm (v := .bool true) rfl rfl ?_
            refine lm (v := .bool true) rfl rfl ?_
            refine lm (v := .bool true) rfl rfl ?_
            refine lm (v := .int .i64 80) rfl rfl ?_
            refine lm (v := .int .i64 80) rfl rfl ?_
            refine lm (v := .bool true) rfl rfl ?_
            refine lm (v := .bool true) rfl rfl ?_
            refine lm (v := .bool true) rfl rfl ?_
            refine lm (v := .int .i64 80) rfl rfl ?_
            refine lm (v := .int .i64 80) rfl rfl ?_
            refine lm (v := .bool true) rfl rfl ?_
            refine lm (v := .bool true) rfl rfl ?_
            refine lm (v := .bool true) rfl rfl ?_
            refine lv (v := .bool true) rfl rfl (yb_call (f := 11) (args := #[]) (fun _ => by kernel_rfl) fun W hW => awake8_any W (HE.out.keep (hbZ.trans (hW.1.mono hbZ.size)))) ?_
            refine lm (v := .bool true) rfl rfl ?_
            refine lm (v := .bool true) rfl rfl ?_
            refine wpL_done (fun W60 hW60 => ?_)
            refine (show Code.wp _ _ _ _ _ from ?_)
            refine wp_ret ?_
            try simp only [inBlock_ret, then_ret]
            refine bodyPost_ret (v := .bool true) ?_ rfl ?_
            · kernel_rfl
            · exact ⟨rfl, (hbZ.trans (hW60.1.mono hbZ.size))⟩
          | true =>
            have h13 : k < nm.length := of_decide_eq_true hd13
            clear hd13
            obtain ⟨b59, hb59⟩ : ∃ b, (nm : List UInt8)[k]? = some b := ⟨_, List.getElem?_eq_getElem (by omega)⟩
            have lb59 := b59.toNat_lt
            refine wpL_g (NxO nm k b59 (fun n => ((g47, .stringIter ⟨nm.toArray⟩ (k + n)) :: Kl42))) rfl rfl (nx_some (Kf := fun n => ((g47, .stringIter ⟨nm.toArray⟩ (k + n)) :: Kl42)) rfl (by kernel_rfl) (.head _) Bg47 hb59 (fun n => (List.forall_mem_cons.2 ⟨.inl rfl, (fun p hp => .inr ⟨(.tail _ hp), ((show Dk g47 Kl42 from (by (try simp only [dj_app_l, dj_app_r, dj_cons_l, dj_cons_r, dj_nil_l, dj_nil_r, dk_app, dk_cons, dk_nil, and_true, true_and, and_assoc]); repeat' (first | trivial | assumption | exact Dj.symm (by assumption) | exact Ne.symm (by assumption) | apply And.intro))) _ hp)⟩)⟩))) (fun _ => by simp only [List.setIfInBounds_toArray, List.set_cons_succ, List.set_cons_zero] <;> rfl) ?_
            rintro _ K9 ⟨r60, n60, rfl, rfl, hr60⟩
            refine lm (v := .bool true) rfl rfl ?_
            refine wpL_done (fun W61 hW61 => ?_)
            have mbb59 := dg_lt (hnd _ (List.mem_of_getElem? hb59))
            obtain rfl := rn_one8 hr60 mbb59
            refine (show Code.wp _ _ _ _ _ from ?_)
            refine wp_seq ?_
            refine wp_cond_true rfl ?_
            refine wp_skip ?_
            refine (show Code.wp _ _ _ _ _ from ?_)
            refine wp_block ?_
            refine wp_seq ?_
            refine wp_region_L (W0 := W6) ((g47, .stringIter ⟨nm.toArray⟩ (k + 1)) :: Kl42) (hW61) ?_
            refine lm (v := .int .i64 ((k : Nat) : Int)) rfl rfl ?_
            refine lm (v := .int .i64 ((k : Nat) : Int)) rfl rfl ?_
            refine wpL_done (fun W62 hW62 => ?_)
            refine (show Code.wp _ _ _ _ _ from ?_)
            refine wp_seq ?_
            refine wp_region_L (W0 := W6) ((g47, .stringIter ⟨nm.toArray⟩ (k + 1)) :: Kl42) (hW62) ?_
            refine lm (v := strV nm) rfl rfl ?_
            refine wpL_g (ConvB W6 5 ((g47, .stringIter ⟨nm.toArray⟩ (k + 1)) :: Kl42) nm) rfl rfl (conv_bytes rfl Tryd.underlying78 Tryd.underlying5 Tryd.underlying9 (by kernel_rfl)) (fun _ => by simp only [List.setIfInBounds_toArray, List.set_cons_succ, List.set_cons_zero] <;> rfl) ?_
            rintro v K9 ⟨g61, capg61, curg61, frg61, rfl, Bg61, Fg61, Rg61, Zg61, Yg61, rfl⟩
            obtain ⟨dj62_0, dj62_1⟩ : g47 ≠ g61 ∧ Dk g61 Kl42 := by simpa only [dj_app_l, dj_app_r, dj_cons_l, dj_cons_r, dj_nil_l, dj_nil_r, dk_app, dk_cons, dk_nil, and_true, true_and, and_assoc] using (show Dk g61 ((g47, .stringIter ⟨nm.toArray⟩ (k + 1)) :: Kl42) from Fg61)
            refine lm (v := .slice (some ⟨g61, 0, none⟩) nm.length capg61) rfl rfl ?_
            refine wpL_done (fun W63 hW63 => ?_)
            refine (show Code.wp _ _ _ _ _ from ?_)
            refine wp_seq ?_
            refine wp_region_L (W0 := W6) ((g61, .cells curg61 5 frg61) :: (g47, .stringIter ⟨nm.toArray⟩ (k + 1)) :: Kl42) (hW63) ?_
            refine lm (v := .slice (some ⟨g61, 0, none⟩) nm.length capg61) rfl rfl ?_
            refine lm (v := .int .i64 ((k : Nat) : Int)) rfl rfl ?_
            refine lm (v := .int .u8 ((b.toNat : Nat) : Int)) rfl rfl ?_
            refine lp (v := .pointer (some ⟨g61, 0 + k * 1, none⟩)) rfl rfl (run_idxL (j := .i64) (n := nm.length) (cap := capg61) (b := g61) (off := 0) (k := k) (sz := 1) rfl Tryd.underlying78 (by kernel_rfl) (by kernel_rfl) (by kernel_rfl) (by omega)) ?_
            have Lcur63 : (nm.set k b).length = nm.length := List.length_set
            have Rcur63 : RowB (curg61.setIfInBounds (0 + k * 1) (.int .u8 ((b.toNat : Nat) : Int))) (nm.set k b) := rowb_set Rg61 Zg61 (by omega)
            have Zcur63 : (nm.set k b).length ≤ (curg61.setIfInBounds (0 + k * 1) (.int .u8 ((b.toNat : Nat) : Int))).size := by simpa using Zg61
            have Ycur63 : (curg61.setIfInBounds (0 + k * 1) (.int .u8 ((b.toNat : Nat) : Int))).size ≤ frg61.1 := by simpa using Yg61
            refine wpL_s ((g61, .cells (curg61.setIfInBounds (0 + k * 1) (.int .u8 ((b.toNat : Nat) : Int))) 5 frg61) :: (g47, .stringIter ⟨nm.toArray⟩ (k + 1)) :: Kl42) rfl rfl (st_at (off := 0 + k * 1) (v := .int .u8 ((b.toNat : Nat) : Int)) rfl (by kernel_rfl) (by kernel_rfl) (.head _) Bg61 (by kernel_rfl) rfl rfl (by have := Zg61; omega) (.inl Yg61) (List.forall_mem_cons.2 ⟨.inl rfl, (List.forall_mem_cons.2 ⟨.inr ⟨(.tail _ (.head _)), (by first | assumption | exact Ne.symm (by assumption))⟩, (fun p hp => .inr ⟨(.tail _ (.tail _ hp)), ((show Dk g61 Kl42 from (by (try simp only [dj_app_l, dj_app_r, dj_cons_l, dj_cons_r, dj_nil_l, dj_nil_r, dk_app, dk_cons, dk_nil, and_true, true_and, and_assoc]); repeat' (first | trivial | assumption | exact Dj.symm (by assumption) | exact Ne.symm (by assumption) | apply And.intro))) _ hp)⟩)⟩)⟩)) ?_
            refine wpL_done (fun W64 hW64 => ?_)
            refine (show Code.wp _ _ _ _ _ from ?_)
            refine wp_seq ?_
            refine wp_region_L (W0 := W6) ((g61, .cells (curg61.setIfInBounds (0 + k * 1) (.int .u8 ((b.toNat : Nat) : Int))) 5 frg61) :: (g47, .stringIter ⟨nm.toArray⟩ (k + 1)) :: Kl42) (hW64) ?_
            refine lv (v := .agg (shC (.slice pcS cs.length ccS) (.slice poS osS.length coS) tl0).toArray) rfl rfl (yb_rs (off := 0) (cs := _) rfl (by kernel_rfl) (fun W hW => ((HGZ.out).keep hW.1).2) Tryd.underlying32 rfl (by kernel_rfl)) ?_
            refine lm (v := .slice (some ⟨g61, 0, none⟩) nm.length capg61) rfl rfl ?_
            refine lv (v := strV (nm.set k b)) rfl rfl (yb_str (n := nm.length) (cap := capg61) (l := (nm.set k b)) rfl Tryd.underlying78 Tryd.underlying5 Tryd.underlying9 (by kernel_rfl) (by simp) (.head _) Rcur63) ?_
            obtain ⟨fy, fe, hfe, hfc, hfp⟩ := find_what hr (nm.set k b)
            have hset : (nm.set k b)[k]? = some b := List.getElem?_set_self (by omega)
            refine lv (v := .tuple #[.agg (sltC fy).toArray, .int .i64 ((fe : Nat) : Int)]) rfl rfl (yb_call (f := 31) (args := #[.agg (shC (.slice pcS cs.length ccS) (.slice poS osS.length coS) tl0).toArray, strV (nm.set k b)]) (fun _ => by kernel_rfl) fun W hW => (by have h9 := SFind_any cs pcS ccS (by omega) osS poS coS (by omega) tl0 (nm.set k b) (by first | omega | (simp only [List.length_set, List.length_append, List.length_take, List.length_cons, List.length_nil]; omega)) W ((RL.base HCZ.out) _ (hW.sub (fun _ h => by cases h))) ((RL.base HOZ.out) _ (hW.sub (fun _ h => by cases h))) (HRZ.out.keep hW.1) lrS ((good_plugs hg).1 W) (good_plugs hg).2 (HE.out.keep (hbZ.trans (hW.1.mono hbZ.size))); rw [hfe] at h9; exact h9)) ?_
            refine lm (v := .tuple #[.agg (sltC fy).toArray, .int .i64 ((fe : Nat) : Int)]) rfl rfl ?_
            refine lm (v := .agg (sltC fy).toArray) rfl rfl ?_
            refine lm (v := .int .i64 ((fe : Nat) : Int)) rfl rfl ?_
            refine wpL_new (fun g => .pointer (some ⟨g, 0, none⟩)) (obi := .cells #[.int .i64 0, .int .i64 0, .int .u8 0] 34 (0, 0)) rfl rfl (fun _ => by kernel_rfl) (fun _ => by simp only [List.setIfInBounds_toArray, List.set_cons_succ, List.set_cons_zero] <;> rfl) fun g64 Bg64 Fg64 => ?_
            obtain ⟨dj65_0, dj65_1, dj65_2⟩ : g61 ≠ g64 ∧ g47 ≠ g64 ∧ Dk g64 Kl42 := by simpa only [dj_app_l, dj_app_r, dj_cons_l, dj_cons_r, dj_nil_l, dj_nil_r, dk_app, dk_cons, dk_nil, and_true, true_and, and_assoc] using (show Dk g64 ((g61, .cells (curg61.setIfInBounds (0 + k * 1) (.int .u8 ((b.toNat : Nat) : Int))) 5 frg61) :: (g47, .stringIter ⟨nm.toArray⟩ (k + 1)) :: Kl42) from Fg64)
            refine wpL_s ((g64, .cells (sltC fy).toArray 34 (0, 0)) :: (g61, .cells (curg61.setIfInBounds (0 + k * 1) (.int .u8 ((b.toNat : Nat) : Int))) 5 frg61) :: (g47, .stringIter ⟨nm.toArray⟩ (k + 1)) :: Kl42) rfl rfl (st_row (off := 0) (v := .agg (sltC fy).toArray) rfl (by kernel_rfl) (by kernel_rfl) (.head _) Bg64 (by kernel_rfl) (by first | (simp [Value.cells]; done) | exact Nat.le_of_ble_eq_true rfl) (fun v hv => sltC_one fy v hv) (by kernel_rfl) (List.forall_mem_cons.2 ⟨.inl rfl, (List.forall_mem_cons.2 ⟨.inr ⟨(.tail _ (.head _)), (by first | assumption | exact Ne.symm (by assumption))⟩, (List.forall_mem_cons.2 ⟨.inr ⟨(.tail _ (.tail _ (.head _))), (by first | assumption | exact Ne.symm (by assumption))⟩, (fun p hp => .inr ⟨(.tail _ (.tail _ (.tail _ hp))), ((show Dk g64 Kl42 from (by (try simp only [dj_app_l, dj_app_r, dj_cons_l, dj_cons_r, dj_nil_l, dj_nil_r, dk_app, dk_cons, dk_nil, and_true, true_and, and_assoc]); repeat' (first | trivial | assumption | exact Dj.symm (by assumption) | exact Ne.symm (by assumption) | apply And.intro))) _ hp)⟩)⟩)⟩)⟩)) ?_
            refine lm (v := .int .i64 ((fe : Nat) : Int)) rfl rfl ?_
            refine wpL_done (fun W65 hW65 => ?_)
            refine (show Code.wp _ _ _ _ _ from ?_)
            refine wp_seq ?_
            refine wp_region_L (W0 := W6) ((g64, .cells (sltC fy).toArray 34 (0, 0)) :: (g61, .cells (curg61.setIfInBounds (0 + k * 1) (.int .u8 ((b.toNat : Nat) : Int))) 5 frg61) :: (g47, .stringIter ⟨nm.toArray⟩ (k + 1)) :: Kl42) (hW65) ?_
            refine lm (v := .int .u8 ((b.toNat : Nat) : Int)) rfl rfl ?_
            refine lp (v := .bool (!(decide (b.toNat < 48)))) rfl rfl (run_bin rfl (vx := (.int .u8 ((b.toNat : Nat) : Int))) (vy := (.int .u8 ((48 : Nat) : Int))) (by kernel_rfl) (by kernel_rfl) fun w => bn_geq rfl w) ?_
            refine lm (v := .bool (!(decide (b.toNat < 48)))) rfl rfl ?_
            cases hd14 : (decide (b.toNat < 48)) with
            | false =>
              have h14 : ¬ (b.toNat < 48) := of_decide_eq_false hd14
              clear hd14
              refine lm (v := .int .u8 ((b.toNat : Nat) : Int)) rfl rfl ?_
              refine lp (v := .bool (!(decide (57 < b.toNat)))) rfl rfl (run_bin rfl (vx := (.int .u8 ((b.toNat : Nat) : Int))) (vy := (.int .u8 ((57 : Nat) : Int))) (by kernel_rfl) (by kernel_rfl) fun w => bn_leq rfl w) ?_
              refine lm (v := .bool (!(decide (57 < b.toNat)))) rfl rfl ?_
              refine lm (v := .bool (!(decide (57 < b.toNat)))) rfl rfl ?_
              refine wpL_done (fun W66 hW66 => ?_)
              refine (show Code.wp _ _ _ _ _ from ?_)
              refine wp_seq ?_
              refine wp_seq ?_
              refine wp_region_L (W0 := W6) ((g64, .cells (sltC fy).toArray 34 (0, 0)) :: (g61, .cells (curg61.setIfInBounds (0 + k * 1) (.int .u8 ((b.toNat : Nat) : Int))) 5 frg61) :: (g47, .stringIter ⟨nm.toArray⟩ (k + 1)) :: Kl42) (hW66) ?_
              refine lm (v := .bool (!(decide (57 < b.toNat)))) rfl rfl ?_
              refine lp (v := .bool (decide (57 < b.toNat))) rfl rfl (run_un (v := .bool (decide (57 < b.toNat))) rfl (by kernel_rfl) fun w => (un_not w).trans (by rw [Bool.not_not])) ?_
              refine lm (v := .bool (decide (57 < b.toNat))) rfl rfl ?_
              cases hd15 : (decide (57 < b.toNat)) with
              | false =>
                have h15 : ¬ (57 < b.toNat) := of_decide_eq_false hd15
                clear hd15
                refine ln rfl ?_
                refine ln rfl ?_
                refine lm (v := .bool false) rfl rfl ?_
                refine lm (v := .bool false) rfl rfl ?_
                refine lm (v := .int .i64 ((fe : Nat) : Int)) rfl rfl ?_
                refine lp (v := .bool (!(decide (fe = 0)))) rfl rfl (run_bin rfl (vx := (.int .i64 ((fe : Nat) : Int))) (vy := (.int .i64 ((0 : Nat) : Int))) (by kernel_rfl) (by kernel_rfl) fun w => bn_neq rfl w) ?_
                refine lm (v := .bool (!(decide (fe = 0)))) rfl rfl ?_
                cases hd16 : (decide (fe = 0)) with
                | false =>
                  have h16 : ¬ (fe = 0) := of_decide_eq_false hd16
                  clear hd16
                  refine lv (v := .agg (sltC fy).toArray) rfl rfl (yb_load (n := 3) (off := 0) rfl (by kernel_rfl) (.head _) Tryd.underlying34 rfl (by kernel_rfl) (by first | (simp [Value.cells]; done) | exact Nat.le_of_ble_eq_true rfl) (by kernel_rfl)) ?_
                  refine lm (v := .agg #[.int .i64 0, .int .i64 0, .int .u8 0]) rfl rfl ?_
                  refine lp (v := .bool (!(eqS fy (⟨0, 0, 0⟩ : Slt)))) rfl rfl (run_bin rfl (vx := .agg (sltC fy).toArray) (vy := .agg (sltC (⟨0, 0, 0⟩ : Slt)).toArray) (by kernel_rfl) (by kernel_rfl) fun w => ne_slt w) ?_
                  refine lm (v := .bool (!(eqS fy (⟨0, 0, 0⟩ : Slt)))) rfl rfl ?_
                  refine lm (v := .bool (!(eqS fy (⟨0, 0, 0⟩ : Slt)))) rfl rfl ?_
                  refine wpL_done (fun W67 hW67 => ?_)
                  refine (show Code.wp _ _ _ _ _ from ?_)
                  cases h17 : (eqS fy (⟨0, 0, 0⟩ : Slt)) with
                  | false =>
                    exact absurd (show (eqS fy (⟨0, 0, 0⟩ : Slt)) = true from by rcases hfc with ⟨h, _⟩ | ⟨_, h⟩; exact absurd h h16; rw [h]; rfl) (by rw [h17]; decide)
                  | true =>
                    refine wp_cond_false rfl ?_
                    refine wp_skip ?_
                    refine (show Code.wp _ _ _ _ _ from ?_)
                    refine wp_seq ?_
                    refine wp_region_L (W0 := W6) ((g64, .cells (sltC fy).toArray 34 (0, 0)) :: (g61, .cells (curg61.setIfInBounds (0 + k * 1) (.int .u8 ((b.toNat : Nat) : Int))) 5 frg61) :: (g47, .stringIter ⟨nm.toArray⟩ (k + 1)) :: Kl42) (hW67) ?_
                    refine lv (v := .agg (shC (.slice pcS cs.length ccS) (.slice poS osS.length coS) tl0).toArray) rfl rfl (yb_rs (off := 0) (cs := _) rfl (by kernel_rfl) (fun W hW => ((HGZ.out).keep hW.1).2) Tryd.underlying32 rfl (by kernel_rfl)) ?_
                    refine lv (v := .agg (sltC fy).toArray) rfl rfl (yb_load (n := 3) (off := 0) rfl (by kernel_rfl) (.head _) Tryd.underlying34 rfl (by kernel_rfl) (by first | (simp [Value.cells]; done) | exact Nat.le_of_ble_eq_true rfl) (by kernel_rfl)) ?_
                    refine lv (v := .tuple #[strV ((nameR cs osS fy).1), .int .i64 ((((nameR cs osS fy).2) : Nat) : Int)]) rfl rfl (yb_call (f := 29) (args := #[.agg (shC (.slice pcS cs.length ccS) (.slice poS osS.length coS) tl0).toArray, .agg (sltC fy).toArray]) (fun _ => by kernel_rfl) fun W hW => SName_any cs pcS ccS (by omega) osS poS coS (by omega) tl0 fy.col fy.tier fy.half W ((RL.base HCZ.out) _ (hW.sub (fun _ h => by cases h))) ((RL.base HOZ.out) _ (hW.sub (fun _ h => by cases h))) (HRZ.out.keep hW.1) lrS ((good_plugs hg).1 W) (good_plugs hg).2 (HE.out.keep (hbZ.trans (hW.1.mono hbZ.size)))) ?_
                    refine lm (v := .tuple #[strV ((nameR cs osS fy).1), .int .i64 ((((nameR cs osS fy).2) : Nat) : Int)]) rfl rfl ?_
                    refine lm (v := strV ((nameR cs osS fy).1)) rfl rfl ?_
                    refine lm (v := .int .i64 ((((nameR cs osS fy).2) : Nat) : Int)) rfl rfl ?_
                    refine lm (v := strV ((nameR cs osS fy).1)) rfl rfl ?_
                    refine lm (v := .int .i64 ((((nameR cs osS fy).2) : Nat) : Int)) rfl rfl ?_
                    refine wpL_done (fun W68 hW68 => ?_)
                    refine (show Code.wp _ _ _ _ _ from ?_)
                    refine wp_seq ?_
                    refine wp_region_L (W0 := W6) ((g64, .cells (sltC fy).toArray 34 (0, 0)) :: (g61, .cells (curg61.setIfInBounds (0 + k * 1) (.int .u8 ((b.toNat : Nat) : Int))) 5 frg61) :: (g47, .stringIter ⟨nm.toArray⟩ (k + 1)) :: Kl42) (hW68) ?_
                    refine lm (v := .int .i64 ((fe : Nat) : Int)) rfl rfl ?_
                    refine lp (v := .bool false) rfl rfl (run_bin rfl (vx := (.int .i64 ((fe : Nat) : Int))) (vy := (.int .i64 ((0 : Nat) : Int))) (by kernel_rfl) (by kernel_rfl) fun w => bn_eql (decide_eq_false (by assumption)) w) ?_
                    refine lm (v := .bool false) rfl rfl ?_
                    refine ln rfl ?_
                    refine ln rfl ?_
                    refine ln rfl ?_
                    refine ln rfl ?_
                    refine ln rfl ?_
                    refine ln rfl ?_
                    refine ln rfl ?_
                    refine ln rfl ?_
                    refine lm (v := .bool false) rfl rfl ?_
                    refine wpL_done (fun W69 hW69 => ?_)
                    refine (show Code.wp _ _ _ _ _ from ?_)
                    refine wp_cond_false rfl ?_
                    refine wp_skip ?_
                    go_roundw
                    case rel =>
                      repeat apply Exists.intro
                      exact ⟨⟨(k + 1), (by omega), (hW69.sub (fun p hp => by first | exact hp | (simp only [List.mem_cons, List.mem_append, List.nil_append, List.not_mem_nil, or_assoc, or_false, false_or] at hp ⊢ <;> grind)))⟩, rfl⟩
                    case measure => have e1 := iterPos_of (hL53.2 _ (.head _)); have e2 := iterPos_of (hW69.2 _ (.tail _ (.tail _ (.head _)))); rw [e1, e2]; omega
                | true =>
                  have h16 : fe = 0 := of_decide_eq_true hd16
                  clear hd16
                  refine ln rfl ?_
                  refine ln rfl ?_
                  refine ln rfl ?_
                  refine lm (v := .bool false) rfl rfl ?_
                  refine lm (v := .bool false) rfl rfl ?_
                  refine wpL_done (fun W70 hW70 => ?_)
                  refine (show Code.wp _ _ _ _ _ from ?_)
                  refine wp_cond_false rfl ?_
                  refine wp_skip ?_
                  refine (show Code.wp _ _ _ _ _ from ?_)
                  refine wp_seq ?_
                  refine wp_region_L (W0 := W6) ((g64, .cells (sltC fy).toArray 34 (0, 0)) :: (g61, .cells (curg61.setIfInBounds (0 + k * 1) (.int .u8 ((b.toNat : Nat) : Int))) 5 frg61) :: (g47, .stringIter ⟨nm.toArray⟩ (k + 1)) :: Kl42) (hW70) ?_
                  refine lv (v := .agg (shC (.slice pcS cs.length ccS) (.slice poS osS.length coS) tl0).toArray) rfl rfl (yb_rs (off := 0) (cs := _) rfl (by kernel_rfl) (fun W hW => ((HGZ.out).keep hW.1).2) Tryd.underlying32 rfl (by kernel_rfl)) ?_
                  refine lv (v := .agg (sltC fy).toArray) rfl rfl (yb_load (n := 3) (off := 0) rfl (by kernel_rfl) (.head _) Tryd.underlying34 rfl (by kernel_rfl) (by first | (simp [Value.cells]; done) | exact Nat.le_of_ble_eq_true rfl) (by kernel_rfl)) ?_
                  have hback : nameR cs osS fy = (nm.set k b, 0) := by rcases hfc with ⟨_, h⟩ | ⟨h, _⟩; exact h; exact absurd h16 h
                  refine lv (v := .tuple #[strV (nm.set k b), .int .i64 0]) rfl rfl (yb_call (f := 29) (args := #[.agg (shC (.slice pcS cs.length ccS) (.slice poS osS.length coS) tl0).toArray, .agg (sltC fy).toArray]) (fun _ => by kernel_rfl) fun W hW => (by have h9 := SName_any cs pcS ccS (by omega) osS poS coS (by omega) tl0 fy.col fy.tier fy.half W ((RL.base HCZ.out) _ (hW.sub (fun _ h => by cases h))) ((RL.base HOZ.out) _ (hW.sub (fun _ h => by cases h))) (HRZ.out.keep hW.1) lrS ((good_plugs hg).1 W) (good_plugs hg).2 (HE.out.keep (hbZ.trans (hW.1.mono hbZ.size))); rw [hback] at h9; exact h9)) ?_
                  refine lm (v := .tuple #[strV (nm.set k b), .int .i64 0]) rfl rfl ?_
                  refine lm (v := strV (nm.set k b)) rfl rfl ?_
                  refine lm (v := .int .i64 0) rfl rfl ?_
                  refine lm (v := strV (nm.set k b)) rfl rfl ?_
                  refine lm (v := .int .i64 0) rfl rfl ?_
                  refine wpL_done (fun W71 hW71 => ?_)
                  refine (show Code.wp _ _ _ _ _ from ?_)
                  refine wp_seq ?_
                  refine wp_region_L (W0 := W6) ((g64, .cells (sltC fy).toArray 34 (0, 0)) :: (g61, .cells (curg61.setIfInBounds (0 + k * 1) (.int .u8 ((b.toNat : Nat) : Int))) 5 frg61) :: (g47, .stringIter ⟨nm.toArray⟩ (k + 1)) :: Kl42) (hW71) ?_
                  refine lm (v := .int .i64 ((fe : Nat) : Int)) rfl rfl ?_
                  refine lp (v := .bool true) rfl rfl (run_bin rfl (vx := (.int .i64 ((fe : Nat) : Int))) (vy := (.int .i64 ((0 : Nat) : Int))) (by kernel_rfl) (by kernel_rfl) fun w => bn_eql (decide_eq_true (by assumption)) w) ?_
                  refine lm (v := .bool true) rfl rfl ?_
                  refine lm (v := .int .i64 0) rfl rfl ?_
                  refine lm (v := .bool false) rfl rfl ?_
                  refine lm (v := .bool false) rfl rfl ?_
                  refine lm (v := strV (nm.set k b)) rfl rfl ?_
                  refine lm (v := .slice (some ⟨g61, 0, none⟩) nm.length capg61) rfl rfl ?_
                  refine lv (v := strV (nm.set k b)) rfl rfl (yb_str (n := nm.length) (cap := capg61) (l := (nm.set k b)) rfl Tryd.underlying78 Tryd.underlying5 Tryd.underlying9 (by kernel_rfl) (by simp) (.tail _ (.head _)) Rcur63) ?_
                  refine lp (v := .bool false) rfl rfl (run_bin rfl (vx := strV (nm.set k b)) (vy := strV (nm.set k b)) (by kernel_rfl) (by kernel_rfl) fun w => bs_neq (decide_eq_true rfl) w) ?_
                  refine lm (v := .bool false) rfl rfl ?_
                  refine lm (v := .bool false) rfl rfl ?_
                  refine wpL_done (fun W72 hW72 => ?_)
                  refine (show Code.wp _ _ _ _ _ from ?_)
                  refine wp_cond_false rfl ?_
                  refine wp_skip ?_
                  go_roundw
                  case rel =>
                    repeat apply Exists.intro
                    exact ⟨⟨(k + 1), (by omega), (hW72.sub (fun p hp => by first | exact hp | (simp only [List.mem_cons, List.mem_append, List.nil_append, List.not_mem_nil, or_assoc, or_false, false_or] at hp ⊢ <;> grind)))⟩, rfl⟩
                  case measure => have e1 := iterPos_of (hL53.2 _ (.head _)); have e2 := iterPos_of (hW72.2 _ (.tail _ (.tail _ (.head _)))); rw [e1, e2]; omega
              | true =>
                have h15 : 57 < b.toNat := of_decide_eq_true hd15
                clear hd15
                refine lm (v := .int .i64 ((fe : Nat) : Int)) rfl rfl ?_
                refine lp (v := .bool (!(decide (fe = 80)))) rfl rfl (run_bin rfl (vx := (.int .i64 ((fe : Nat) : Int))) (vy := (.int .i64 ((80 : Nat) : Int))) (by kernel_rfl) (by kernel_rfl) fun w => bn_neq rfl w) ?_
                refine lm (v := .bool (!(decide (fe = 80)))) rfl rfl ?_
                refine lm (v := .bool (!(decide (fe = 80)))) rfl rfl ?_
                cases hd18 : (decide (fe = 80)) with
                | false =>
                  have h18 : ¬ (fe = 80) := of_decide_eq_false hd18
                  clear hd18
                  exact absurd (hfp (place_dg hset (nodg_hi h15))) h18
                | true =>
                  have h18 : fe = 80 := of_decide_eq_true hd18
                  clear hd18
                  refine lm (v := .int .i64 ((fe : Nat) : Int)) rfl rfl ?_
                  refine lp (v := .bool (!(decide (fe = 0)))) rfl rfl (run_bin rfl (vx := (.int .i64 ((fe : Nat) : Int))) (vy := (.int .i64 ((0 : Nat) : Int))) (by kernel_rfl) (by kernel_rfl) fun w => bn_neq rfl w) ?_
                  refine lm (v := .bool (!(decide (fe = 0)))) rfl rfl ?_
                  cases hd19 : (decide (fe = 0)) with
                  | false =>
                    have h19 : ¬ (fe = 0) := of_decide_eq_false hd19
                    clear hd19
                    refine lv (v := .agg (sltC fy).toArray) rfl rfl (yb_load (n := 3) (off := 0) rfl (by kernel_rfl) (.head _) Tryd.underlying34 rfl (by kernel_rfl) (by first | (simp [Value.cells]; done) | exact Nat.le_of_ble_eq_true rfl) (by kernel_rfl)) ?_
                    refine lm (v := .agg #[.int .i64 0, .int .i64 0, .int .u8 0]) rfl rfl ?_
                    refine lp (v := .bool (!(eqS fy (⟨0, 0, 0⟩ : Slt)))) rfl rfl (run_bin rfl (vx := .agg (sltC fy).toArray) (vy := .agg (sltC (⟨0, 0, 0⟩ : Slt)).toArray) (by kernel_rfl) (by kernel_rfl) fun w => ne_slt w) ?_
                    refine lm (v := .bool (!(eqS fy (⟨0, 0, 0⟩ : Slt)))) rfl rfl ?_
                    refine lm (v := .bool (!(eqS fy (⟨0, 0, 0⟩ : Slt)))) rfl rfl ?_
                    refine wpL_done (fun W73 hW73 => ?_)
                    refine (show Code.wp _ _ _ _ _ from ?_)
                    cases h20 : (eqS fy (⟨0, 0, 0⟩ : Slt)) with
                    | false =>
                      exact absurd (show (eqS fy (⟨0, 0, 0⟩ : Slt)) = true from by rcases hfc with ⟨h, _⟩ | ⟨_, h⟩; exact absurd h h19; rw [h]; rfl) (by rw [h20]; decide)
                    | true =>
                      refine wp_cond_false rfl ?_
                      refine wp_skip ?_
                      refine (show Code.wp _ _ _ _ _ from ?_)
                      refine wp_seq ?_
                      refine wp_region_L (W0 := W6) ((g64, .cells (sltC fy).toArray 34 (0, 0)) :: (g61, .cells (curg61.setIfInBounds (0 + k * 1) (.int .u8 ((b.toNat : Nat) : Int))) 5 frg61) :: (g47, .stringIter ⟨nm.toArray⟩ (k + 1)) :: Kl42) (hW73) ?_
                      refine lv (v := .agg (shC (.slice pcS cs.length ccS) (.slice poS osS.length coS) tl0).toArray) rfl rfl (yb_rs (off := 0) (cs := _) rfl (by kernel_rfl) (fun W hW => ((HGZ.out).keep hW.1).2) Tryd.underlying32 rfl (by kernel_rfl)) ?_
                      refine lv (v := .agg (sltC fy).toArray) rfl rfl (yb_load (n := 3) (off := 0) rfl (by kernel_rfl) (.head _) Tryd.underlying34 rfl (by kernel_rfl) (by first | (simp [Value.cells]; done) | exact Nat.le_of_ble_eq_true rfl) (by kernel_rfl)) ?_
                      refine lv (v := .tuple #[strV ((nameR cs osS fy).1), .int .i64 ((((nameR cs osS fy).2) : Nat) : Int)]) rfl rfl (yb_call (f := 29) (args := #[.agg (shC (.slice pcS cs.length ccS) (.slice poS osS.length coS) tl0).toArray, .agg (sltC fy).toArray]) (fun _ => by kernel_rfl) fun W hW => SName_any cs pcS ccS (by omega) osS poS coS (by omega) tl0 fy.col fy.tier fy.half W ((RL.base HCZ.out) _ (hW.sub (fun _ h => by cases h))) ((RL.base HOZ.out) _ (hW.sub (fun _ h => by cases h))) (HRZ.out.keep hW.1) lrS ((good_plugs hg).1 W) (good_plugs hg).2 (HE.out.keep (hbZ.trans (hW.1.mono hbZ.size)))) ?_
                      refine lm (v := .tuple #[strV ((nameR cs osS fy).1), .int .i64 ((((nameR cs osS fy).2) : Nat) : Int)]) rfl rfl ?_
                      refine lm (v := strV ((nameR cs osS fy).1)) rfl rfl ?_
                      refine lm (v := .int .i64 ((((nameR cs osS fy).2) : Nat) : Int)) rfl rfl ?_
                      refine lm (v := strV ((nameR cs osS fy).1)) rfl rfl ?_
                      refine lm (v := .int .i64 ((((nameR cs osS fy).2) : Nat) : Int)) rfl rfl ?_
                      refine wpL_done (fun W74 hW74 => ?_)
                      refine (show Code.wp _ _ _ _ _ from ?_)
                      refine wp_seq ?_
                      refine wp_region_L (W0 := W6) ((g64, .cells (sltC fy).toArray 34 (0, 0)) :: (g61, .cells (curg61.setIfInBounds (0 + k * 1) (.int .u8 ((b.toNat : Nat) : Int))) 5 frg61) :: (g47, .stringIter ⟨nm.toArray⟩ (k + 1)) :: Kl42) (hW74) ?_
                      refine lm (v := .int .i64 ((fe : Nat) : Int)) rfl rfl ?_
                      refine lp (v := .bool false) rfl rfl (run_bin rfl (vx := (.int .i64 ((fe : Nat) : Int))) (vy := (.int .i64 ((0 : Nat) : Int))) (by kernel_rfl) (by kernel_rfl) fun w => bn_eql (decide_eq_false (by assumption)) w) ?_
                      refine lm (v := .bool false) rfl rfl ?_
                      refine ln rfl ?_
                      refine ln rfl ?_
                      refine ln rfl ?_
                      refine ln rfl ?_
                      refine ln rfl ?_
                      refine ln rfl ?_
                      refine ln rfl ?_
                      refine ln rfl ?_
                      refine lm (v := .bool false) rfl rfl ?_
                      refine wpL_done (fun W75 hW75 => ?_)
                      refine (show Code.wp _ _ _ _ _ from ?_)
                      refine wp_cond_false rfl ?_
                      refine wp_skip ?_
                      go_roundw
                      case rel =>
                        repeat apply Exists.intro
                        exact ⟨⟨(k + 1), (by omega), (hW75.sub (fun p hp => by first | exact hp | (simp only [List.mem_cons, List.mem_append, List.nil_append, List.not_mem_nil, or_assoc, or_false, false_or] at hp ⊢ <;> grind)))⟩, rfl⟩
                      case measure => have e1 := iterPos_of (hL53.2 _ (.head _)); have e2 := iterPos_of (hW75.2 _ (.tail _ (.tail _ (.head _)))); rw [e1, e2]; omega
                  | true =>
                    have h19 : fe = 0 := of_decide_eq_true hd19
                    clear hd19
                    omega
            | true =>
              have h14 : b.toNat < 48 := of_decide_eq_true hd14
              clear hd14
              refine ln rfl ?_
              refine ln rfl ?_
              refine lm (v := .bool false) rfl rfl ?_
              refine lm (v := .bool false) rfl rfl ?_
              refine wpL_done (fun W76 hW76 => ?_)
              refine (show Code.wp _ _ _ _ _ from ?_)
              refine wp_seq ?_
              refine wp_seq ?_
              refine wp_region_L (W0 := W6) ((g64, .cells (sltC fy).toArray 34 (0, 0)) :: (g61, .cells (curg61.setIfInBounds (0 + k * 1) (.int .u8 ((b.toNat : Nat) : Int))) 5 frg61) :: (g47, .stringIter ⟨nm.toArray⟩ (k + 1)) :: Kl42) (hW76) ?_
              refine lm (v := .bool false) rfl rfl ?_
              refine lm (v := .bool true) rfl rfl ?_
              refine lm (v := .bool true) rfl rfl ?_
              refine lm (v := .int .i64 ((fe : Nat) : Int)) rfl rfl ?_
              refine lp (v := .bool (!(decide (fe = 80)))) rfl rfl (run_bin rfl (vx := (.int .i64 ((fe : Nat) : Int))) (vy := (.int .i64 ((80 : Nat) : Int))) (by kernel_rfl) (by kernel_rfl) fun w => bn_neq rfl w) ?_
              refine lm (v := .bool (!(decide (fe = 80)))) rfl rfl ?_
              refine lm (v := .bool (!(decide (fe = 80)))) rfl rfl ?_
              cases hd21 : (decide (fe = 80)) with
              | false =>
                have h21 : ¬ (fe = 80) := of_decide_eq_false hd21
                clear hd21
                exact absurd (hfp (place_dg hset (nodg_lo h14))) h21
              | true =>
                have h21 : fe = 80 := of_decide_eq_true hd21
                clear hd21
                refine lm (v := .int .i64 ((fe : Nat) : Int)) rfl rfl ?_
                refine lp (v := .bool (!(decide (fe = 0)))) rfl rfl (run_bin rfl (vx := (.int .i64 ((fe : Nat) : Int))) (vy := (.int .i64 ((0 : Nat) : Int))) (by kernel_rfl) (by kernel_rfl) fun w => bn_neq rfl w) ?_
                refine lm (v := .bool (!(decide (fe = 0)))) rfl rfl ?_
                cases hd22 : (decide (fe = 0)) with
                | false =>
                  have h22 : ¬ (fe = 0) := of_decide_eq_false hd22
                  clear hd22
                  refine lv (v := .agg (sltC fy).toArray) rfl rfl (yb_load (n := 3) (off := 0) rfl (by kernel_rfl) (.head _) Tryd.underlying34 rfl (by kernel_rfl) (by first | (simp [Value.cells]; done) | exact Nat.le_of_ble_eq_true rfl) (by kernel_rfl)) ?_
                  refine lm (v := .agg #[.int .i64 0, .int .i64 0, .int .u8 0]) rfl rfl ?_
                  refine lp (v := .bool (!(eqS fy (⟨0, 0, 0⟩ : Slt)))) rfl rfl (run_bin rfl (vx := .agg (sltC fy).toArray) (vy := .agg (sltC (⟨0, 0, 0⟩ : Slt)).toArray) (by kernel_rfl) (by kernel_rfl) fun w => ne_slt w) ?_
                  refine lm (v := .bool (!(eqS fy (⟨0, 0, 0⟩ : Slt)))) rfl rfl ?_
                  refine lm (v := .bool (!(eqS fy (⟨0, 0, 0⟩ : Slt)))) rfl rfl ?_
                  refine wpL_done (fun W77 hW77 => ?_)
                  refine (show Code.wp _ _ _ _ _ from ?_)
                  cases h23 : (eqS fy (⟨0, 0, 0⟩ : Slt)) with
                  | false =>
                    exact absurd (show (eqS fy (⟨0, 0, 0⟩ : Slt)) = true from by rcases hfc with ⟨h, _⟩ | ⟨_, h⟩; exact absurd h h22; rw [h]; rfl) (by rw [h23]; decide)
                  | true =>
                    refine wp_cond_false rfl ?_
                    refine wp_skip ?_
                    refine (show Code.wp _ _ _ _ _ from ?_)
                    refine wp_seq ?_
                    refine wp_region_L (W0 := W6) ((g64, .cells (sltC fy).toArray 34 (0, 0)) :: (g61, .cells (curg61.setIfInBounds (0 + k * 1) (.int .u8 ((b.toNat : Nat) : Int))) 5 frg61) :: (g47, .stringIter ⟨nm.toArray⟩ (k + 1)) :: Kl42) (hW77) ?_
                    refine lv (v := .agg (shC (.slice pcS cs.length ccS) (.slice poS osS.length coS) tl0).toArray) rfl rfl (yb_rs (off := 0) (cs := _) rfl (by kernel_rfl) (fun W hW => ((HGZ.out).keep hW.1).2) Tryd.underlying32 rfl (by kernel_rfl)) ?_
                    refine lv (v := .agg (sltC fy).toArray) rfl rfl (yb_load (n := 3) (off := 0) rfl (by kernel_rfl) (.head _) Tryd.underlying34 rfl (by kernel_rfl) (by first | (simp [Value.cells]; done) | exact Nat.le_of_ble_eq_true rfl) (by kernel_rfl)) ?_
                    refine lv (v := .tuple #[strV ((nameR cs osS fy).1), .int .i64 ((((nameR cs osS fy).2) : Nat) : Int)]) rfl rfl (yb_call (f := 29) (args := #[.agg (shC (.slice pcS cs.length ccS) (.slice poS osS.length coS) tl0).toArray, .agg (sltC fy).toArray]) (fun _ => by kernel_rfl) fun W hW => SName_any cs pcS ccS (by omega) osS poS coS (by omega) tl0 fy.col fy.tier fy.half W ((RL.base HCZ.out) _ (hW.sub (fun _ h => by cases h))) ((RL.base HOZ.out) _ (hW.sub (fun _ h => by cases h))) (HRZ.out.keep hW.1) lrS ((good_plugs hg).1 W) (good_plugs hg).2 (HE.out.keep (hbZ.trans (hW.1.mono hbZ.size)))) ?_
                    refine lm (v := .tuple #[strV ((nameR cs osS fy).1), .int .i64 ((((nameR cs osS fy).2) : Nat) : Int)]) rfl rfl ?_
                    refine lm (v := strV ((nameR cs osS fy).1)) rfl rfl ?_
                    refine lm (v := .int .i64 ((((nameR cs osS fy).2) : Nat) : Int)) rfl rfl ?_
                    refine lm (v := strV ((nameR cs osS fy).1)) rfl rfl ?_
                    refine lm (v := .int .i64 ((((nameR cs osS fy).2) : Nat) : Int)) rfl rfl ?_
                    refine wpL_done (fun W78 hW78 => ?_)
                    refine (show Code.wp _ _ _ _ _ from ?_)
                    refine wp_seq ?_
                    refine wp_region_L (W0 := W6) ((g64, .cells (sltC fy).toArray 34 (0, 0)) :: (g61, .cells (curg61.setIfInBounds (0 + k * 1) (.int .u8 ((b.toNat : Nat) : Int))) 5 frg61) :: (g47, .stringIter ⟨nm.toArray⟩ (k + 1)) :: Kl42) (hW78) ?_
                    refine lm (v := .int .i64 ((fe : Nat) : Int)) rfl rfl ?_
                    refine lp (v := .bool false) rfl rfl (run_bin rfl (vx := (.int .i64 ((fe : Nat) : Int))) (vy := (.int .i64 ((0 : Nat) : Int))) (by kernel_rfl) (by kernel_rfl) fun w => bn_eql (decide_eq_false (by assumption)) w) ?_
                    refine lm (v := .bool false) rfl rfl ?_
                    refine ln rfl ?_
                    refine ln rfl ?_
                    refine ln rfl ?_
                    refine ln rfl ?_
                    refine ln rfl ?_
                    refine ln rfl ?_
                    refine ln rfl ?_
                    refine ln rfl ?_
                    refine lm (v := .bool false) rfl rfl ?_
                    refine wpL_done (fun W79 hW79 => ?_)
                    refine (show Code.wp _ _ _ _ _ from ?_)
                    refine wp_cond_false rfl ?_
                    refine wp_skip ?_
                    go_roundw
                    case rel =>
                      repeat apply Exists.intro
                      exact ⟨⟨(k + 1), (by omega), (hW79.sub (fun p hp => by first | exact hp | (simp only [List.mem_cons, List.mem_append, List.nil_append, List.not_mem_nil, or_assoc, or_false, false_or] at hp ⊢ <;> grind)))⟩, rfl⟩
                    case measure => have e1 := iterPos_of (hL53.2 _ (.head _)); have e2 := iterPos_of (hW79.2 _ (.tail _ (.tail _ (.head _)))); rw [e1, e2]; omega
                | true =>
                  have h22 : fe = 0 := of_decide_eq_true hd22
                  clear hd22
                  omega
    · refine stepV_nsx (fun g => .slice (some ⟨g, 0, none⟩) 1 1) (i := 8) (obi := .cells (colC y7).toArray 65 (0, 0)) rfl rfl rfl (fun _ => by kernel_rfl) (fun _ => by simp only [List.setIfInBounds_toArray, List.set_cons_succ, List.set_cons_zero] <;> rfl) fun g66 Bg66 Fg66 => ?_
      obtain dj67_0 : g6 ≠ g66 := by simpa only [dj_app_l, dj_app_r, dj_cons_l, dj_cons_r, dj_nil_l, dj_nil_r, dk_app, dk_cons, dk_nil, and_true, true_and, and_assoc] using (show Dk g66 [(g6, .cells (shC (.slice pcS cs.length ccS) (.slice poS osS.length coS) tl0).toArray 32 (0, 0))] from Fg66)
      refine wpV_ns (fun g => .slice (some ⟨g, 0, none⟩) 0 0) (i := 0) (obi := .cells #[] 65 (0, 0)) rfl rfl rfl (by kernel_rfl) (fun _ => by kernel_rfl) (fun _ => by simp only [List.setIfInBounds_toArray, List.set_cons_succ, List.set_cons_zero] <;> rfl) fun g68 Bg68 Fg68 => ?_
      obtain ⟨dj69_0, dj69_1⟩ : g66 ≠ g68 ∧ g6 ≠ g68 := by simpa only [dj_app_l, dj_app_r, dj_cons_l, dj_cons_r, dj_nil_l, dj_nil_r, dk_app, dk_cons, dk_nil, and_true, true_and, and_assoc] using (show Dk g68 [(g66, .cells (colC y7).toArray 65 (0, 0)), (g6, .cells (shC (.slice pcS cs.length ccS) (.slice poS osS.length coS) tl0).toArray 32 (0, 0))] from Fg68)
      refine wpV_g (AppO W6 65 12 [(g66, .cells (colC y7).toArray 65 (0, 0)), (g6, .cells (shC (.slice pcS cs.length ccS) (.slice poS osS.length coS) tl0).toArray 32 (0, 0))] (0 + cs.length) ((([] : List Col).flatMap colC) ++ (cs.flatMap colC))) (i := 3) rfl rfl rfl (by kernel_rfl) rfl (app_any el_col (m := cs.length) (news := (cs.flatMap colC)) (y := .slice pcS cs.length ccS) rfl (by kernel_rfl) (by kernel_rfl) (src_rl (c := ccS) Tryd.underlying22 colC_len colC_one (by decide) ((RL.base HCZ.out).mono (fun _ h => by cases h)) rfl) (own_rnone (cells := colC) Bg68) (fun p hp => by cases List.mem_singleton.1 hp; exact (.head _)) (fun p hp => ⟨by simp only [List.mem_cons, List.mem_append, List.nil_append, List.not_mem_nil, or_assoc, or_false, false_or] at hp ⊢ <;> grind, (show Dj [(g66, .cells (colC y7).toArray 65 (0, 0)), (g6, .cells (shC (.slice pcS cs.length ccS) (.slice poS osS.length coS) tl0).toArray 32 (0, 0))] [(g68, .cells #[] 65 (0, 0))] from (by (try simp only [dj_app_l, dj_app_r, dj_cons_l, dj_cons_r, dj_nil_l, dj_nil_r, dk_app, dk_cons, dk_nil, and_true, true_and, and_assoc]); repeat' (first | trivial | assumption | exact Dj.symm (by assumption) | exact Ne.symm (by assumption) | apply And.intro))) p hp⟩) (by omega) (by omega)) (fun _ => by simp only [List.setIfInBounds_toArray, List.set_cons_succ, List.set_cons_zero] <;> rfl) ?_
      rintro v70 K9 ⟨Kl70, O70, N70, rfl⟩
      obtain ⟨dj71_0, dj71_1⟩ : Dk g66 Kl70 ∧ Dk g6 Kl70 := by simpa only [dj_app_l, dj_app_r, dj_cons_l, dj_cons_r, dj_nil_l, dj_nil_r, dk_app, dk_cons, dk_nil, and_true, true_and, and_assoc] using (show Dj [(g66, .cells (colC y7).toArray 65 (0, 0)), (g6, .cells (shC (.slice pcS cs.length ccS) (.slice poS osS.length coS) tl0).toArray 32 (0, 0))] Kl70 from N70)
      refine (show wpV _ _ _ _ _ _ _ _ ((g66, .cells (colC y7).toArray 65 (0, 0)) :: (g6, .cells (shC (.slice pcS cs.length ccS) (.slice poS osS.length coS) tl0).toArray 32 (0, 0)) :: Kl70) from ?_)
      refine wpV_g (AppO W6 65 12 [(g6, .cells (shC (.slice pcS cs.length ccS) (.slice poS osS.length coS) tl0).toArray 32 (0, 0))] ((0 + cs.length) + 1) (((([] : List Col).flatMap colC) ++ (cs.flatMap colC)) ++ [.int .i64 y7.bay, .int .i64 y7.row, .bool y7.deck, .int .i64 y7.tiers, .int .i64 y7.height, .int .i64 y7.k20, .int .i64 y7.k40, .int .i64 y7.lash, .slice y7.pp y7.plugs.length y7.pc, .int .i64 y7.x, .int .i64 y7.y, .int .i64 y7.z])) (i := 9) rfl rfl rfl (by kernel_rfl) rfl (app_own el_col (m := 1) (c := 1) (news := [.int .i64 y7.bay, .int .i64 y7.row, .bool y7.deck, .int .i64 y7.tiers, .int .i64 y7.height, .int .i64 y7.k20, .int .i64 y7.k40, .int .i64 y7.lash, .slice y7.pp y7.plugs.length y7.pc, .int .i64 y7.x, .int .i64 y7.y, .int .i64 y7.z]) rfl (by kernel_rfl) (by kernel_rfl) (.head _) O70 (fun p hp => by simp only [List.mem_cons, List.mem_append, List.nil_append, List.not_mem_nil, or_assoc, or_false, false_or, hp, or_true, true_or]) (fun p hp => ⟨by simp only [List.mem_cons, List.mem_append, List.nil_append, List.not_mem_nil, or_assoc, or_false, false_or] at hp ⊢ <;> grind, (show Dj [(g6, .cells (shC (.slice pcS cs.length ccS) (.slice poS osS.length coS) tl0).toArray 32 (0, 0))] Kl70 from (by (try simp only [dj_app_l, dj_app_r, dj_cons_l, dj_cons_r, dj_nil_l, dj_nil_r, dk_app, dk_cons, dk_nil, and_true, true_and, and_assoc]); repeat' (first | trivial | assumption | exact Dj.symm (by assumption) | exact Ne.symm (by assumption) | apply And.intro))) p hp⟩) rfl (by simp [strV, Value.oneCell']) (by omega) (by omega) (by omega)) (fun _ => by simp only [List.setIfInBounds_toArray, List.set_cons_succ, List.set_cons_zero] <;> rfl) ?_
      rintro v72 K9 ⟨Kl72, O72, N72, rfl⟩
      obtain dj73_0 : Dk g6 Kl72 := by simpa only [dj_app_l, dj_app_r, dj_cons_l, dj_cons_r, dj_nil_l, dj_nil_r, dk_app, dk_cons, dk_nil, and_true, true_and, and_assoc] using (show Dj [(g6, .cells (shC (.slice pcS cs.length ccS) (.slice poS osS.length coS) tl0).toArray 32 (0, 0))] Kl72 from N72)
      refine vm (i := 10) (v := .pointer (some ⟨g6, 0, none⟩)) rfl rfl rfl ?_
      replace O72 := own_app (cells := colC) (l' := (cs ++ [y7])) O72 (by simp only [List.flatMap_append, List.flatMap_nil, List.nil_append, List.append_assoc, List.flatMap_cons, List.append_nil] <;> rfl) (by simp only [List.length_append, List.length_take, List.length_drop, List.length_nil, List.length_cons] <;> omega)
      obtain ⟨p74, c74, rfl, n74, R74⟩ := own_rl O72
      refine wpV_s ((g6, .cells (shC (.slice p74 ((cs ++ [y7]).length) c74) (.slice poS osS.length coS) tl0).toArray 32 (0, 0)) :: Kl72) (i := 11) rfl (by kernel_rfl) rfl rfl rfl (st_row (off := 0) (v := .slice p74 ((cs ++ [y7]).length) c74) rfl (by kernel_rfl) (by kernel_rfl) (.head _) Bg6 (by kernel_rfl) (by first | (simp [Value.cells]; done) | exact Nat.le_of_ble_eq_true rfl) (by intro v hv; simp [Value.cells] at hv; first | (subst hv; rfl) | (rcases hv with rfl <;> rfl)) (by kernel_rfl) (List.forall_mem_cons.2 ⟨.inl rfl, (fun p hp => .inr ⟨(.tail _ hp), ((show Dk g6 Kl72 from (by (try simp only [dj_app_l, dj_app_r, dj_cons_l, dj_cons_r, dj_nil_l, dj_nil_r, dk_app, dk_cons, dk_nil, and_true, true_and, and_assoc]); repeat' (first | trivial | assumption | exact Dj.symm (by assumption) | exact Ne.symm (by assumption) | apply And.intro))) _ hp)⟩)⟩)) ?_
      refine wpV_done (by kernel_rfl) (fun W80 hW80 => ?_) _
      refine (show Code.wp _ _ _ _ _ from ?_)
      refine wp_seq ?_
      refine wp_region_L (W0 := W6) ((g6, .cells (shC (.slice p74 ((cs ++ [y7]).length) c74) (.slice poS osS.length coS) tl0).toArray 32 (0, 0)) :: Kl72) (hW80) ?_
      refine lv (v := .agg (shC (.slice p74 ((cs ++ [y7]).length) c74) (.slice poS osS.length coS) tl0).toArray) rfl rfl (yb_load (n := 13) (off := 0) rfl (by kernel_rfl) (.head _) Tryd.underlying32 rfl (by kernel_rfl) (by first | (simp [Value.cells]; done) | exact Nat.le_of_ble_eq_true rfl) (by kernel_rfl)) ?_
      refine lv (v := .agg (sltC x).toArray) rfl rfl (yb_rs (off := 0) (cs := _) rfl (by kernel_rfl) (fun W hW => ((HG7.out).keep hW.1).2) Tryd.underlying34 rfl (by kernel_rfl)) ?_
      refine lv (v := .tuple #[strV [], .int .i64 2]) rfl rfl (yb_call (f := 29) (args := #[.agg (shC (.slice p74 ((cs ++ [y7]).length) c74) (.slice poS osS.length coS) tl0).toArray, .agg (sltC x).toArray]) (fun _ => by kernel_rfl) fun W hW => (by have h9 := SName_any (cs ++ [y7]) p74 c74 (by rw [List.length_append, List.length_singleton]; omega) osS poS coS (by omega) tl0 x.col x.tier x.half W (R74 _ (hW.sub (fun p hp => by simp only [List.mem_cons, List.mem_append, List.nil_append, List.not_mem_nil, or_assoc, or_false, false_or, hp, true_or, or_true]))) ((RL.base HOZ.out) _ (hW.sub (fun _ h => by cases h))) (HRZ.out.keep hW.1) lrS (HPB W) lpB (HE.out.keep (hbZ.trans (hW.1.mono hbZ.size))); rw [name_bad hbad] at h9; exact h9)) ?_
      refine lm (v := .tuple #[strV [], .int .i64 2]) rfl rfl ?_
      refine lm (v := strV []) rfl rfl ?_
      refine lm (v := .int .i64 2) rfl rfl ?_
      refine lm (v := strV []) rfl rfl ?_
      refine lm (v := .int .i64 2) rfl rfl ?_
      refine wpL_done (fun W81 hW81 => ?_)
      refine (show Code.wp _ _ _ _ _ from ?_)
      refine wp_seq ?_
      refine wp_region_L (W0 := W6) ((g6, .cells (shC (.slice p74 ((cs ++ [y7]).length) c74) (.slice poS osS.length coS) tl0).toArray 32 (0, 0)) :: Kl72) (hW81) ?_
      refine lv (v := .agg (shC (.slice p74 ((cs ++ [y7]).length) c74) (.slice poS osS.length coS) tl0).toArray) rfl rfl (yb_load (n := 13) (off := 0) rfl (by kernel_rfl) (.head _) Tryd.underlying32 rfl (by kernel_rfl) (by first | (simp [Value.cells]; done) | exact Nat.le_of_ble_eq_true rfl) (by kernel_rfl)) ?_
      refine lm (v := strV nm) rfl rfl ?_
      refine lv (v := .tuple #[.agg #[.int .i64 0, .int .i64 0, .int .u8 0], .int .i64 2]) rfl rfl (yb_call (f := 31) (args := #[.agg (shC (.slice p74 ((cs ++ [y7]).length) c74) (.slice poS osS.length coS) tl0).toArray, strV nm]) (fun _ => by kernel_rfl) fun W hW => (by have h9 := SFind_any (cs ++ [y7]) p74 c74 (by rw [List.length_append, List.length_singleton]; omega) osS poS coS (by omega) tl0 nm (by first | omega | (simp only [List.length_set, List.length_append, List.length_take, List.length_cons, List.length_nil]; omega)) W (R74 _ (hW.sub (fun p hp => by simp only [List.mem_cons, List.mem_append, List.nil_append, List.not_mem_nil, or_assoc, or_false, false_or, hp, true_or, or_true]))) ((RL.base HOZ.out) _ (hW.sub (fun _ h => by cases h))) (HRZ.out.keep hW.1) lrS (HPB W) lpB (HE.out.keep (hbZ.trans (hW.1.mono hbZ.size))); rw [find_bad hbad] at h9; exact h9)) ?_
      refine lm (v := .tuple #[.agg #[.int .i64 0, .int .i64 0, .int .u8 0], .int .i64 2]) rfl rfl ?_
      refine lm (v := .agg #[.int .i64 0, .int .i64 0, .int .u8 0]) rfl rfl ?_
      refine lm (v := .int .i64 2) rfl rfl ?_
      refine wpL_new (fun g => .pointer (some ⟨g, 0, none⟩)) (obi := .cells #[.int .i64 0, .int .i64 0, .int .u8 0] 34 (0, 0)) rfl rfl (fun _ => by kernel_rfl) (fun _ => by simp only [List.setIfInBounds_toArray, List.set_cons_succ, List.set_cons_zero] <;> rfl) fun g75 Bg75 Fg75 => ?_
      obtain ⟨dj76_0, dj76_1⟩ : g6 ≠ g75 ∧ Dk g75 Kl72 := by simpa only [dj_app_l, dj_app_r, dj_cons_l, dj_cons_r, dj_nil_l, dj_nil_r, dk_app, dk_cons, dk_nil, and_true, true_and, and_assoc] using (show Dk g75 ((g6, .cells (shC (.slice p74 ((cs ++ [y7]).length) c74) (.slice poS osS.length coS) tl0).toArray 32 (0, 0)) :: Kl72) from Fg75)
      refine wpL_s ((g75, .cells #[.int .i64 0, .int .i64 0, .int .u8 0] 34 (0, 0)) :: (g6, .cells (shC (.slice p74 ((cs ++ [y7]).length) c74) (.slice poS osS.length coS) tl0).toArray 32 (0, 0)) :: Kl72) rfl rfl (st_row (off := 0) (v := .agg #[.int .i64 0, .int .i64 0, .int .u8 0]) rfl (by kernel_rfl) (by kernel_rfl) (.head _) Bg75 (by kernel_rfl) (by first | (simp [Value.cells]; done) | exact Nat.le_of_ble_eq_true rfl) (by intro v hv; simp [Value.cells] at hv; first | (subst hv; rfl) | (rcases hv with rfl | rfl | rfl <;> rfl)) (by kernel_rfl) (List.forall_mem_cons.2 ⟨.inl rfl, (List.forall_mem_cons.2 ⟨.inr ⟨(.tail _ (.head _)), (by first | assumption | exact Ne.symm (by assumption))⟩, (fun p hp => .inr ⟨(.tail _ (.tail _ hp)), ((show Dk g75 Kl72 from (by (try simp only [dj_app_l, dj_app_r, dj_cons_l, dj_cons_r, dj_nil_l, dj_nil_r, dk_app, dk_cons, dk_nil, and_true, true_and, and_assoc]); repeat' (first | trivial | assumption | exact Dj.symm (by assumption) | exact Ne.symm (by assumption) | apply And.intro))) _ hp)⟩)⟩)⟩)) ?_
      refine lm (v := .int .i64 2) rfl rfl ?_
      refine wpL_done (fun W82 hW82 => ?_)
      refine (show Code.wp _ _ _ _ _ from ?_)
      refine wp_seq ?_
      refine wp_region_L (W0 := W6) ((g75, .cells #[.int .i64 0, .int .i64 0, .int .u8 0] 34 (0, 0)) :: (g6, .cells (shC (.slice p74 ((cs ++ [y7]).length) c74) (.slice poS osS.length coS) tl0).toArray 32 (0, 0)) :: Kl72) (hW82) ?_
      refine lv (v := .agg (shC (.slice pcS cs.length ccS) (.slice poS osS.length coS) tl0).toArray) rfl rfl (yb_rs (off := 0) (cs := _) rfl (by kernel_rfl) (fun W hW => ((HGZ.out).keep hW.1).2) Tryd.underlying32 rfl (by kernel_rfl)) ?_
      refine lm (v := .int .i64 v) rfl rfl ?_
      refine lm (v := .pointer (some ⟨g2, 0, none⟩)) rfl rfl ?_
      refine lv (v := .slice pcS cs.length ccS) rfl rfl (yb_rf (v := .slice pcS cs.length ccS) rfl (by kernel_rfl) (fun W hW => ((HGZ.out).keep hW.1).2 0 _ rfl) Tryd.underlying22 rfl) ?_
      refine lp (v := .int .i64 ((cs.length : Nat) : Int)) rfl rfl (run_lenL (p := pcS) (cap := ccS) (n := cs.length) rfl Tryd.underlying22 (by kernel_rfl)) ?_
      refine lp (v := .int .i64 (max v ((cs.length : Nat) : Int))) rfl rfl (run_max2 (x := v) (y := ((cs.length : Nat) : Int)) (z := (max v ((cs.length : Nat) : Int))) rfl (by kernel_rfl) (by kernel_rfl) rfl) ?_
      refine lm (v := .agg #[.int .i64 (max v ((cs.length : Nat) : Int)), .int .i64 0, .int .u8 0]) rfl rfl ?_
      refine lv (v := .tuple #[strV [], .int .i64 6]) rfl rfl (yb_call (f := 29) (args := #[.agg (shC (.slice pcS cs.length ccS) (.slice poS osS.length coS) tl0).toArray, .agg #[.int .i64 (max v ((cs.length : Nat) : Int)), .int .i64 0, .int .u8 0]]) (fun _ => by kernel_rfl) fun W hW => (by have h9 := SName_any cs pcS ccS (by omega) osS poS coS (by omega) tl0 (max v ((cs.length : Nat) : Int)) 0 0 W ((RL.base HCZ.out) _ (hW.sub (fun _ h => by cases h))) ((RL.base HOZ.out) _ (hW.sub (fun _ h => by cases h))) (HRZ.out.keep hW.1) lrS ((good_plugs hg).1 W) (good_plugs hg).2 (HE.out.keep (hbZ.trans (hW.1.mono hbZ.size))); rw [name_none hr (is_noex (x := (⟨(max v ((cs.length : Nat) : Int)), 0, 0⟩ : Slt)) (ex_nocol (by simp only; omega)))] at h9; exact h9)) ?_
      refine lm (v := .tuple #[strV [], .int .i64 6]) rfl rfl ?_
      refine lm (v := strV []) rfl rfl ?_
      refine lm (v := .int .i64 6) rfl rfl ?_
      refine lm (v := strV []) rfl rfl ?_
      refine lm (v := .int .i64 6) rfl rfl ?_
      refine wpL_done (fun W83 hW83 => ?_)
      refine (show Code.wp _ _ _ _ _ from ?_)
      refine wp_seq ?_
      refine wp_region_L (W0 := W6) ((g75, .cells #[.int .i64 0, .int .i64 0, .int .u8 0] 34 (0, 0)) :: (g6, .cells (shC (.slice p74 ((cs ++ [y7]).length) c74) (.slice poS osS.length coS) tl0).toArray 32 (0, 0)) :: Kl72) (hW83) ?_
      refine lv (v := .agg (shC (.slice pcS cs.length ccS) (.slice poS osS.length coS) tl0).toArray) rfl rfl (yb_rs (off := 0) (cs := _) rfl (by kernel_rfl) (fun W hW => ((HGZ.out).keep hW.1).2) Tryd.underlying32 rfl (by kernel_rfl)) ?_
      refine lm (v := .int .i64 v) rfl rfl ?_
      refine lp (v := .int .i64 (min v (-1))) rfl rfl (run_min2 (x := v) (y := (-1)) (z := (min v (-1))) rfl (by kernel_rfl) (by kernel_rfl) rfl) ?_
      refine lm (v := .agg #[.int .i64 (min v (-1)), .int .i64 0, .int .u8 0]) rfl rfl ?_
      refine lv (v := .tuple #[strV [], .int .i64 6]) rfl rfl (yb_call (f := 29) (args := #[.agg (shC (.slice pcS cs.length ccS) (.slice poS osS.length coS) tl0).toArray, .agg #[.int .i64 (min v (-1)), .int .i64 0, .int .u8 0]]) (fun _ => by kernel_rfl) fun W hW => (by have h9 := SName_any cs pcS ccS (by omega) osS poS coS (by omega) tl0 (min v (-1)) 0 0 W ((RL.base HCZ.out) _ (hW.sub (fun _ h => by cases h))) ((RL.base HOZ.out) _ (hW.sub (fun _ h => by cases h))) (HRZ.out.keep hW.1) lrS ((good_plugs hg).1 W) (good_plugs hg).2 (HE.out.keep (hbZ.trans (hW.1.mono hbZ.size))); rw [name_none hr (is_noex (x := (⟨(min v (-1)), 0, 0⟩ : Slt)) (ex_nocol (by simp only; omega)))] at h9; exact h9)) ?_
      refine lm (v := .tuple #[strV [], .int .i64 6]) rfl rfl ?_
      refine lm (v := strV []) rfl rfl ?_
      refine lm (v := .int .i64 6) rfl rfl ?_
      refine lm (v := strV []) rfl rfl ?_
      refine lm (v := .int .i64 6) rfl rfl ?_
      refine wpL_done (fun W84 hW84 => ?_)
      refine (show Code.wp _ _ _ _ _ from ?_)
      refine wp_seq ?_
      refine wp_region_L (W0 := W6) ((g75, .cells #[.int .i64 0, .int .i64 0, .int .u8 0] 34 (0, 0)) :: (g6, .cells (shC (.slice p74 ((cs ++ [y7]).length) c74) (.slice poS osS.length coS) tl0).toArray 32 (0, 0)) :: Kl72) (hW84) ?_
      refine lv (v := .agg (shC (.slice pcS cs.length ccS) (.slice poS osS.length coS) tl0).toArray) rfl rfl (yb_rs (off := 0) (cs := _) rfl (by kernel_rfl) (fun W hW => ((HGZ.out).keep hW.1).2) Tryd.underlying32 rfl (by kernel_rfl)) ?_
      refine lm (v := .int .i64 v) rfl rfl ?_
      refine lp (v := .int .i64 (max v 10)) rfl rfl (run_max2 (x := v) (y := 10) (z := (max v 10)) rfl (by kernel_rfl) (by kernel_rfl) rfl) ?_
      refine lm (v := .agg #[.int .i64 0, .int .i64 (max v 10), .int .u8 0]) rfl rfl ?_
      refine lv (v := .tuple #[strV [], .int .i64 6]) rfl rfl (yb_call (f := 29) (args := #[.agg (shC (.slice pcS cs.length ccS) (.slice poS osS.length coS) tl0).toArray, .agg #[.int .i64 0, .int .i64 (max v 10), .int .u8 0]]) (fun _ => by kernel_rfl) fun W hW => (by have h9 := SName_any cs pcS ccS (by omega) osS poS coS (by omega) tl0 0 (max v 10) 0 W ((RL.base HCZ.out) _ (hW.sub (fun _ h => by cases h))) ((RL.base HOZ.out) _ (hW.sub (fun _ h => by cases h))) (HRZ.out.keep hW.1) lrS ((good_plugs hg).1 W) (good_plugs hg).2 (HE.out.keep (hbZ.trans (hW.1.mono hbZ.size))); rw [name_none hr (is_noex (x := (⟨0, (max v 10), 0⟩ : Slt)) (ex_notier (fun c hc => (hct c hc).1) (by simp only; omega)))] at h9; exact h9)) ?_
      refine lm (v := .tuple #[strV [], .int .i64 6]) rfl rfl ?_
      refine lm (v := strV []) rfl rfl ?_
      refine lm (v := .int .i64 6) rfl rfl ?_
      refine lm (v := strV []) rfl rfl ?_
      refine lm (v := .int .i64 6) rfl rfl ?_
      refine wpL_done (fun W85 hW85 => ?_)
      refine (show Code.wp _ _ _ _ _ from ?_)
      refine wp_seq ?_
      refine wp_region_L (W0 := W6) ((g75, .cells #[.int .i64 0, .int .i64 0, .int .u8 0] 34 (0, 0)) :: (g6, .cells (shC (.slice p74 ((cs ++ [y7]).length) c74) (.slice poS osS.length coS) tl0).toArray 32 (0, 0)) :: Kl72) (hW85) ?_
      refine lv (v := .agg (shC (.slice pcS cs.length ccS) (.slice poS osS.length coS) tl0).toArray) rfl rfl (yb_rs (off := 0) (cs := _) rfl (by kernel_rfl) (fun W hW => ((HGZ.out).keep hW.1).2) Tryd.underlying32 rfl (by kernel_rfl)) ?_
      refine lm (v := .pointer (some ⟨g1, 2, none⟩)) rfl rfl ?_
      refine lv (v := .int .u8 ((x.half : Nat) : Int)) rfl rfl (yb_rf (v := .int .u8 ((x.half : Nat) : Int)) rfl (by kernel_rfl) (fun W hW => ((HG7.out).keep hW.1).2 2 _ rfl) Tryd.underlying5 rfl) ?_
      refine lp (v := .int .u8 (((x.half % 253) : Nat) : Int)) rfl rfl (run_bin rfl (vx := (.int .u8 ((x.half : Nat) : Int))) (vy := (.int .u8 ((253 : Nat) : Int))) (by kernel_rfl) (by kernel_rfl) fun w => bn_rem (z := (x.half % 253)) rfl (by omega) w) ?_
      refine lp (v := .int .u8 (((3 + (x.half % 253)) : Nat) : Int)) rfl rfl (run_bin rfl (vx := (.int .u8 ((3 : Nat) : Int))) (vy := (.int .u8 (((x.half % 253) : Nat) : Int))) (by kernel_rfl) (by kernel_rfl) fun w => bn_add (z := (3 + (x.half % 253))) rfl (wr_u8 (by omega)) w) ?_
      refine lm (v := .agg #[.int .i64 0, .int .i64 0, .int .u8 (((3 + (x.half % 253)) : Nat) : Int)]) rfl rfl ?_
      refine lv (v := .tuple #[strV [], .int .i64 6]) rfl rfl (yb_call (f := 29) (args := #[.agg (shC (.slice pcS cs.length ccS) (.slice poS osS.length coS) tl0).toArray, .agg #[.int .i64 0, .int .i64 0, .int .u8 (((3 + (x.half % 253)) : Nat) : Int)]]) (fun _ => by kernel_rfl) fun W hW => (by have h9 := SName_any cs pcS ccS (by omega) osS poS coS (by omega) tl0 0 0 (3 + (x.half % 253)) W ((RL.base HCZ.out) _ (hW.sub (fun _ h => by cases h))) ((RL.base HOZ.out) _ (hW.sub (fun _ h => by cases h))) (HRZ.out.keep hW.1) lrS ((good_plugs hg).1 W) (good_plugs hg).2 (HE.out.keep (hbZ.trans (hW.1.mono hbZ.size))); rw [name_none hr (is_nohalf (x := (⟨0, 0, (3 + (x.half % 253))⟩ : Slt)) (by simp only; omega))] at h9; exact h9)) ?_
      refine lm (v := .tuple #[strV [], .int .i64 6]) rfl rfl ?_
      refine lm (v := strV []) rfl rfl ?_
      refine lm (v := .int .i64 6) rfl rfl ?_
      refine lm (v := strV []) rfl rfl ?_
      refine lm (v := .int .i64 6) rfl rfl ?_
      refine wpL_done (fun W86 hW86 => ?_)
      refine (show Code.wp _ _ _ _ _ from ?_)
      refine wp_seq ?_
      refine wp_seq ?_
      refine wp_region_L (W0 := W6) ((g75, .cells #[.int .i64 0, .int .i64 0, .int .u8 0] 34 (0, 0)) :: (g6, .cells (shC (.slice p74 ((cs ++ [y7]).length) c74) (.slice poS osS.length coS) tl0).toArray 32 (0, 0)) :: Kl72) (hW86) ?_
      refine lm (v := .int .i64 2) rfl rfl ?_
      refine lm (v := .bool false) rfl rfl ?_
      refine lm (v := .bool false) rfl rfl ?_
      refine lm (v := .int .i64 2) rfl rfl ?_
      refine lm (v := .bool false) rfl rfl ?_
      refine lm (v := .bool false) rfl rfl ?_
      refine lm (v := .bool false) rfl rfl ?_
      refine lm (v := .int .i64 6) rfl rfl ?_
      refine lm (v := .bool false) rfl rfl ?_
      refine lm (v := .bool false) rfl rfl ?_
      refine lm (v := .bool false) rfl rfl ?_
      refine lm (v := .int .i64 6) rfl rfl ?_
      refine lm (v := .bool false) rfl rfl ?_
      refine lm (v := .bool false) rfl rfl ?_
      refine lm (v := .bool false) rfl rfl ?_
      refine lm (v := .int .i64 6) rfl rfl ?_
      refine lm (v := .bool false) rfl rfl ?_
      refine lm (v := .bool false) rfl rfl ?_
      refine lm (v := .bool false) rfl rfl ?_
      refine lm (v := .int .i64 6) rfl rfl ?_
      refine lm (v := .bool false) rfl rfl ?_
      refine lm (v := .bool false) rfl rfl ?_
      refine wpL_done (fun W87 hW87 => ?_)
      refine (show Code.wp _ _ _ _ _ from ?_)
      refine wp_cond_false rfl ?_
      refine wp_skip ?_
      refine (show Code.wp _ _ _ _ _ from ?_)
      refine wp_seq ?_
      refine wp_seq ?_
      refine wp_region_L (W0 := W6) ((g75, .cells #[.int .i64 0, .int .i64 0, .int .u8 0] 34 (0, 0)) :: (g6, .cells (shC (.slice p74 ((cs ++ [y7]).length) c74) (.slice poS osS.length coS) tl0).toArray 32 (0, 0)) :: Kl72) (hW87) ?_
      refine lm (v := strV nm) rfl rfl ?_
      refine wpL_new (fun g => .pointer (some ⟨g, 0, none⟩)) (obi := .stringIter ⟨nm.toArray⟩ 0) rfl rfl (rg_str (l := nm) rfl Tryd.underlying9 (by kernel_rfl)) (fun _ => by simp only [List.setIfInBounds_toArray, List.set_cons_succ, List.set_cons_zero] <;> rfl) fun g77 Bg77 Fg77 => ?_
      obtain ⟨dj78_0, dj78_1, dj78_2⟩ : g75 ≠ g77 ∧ g6 ≠ g77 ∧ Dk g77 Kl72 := by simpa only [dj_app_l, dj_app_r, dj_cons_l, dj_cons_r, dj_nil_l, dj_nil_r, dk_app, dk_cons, dk_nil, and_true, true_and, and_assoc] using (show Dk g77 ((g75, .cells #[.int .i64 0, .int .i64 0, .int .u8 0] 34 (0, 0)) :: (g6, .cells (shC (.slice p74 ((cs ++ [y7]).length) c74) (.slice poS osS.length coS) tl0).toArray 32 (0, 0)) :: Kl72) from Fg77)
      refine wpL_done (fun W88 hW88 => ?_)
      refine (show Code.wp _ _ _ _ _ from ?_)
      refine wp_block ?_
      go_loopw [] (fun  wr => ∃ (k : Nat), (k ≤ nm.length) ∧ KS W6 ((g77, .stringIter ⟨nm.toArray⟩ k) :: Kl72) wr) (fun  wz => nm.length - World.iterPos wz g77)
      case atStart => exact ⟨0, (Nat.zero_le _), (hW88.sub (fun p hp => by first | exact hp | (simp only [List.mem_cons, List.mem_append, List.nil_append, List.not_mem_nil, or_assoc, or_false, false_or] at hp ⊢ <;> grind)))⟩
      case round =>
        obtain ⟨k, hk, hL89⟩ := hrel
        refine wp_seq ?_
        refine wp_region_L (W0 := W6) ((g77, .stringIter ⟨nm.toArray⟩ k) :: Kl72) (hL89) ?_
        cases hd24 : (decide (k < nm.length)) with
        | false =>
          have h24 : ¬ (k < nm.length) := of_decide_eq_false hd24
          clear hd24
          refine lv (v := .tuple #[.bool false]) rfl rfl (nx_end (l := nm) (k := k) rfl (by kernel_rfl) (.head _) h24) ?_
          refine lm (v := .bool false) rfl rfl ?_
          refine wpL_done (fun W90 hW90 => ?_)
          refine (show Code.wp _ _ _ _ _ from ?_)
          refine wp_seq ?_
          refine wp_cond_false rfl ?_
          refine wp_exit ?_
          refine (show Code.wp _ _ _ _ _ from ?_)
          refine wp_seq ?_
          refine wp_region_L (W0 := W6) ((g77, .stringIter ⟨nm.toArray⟩ k) :: Kl72) (hW90) ?_
          refine lv (v := .agg (shC (.slice pcS cs.length ccS) (.slice poS osS.length coS) tl0).toArray) rfl rfl (yb_rs (off := 0) (cs := _) rfl (by kernel_rfl) (fun W hW => ((HGZ.out).keep hW.1).2) Tryd.underlying32 rfl (by kernel_rfl)) ?_
          refine lm (v := strV nm) rfl rfl ?_
          refine lp (v := strV (nm ++ [48])) rfl rfl (run_bin rfl (vx := strV nm) (vy := strV [48]) (by kernel_rfl) (by kernel_rfl) fun w => bs_add (c := (nm ++ [48])) rfl (by first | omega | (simp; omega)) w) ?_
          refine lv (v := .tuple #[.agg #[.int .i64 0, .int .i64 0, .int .u8 0], .int .i64 80]) rfl rfl (yb_call (f := 31) (args := #[.agg (shC (.slice pcS cs.length ccS) (.slice poS osS.length coS) tl0).toArray, strV (nm ++ [48])]) (fun _ => by kernel_rfl) fun W hW => (by have h9 := SFind_any cs pcS ccS (by omega) osS poS coS (by omega) tl0 (nm ++ [48]) (by first | omega | (simp only [List.length_set, List.length_append, List.length_take, List.length_cons, List.length_nil]; omega)) W ((RL.base HCZ.out) _ (hW.sub (fun _ h => by cases h))) ((RL.base HOZ.out) _ (hW.sub (fun _ h => by cases h))) (HRZ.out.keep hW.1) lrS ((good_plugs hg).1 W) (good_plugs hg).2 (HE.out.keep (hbZ.trans (hW.1.mono hbZ.size))); rw [find_no hr (place_len (l := (nm ++ [48])) (by simp only [List.length_append, List.length_take, List.length_cons, List.length_nil]; omega))] at h9; exact h9)) ?_
          refine lm (v := .tuple #[.agg #[.int .i64 0, .int .i64 0, .int .u8 0], .int .i64 80]) rfl rfl ?_
          refine lm (v := .agg #[.int .i64 0, .int .i64 0, .int .u8 0]) rfl rfl ?_
          refine lm (v := .int .i64 80) rfl rfl ?_
          refine wpL_new (fun g => .pointer (some ⟨g, 0, none⟩)) (obi := .cells #[.int .i64 0, .int .i64 0, .int .u8 0] 34 (0, 0)) rfl rfl (fun _ => by kernel_rfl) (fun _ => by simp only [List.setIfInBounds_toArray, List.set_cons_succ, List.set_cons_zero] <;> rfl) fun g79 Bg79 Fg79 => ?_
          obtain ⟨dj80_0, dj80_1⟩ : g77 ≠ g79 ∧ Dk g79 Kl72 := by simpa only [dj_app_l, dj_app_r, dj_cons_l, dj_cons_r, dj_nil_l, dj_nil_r, dk_app, dk_cons, dk_nil, and_true, true_and, and_assoc] using (show Dk g79 ((g77, .stringIter ⟨nm.toArray⟩ k) :: Kl72) from Fg79)
          refine wpL_s ((g79, .cells #[.int .i64 0, .int .i64 0, .int .u8 0] 34 (0, 0)) :: (g77, .stringIter ⟨nm.toArray⟩ k) :: Kl72) rfl rfl (st_row (off := 0) (v := .agg #[.int .i64 0, .int .i64 0, .int .u8 0]) rfl (by kernel_rfl) (by kernel_rfl) (.head _) Bg79 (by kernel_rfl) (by first | (simp [Value.cells]; done) | exact Nat.le_of_ble_eq_true rfl) (by intro v hv; simp [Value.cells] at hv; first | (subst hv; rfl) | (rcases hv with rfl | rfl | rfl <;> rfl)) (by kernel_rfl) (List.forall_mem_cons.2 ⟨.inl rfl, (List.forall_mem_cons.2 ⟨.inr ⟨(.tail _ (.head _)), (by first | assumption | exact Ne.symm (by assumption))⟩, (fun p hp => .inr ⟨(.tail _ (.tail _ hp)), ((show Dk g79 Kl72 from (by (try simp only [dj_app_l, dj_app_r, dj_cons_l, dj_cons_r, dj_nil_l, dj_nil_r, dk_app, dk_cons, dk_nil, and_true, true_and, and_assoc]); repeat' (first | trivial | assumption | exact Dj.symm (by assumption) | exact Ne.symm (by assumption) | apply And.intro))) _ hp)⟩)⟩)⟩)) ?_
          refine lm (v := .int .i64 80) rfl rfl ?_
          refine wpL_done (fun W91 hW91 => ?_)
          refine (show Code.wp _ _ _ _ _ from ?_)
          refine wp_seq ?_
          refine wp_region_V (W0 := W6) ((g79, .cells #[.int .i64 0, .int .i64 0, .int .u8 0] 34 (0, 0)) :: (g77, .stringIter ⟨nm.toArray⟩ k) :: Kl72) (by kernel_rfl) (hW91) ?_
          refine vb (i := 0) (v := .agg (shC (.slice pcS cs.length ccS) (.slice poS osS.length coS) tl0).toArray) rfl rfl rfl (yb_rs (off := 0) (cs := _) rfl (by kernel_rfl) (fun W hW => ((HGZ.out).keep hW.1).2) Tryd.underlying32 rfl (by kernel_rfl)) ?_
          refine vm (i := 1) (v := strV nm) rfl rfl rfl ?_
          refine vp (i := 2) (v := strV (nm.take 6)) rfl rfl rfl (run_slH (k2 := .i64) (l := nm) (r := (nm.take 6)) (j := 6) rfl Tryd.underlying9 (by kernel_rfl) (by kernel_rfl) (by first | omega | (simp; omega)) rfl) ?_
          refine vv (i := 3) (v := .tuple #[.agg #[.int .i64 0, .int .i64 0, .int .u8 0], .int .i64 80]) rfl rfl rfl (yb_call (f := 31) (args := #[.agg (shC (.slice pcS cs.length ccS) (.slice poS osS.length coS) tl0).toArray, strV (nm.take 6)]) (fun _ => by kernel_rfl) fun W hW => (by have h9 := SFind_any cs pcS ccS (by omega) osS poS coS (by omega) tl0 (nm.take 6) (by first | omega | (simp only [List.length_set, List.length_append, List.length_take, List.length_cons, List.length_nil]; omega)) W ((RL.base HCZ.out) _ (hW.sub (fun _ h => by cases h))) ((RL.base HOZ.out) _ (hW.sub (fun _ h => by cases h))) (HRZ.out.keep hW.1) lrS ((good_plugs hg).1 W) (good_plugs hg).2 (HE.out.keep (hbZ.trans (hW.1.mono hbZ.size))); rw [find_no hr (place_len (l := (nm.take 6)) (by simp only [List.length_append, List.length_take, List.length_cons, List.length_nil]; omega))] at h9; exact h9)) ?_
          refine vm (i := 4) (v := .tuple #[.agg #[.int .i64 0, .int .i64 0, .int .u8 0], .int .i64 80]) rfl rfl rfl ?_
          refine vm (i := 5) (v := .agg #[.int .i64 0, .int .i64 0, .int .u8 0]) rfl rfl rfl ?_
          refine vm (i := 6) (v := .int .i64 80) rfl rfl rfl ?_
          refine wpV_ns (fun g => .pointer (some ⟨g, 0, none⟩)) (i := 7) (obi := .cells #[.int .i64 0, .int .i64 0, .int .u8 0] 34 (0, 0)) rfl rfl rfl (by kernel_rfl) (fun _ => by kernel_rfl) (fun _ => by simp only [List.setIfInBounds_toArray, List.set_cons_succ, List.set_cons_zero] <;> rfl) fun g81 Bg81 Fg81 => ?_
          obtain ⟨dj82_0, dj82_1, dj82_2⟩ : g79 ≠ g81 ∧ g77 ≠ g81 ∧ Dk g81 Kl72 := by simpa only [dj_app_l, dj_app_r, dj_cons_l, dj_cons_r, dj_nil_l, dj_nil_r, dk_app, dk_cons, dk_nil, and_true, true_and, and_assoc] using (show Dk g81 ((g79, .cells #[.int .i64 0, .int .i64 0, .int .u8 0] 34 (0, 0)) :: (g77, .stringIter ⟨nm.toArray⟩ k) :: Kl72) from Fg81)
          refine wpV_s ((g81, .cells #[.int .i64 0, .int .i64 0, .int .u8 0] 34 (0, 0)) :: (g79, .cells #[.int .i64 0, .int .i64 0, .int .u8 0] 34 (0, 0)) :: (g77, .stringIter ⟨nm.toArray⟩ k) :: Kl72) (i := 8) rfl (by kernel_rfl) rfl rfl rfl (st_row (off := 0) (v := .agg #[.int .i64 0, .int .i64 0, .int .u8 0]) rfl (by kernel_rfl) (by kernel_rfl) (.head _) Bg81 (by kernel_rfl) (by first | (simp [Value.cells]; done) | exact Nat.le_of_ble_eq_true rfl) (by intro v hv; simp [Value.cells] at hv; first | (subst hv; rfl) | (rcases hv with rfl | rfl | rfl <;> rfl)) (by kernel_rfl) (List.forall_mem_cons.2 ⟨.inl rfl, (List.forall_mem_cons.2 ⟨.inr ⟨(.tail _ (.head _)), (by first | assumption | exact Ne.symm (by assumption))⟩, (List.forall_mem_cons.2 ⟨.inr ⟨(.tail _ (.tail _ (.head _))), (by first | assumption | exact Ne.symm (by assumption))⟩, (fun p hp => .inr ⟨(.tail _ (.tail _ (.tail _ hp))), ((show Dk g81 Kl72 from (by (try simp only [dj_app_l, dj_app_r, dj_cons_l, dj_cons_r, dj_nil_l, dj_nil_r, dk_app, dk_cons, dk_nil, and_true, true_and, and_assoc]); repeat' (first | trivial | assumption | exact Dj.symm (by assumption) | exact Ne.symm (by assumption) | apply And.intro))) _ hp)⟩)⟩)⟩)⟩)) ?_
          refine vm (i := 9) (v := .int .i64 80) rfl rfl rfl ?_
          refine wpV_done (by kernel_rfl) (fun W92 hW92 => ?_) _
          refine (show Code.wp _ _ _ _ _ from ?_)
          refine wp_seq ?_
          refine wp_region_L (W0 := W6) ((g81, .cells #[.int .i64 0, .int .i64 0, .int .u8 0] 34 (0, 0)) :: (g79, .cells #[.int .i64 0, .int .i64 0, .int .u8 0] 34 (0, 0)) :: (g77, .stringIter ⟨nm.toArray⟩ k) :: Kl72) (hW92) ?_
          refine lv (v := .agg (shC (.slice pcS cs.length ccS) (.slice poS osS.length coS) tl0).toArray) rfl rfl (yb_rs (off := 0) (cs := _) rfl (by kernel_rfl) (fun W hW => ((HGZ.out).keep hW.1).2) Tryd.underlying32 rfl (by kernel_rfl)) ?_
          refine lv (v := .tuple #[.agg #[.int .i64 0, .int .i64 0, .int .u8 0], .int .i64 80]) rfl rfl (yb_call (f := 31) (args := #[.agg (shC (.slice pcS cs.length ccS) (.slice poS osS.length coS) tl0).toArray, strV [48, 48, 48, 48, 48, 48, 50]]) (fun _ => by kernel_rfl) fun W hW => (by have h9 := SFind_any cs pcS ccS (by omega) osS poS coS (by omega) tl0 [48, 48, 48, 48, 48, 48, 50] (by first | omega | (simp only [List.length_set, List.length_append, List.length_take, List.length_cons, List.length_nil]; omega)) W ((RL.base HCZ.out) _ (hW.sub (fun _ h => by cases h))) ((RL.base HOZ.out) _ (hW.sub (fun _ h => by cases h))) (HRZ.out.keep hW.1) lrS ((good_plugs hg).1 W) (good_plugs hg).2 (HE.out.keep (hbZ.trans (hW.1.mono hbZ.size))); rw [find_no hr (l := [48, 48, 48, 48, 48, 48, 50]) (by kernel_rfl)] at h9; exact h9)) ?_
          refine lm (v := .tuple #[.agg #[.int .i64 0, .int .i64 0, .int .u8 0], .int .i64 80]) rfl rfl ?_
          refine lm (v := .agg #[.int .i64 0, .int .i64 0, .int .u8 0]) rfl rfl ?_
          refine lm (v := .int .i64 80) rfl rfl ?_
          refine wpL_new (fun g => .pointer (some ⟨g, 0, none⟩)) (obi := .cells #[.int .i64 0, .int .i64 0, .int .u8 0] 34 (0, 0)) rfl rfl (fun _ => by kernel_rfl) (fun _ => by simp only [List.setIfInBounds_toArray, List.set_cons_succ, List.set_cons_zero] <;> rfl) fun g83 Bg83 Fg83 => ?_
          obtain ⟨dj84_0, dj84_1, dj84_2, dj84_3⟩ : g81 ≠ g83 ∧ g79 ≠ g83 ∧ g77 ≠ g83 ∧ Dk g83 Kl72 := by simpa only [dj_app_l, dj_app_r, dj_cons_l, dj_cons_r, dj_nil_l, dj_nil_r, dk_app, dk_cons, dk_nil, and_true, true_and, and_assoc] using (show Dk g83 ((g81, .cells #[.int .i64 0, .int .i64 0, .int .u8 0] 34 (0, 0)) :: (g79, .cells #[.int .i64 0, .int .i64 0, .int .u8 0] 34 (0, 0)) :: (g77, .stringIter ⟨nm.toArray⟩ k) :: Kl72) from Fg83)
          refine wpL_s ((g83, .cells #[.int .i64 0, .int .i64 0, .int .u8 0] 34 (0, 0)) :: (g81, .cells #[.int .i64 0, .int .i64 0, .int .u8 0] 34 (0, 0)) :: (g79, .cells #[.int .i64 0, .int .i64 0, .int .u8 0] 34 (0, 0)) :: (g77, .stringIter ⟨nm.toArray⟩ k) :: Kl72) rfl rfl (st_row (off := 0) (v := .agg #[.int .i64 0, .int .i64 0, .int .u8 0]) rfl (by kernel_rfl) (by kernel_rfl) (.head _) Bg83 (by kernel_rfl) (by first | (simp [Value.cells]; done) | exact Nat.le_of_ble_eq_true rfl) (by intro v hv; simp [Value.cells] at hv; first | (subst hv; rfl) | (rcases hv with rfl | rfl | rfl <;> rfl)) (by kernel_rfl) (List.forall_mem_cons.2 ⟨.inl rfl, (List.forall_mem_cons.2 ⟨.inr ⟨(.tail _ (.head _)), (by first | assumption | exact Ne.symm (by assumption))⟩, (List.forall_mem_cons.2 ⟨.inr ⟨(.tail _ (.tail _ (.head _))), (by first | assumption | exact Ne.symm (by assumption))⟩, (List.forall_mem_cons.2 ⟨.inr ⟨(.tail _ (.tail _ (.tail _ (.head _)))), (by first | assumption | exact Ne.symm (by assumption))⟩, (fun p hp => .inr ⟨(.tail _ (.tail _ (.tail _ (.tail _ hp)))), ((show Dk g83 Kl72 from (by (try simp only [dj_app_l, dj_app_r, dj_cons_l, dj_cons_r, dj_nil_l, dj_nil_r, dk_app, dk_cons, dk_nil, and_true, true_and, and_assoc]); repeat' (first | trivial | assumption | exact Dj.symm (by assumption) | exact Ne.symm (by assumption) | apply And.intro))) _ hp)⟩)⟩)⟩)⟩)⟩)) ?_
          refine lm (v := .int .i64 80) rfl rfl ?_
          refine wpL_done (fun W93 hW93 => ?_)
          refine (show Code.wp _ _ _ _ _ from ?_)
          refine wp_seq ?_
          refine wp_region_L (W0 := W6) ((g83, .cells #[.int .i64 0, .int .i64 0, .int .u8 0] 34 (0, 0)) :: (g81, .cells #[.int .i64 0, .int .i64 0, .int .u8 0] 34 (0, 0)) :: (g79, .cells #[.int .i64 0, .int .i64 0, .int .u8 0] 34 (0, 0)) :: (g77, .stringIter ⟨nm.toArray⟩ k) :: Kl72) (hW93) ?_
          refine lv (v := .agg (shC (.slice pcS cs.length ccS) (.slice poS osS.length coS) tl0).toArray) rfl rfl (yb_rs (off := 0) (cs := _) rfl (by kernel_rfl) (fun W hW => ((HGZ.out).keep hW.1).2) Tryd.underlying32 rfl (by kernel_rfl)) ?_
          refine lv (v := .tuple #[.agg #[.int .i64 0, .int .i64 0, .int .u8 0], .int .i64 80]) rfl rfl (yb_call (f := 31) (args := #[.agg (shC (.slice pcS cs.length ccS) (.slice poS osS.length coS) tl0).toArray, strV [48, 48, 49, 48, 48, 50, 50]]) (fun _ => by kernel_rfl) fun W hW => (by have h9 := SFind_any cs pcS ccS (by omega) osS poS coS (by omega) tl0 [48, 48, 49, 48, 48, 50, 50] (by first | omega | (simp only [List.length_set, List.length_append, List.length_take, List.length_cons, List.length_nil]; omega)) W ((RL.base HCZ.out) _ (hW.sub (fun _ h => by cases h))) ((RL.base HOZ.out) _ (hW.sub (fun _ h => by cases h))) (HRZ.out.keep hW.1) lrS ((good_plugs hg).1 W) (good_plugs hg).2 (HE.out.keep (hbZ.trans (hW.1.mono hbZ.size))); rw [find_no hr (l := [48, 48, 49, 48, 48, 50, 50]) (by kernel_rfl)] at h9; exact h9)) ?_
          refine lm (v := .tuple #[.agg #[.int .i64 0, .int .i64 0, .int .u8 0], .int .i64 80]) rfl rfl ?_
          refine lm (v := .agg #[.int .i64 0, .int .i64 0, .int .u8 0]) rfl rfl ?_
          refine lm (v := .int .i64 80) rfl rfl ?_
          refine wpL_new (fun g => .pointer (some ⟨g, 0, none⟩)) (obi := .cells #[.int .i64 0, .int .i64 0, .int .u8 0] 34 (0, 0)) rfl rfl (fun _ => by kernel_rfl) (fun _ => by simp only [List.setIfInBounds_toArray, List.set_cons_succ, List.set_cons_zero] <;> rfl) fun g85 Bg85 Fg85 => ?_
          obtain ⟨dj86_0, dj86_1, dj86_2, dj86_3, dj86_4⟩ : g83 ≠ g85 ∧ g81 ≠ g85 ∧ g79 ≠ g85 ∧ g77 ≠ g85 ∧ Dk g85 Kl72 := by simpa only [dj_app_l, dj_app_r, dj_cons_l, dj_cons_r, dj_nil_l, dj_nil_r, dk_app, dk_cons, dk_nil, and_true, true_and, and_assoc] using (show Dk g85 ((g83, .cells #[.int .i64 0, .int .i64 0, .int .u8 0] 34 (0, 0)) :: (g81, .cells #[.int .i64 0, .int .i64 0, .int .u8 0] 34 (0, 0)) :: (g79, .cells #[.int .i64 0, .int .i64 0, .int .u8 0] 34 (0, 0)) :: (g77, .stringIter ⟨nm.toArray⟩ k) :: Kl72) from Fg85)
          refine wpL_s ((g85, .cells #[.int .i64 0, .int .i64 0, .int .u8 0] 34 (0, 0)) :: (g83, .cells #[.int .i64 0, .int .i64 0, .int .u8 0] 34 (0, 0)) :: (g81, .cells #[.int .i64 0, .int .i64 0, .int .u8 0] 34 (0, 0)) :: (g79, .cells #[.int .i64 0, .int .i64 0, .int .u8 0] 34 (0, 0)) :: (g77, .stringIter ⟨nm.toArray⟩ k) :: Kl72) rfl rfl (st_row (off := 0) (v := .agg #[.int .i64 0, .int .i64 0, .int .u8 0]) rfl (by kernel_rfl) (by kernel_rfl) (.head _) Bg85 (by kernel_rfl) (by first | (simp [Value.cells]; done) | exact Nat.le_of_ble_eq_true rfl) (by intro v hv; simp [Value.cells] at hv; first | (subst hv; rfl) | (rcases hv with rfl | rfl | rfl <;> rfl)) (by kernel_rfl) (List.forall_mem_cons.2 ⟨.inl rfl, (List.forall_mem_cons.2 ⟨.inr ⟨(.tail _ (.head _)), (by first | assumption | exact Ne.symm (by assumption))⟩, (List.forall_mem_cons.2 ⟨.inr ⟨(.tail _ (.tail _ (.head _))), (by first | assumption | exact Ne.symm (by assumption))⟩, (List.forall_mem_cons.2 ⟨.inr ⟨(.tail _ (.tail _ (.tail _ (.head _)))), (by first | assumption | exact Ne.symm (by assumption))⟩, (List.forall_mem_cons.2 ⟨.inr ⟨(.tail _ (.tail _ (.tail _ (.tail _ (.head _))))), (by first | assumption | exact Ne.symm (by assumption))⟩, (fun p hp => .inr ⟨(.tail _ (.tail _ (.tail _ (.tail _ (.tail _ hp))))), ((show Dk g85 Kl72 from (by (try simp only [dj_app_l, dj_app_r, dj_cons_l, dj_cons_r, dj_nil_l, dj_nil_r, dk_app, dk_cons, dk_nil, and_true, true_and, and_assoc]); repeat' (first | trivial | assumption | exact Dj.symm (by assumption) | exact Ne.symm (by assumption) | apply And.intro))) _ hp)⟩)⟩)⟩)⟩)⟩)⟩)) ?_
          refine lm (v := .int .i64 80) rfl rfl ?_
          refine wpL_done (fun W94 hW94 => ?_)
          refine (show Code.wp _ _ _ _ _ from ?_)
          refine wp_seq ?_
          refine wp_region_L (W0 := W6) ((g85, .cells #[.int .i64 0, .int .i64 0, .int .u8 0] 34 (0, 0)) :: (g83, .cells #[.int .i64 0, .int .i64 0, .int .u8 0] 34 (0, 0)) :: (g81, .cells #[.int .i64 0, .int .i64 0, .int .u8 0] 34 (0, 0)) :: (g79, .cells #[.int .i64 0, .int .i64 0, .int .u8 0] 34 (0, 0)) :: (g77, .stringIter ⟨nm.toArray⟩ k) :: Kl72) (hW94) ?_
          refine lv (v := .agg (shC (.slice pcS cs.length ccS) (.slice poS osS.length coS) tl0).toArray) rfl rfl (yb_rs (off := 0) (cs := _) rfl (by kernel_rfl) (fun W hW => ((HGZ.out).keep hW.1).2) Tryd.underlying32 rfl (by kernel_rfl)) ?_
          refine lv (v := .tuple #[.agg #[.int .i64 0, .int .i64 0, .int .u8 0], .int .i64 80]) rfl rfl (yb_call (f := 31) (args := #[.agg (shC (.slice pcS cs.length ccS) (.slice poS osS.length coS) tl0).toArray, strV [48, 48, 49, 48, 48, 56, 48]]) (fun _ => by kernel_rfl) fun W hW => (by have h9 := SFind_any cs pcS ccS (by omega) osS poS coS (by omega) tl0 [48, 48, 49, 48, 48, 56, 48] (by first | omega | (simp only [List.length_set, List.length_append, List.length_take, List.length_cons, List.length_nil]; omega)) W ((RL.base HCZ.out) _ (hW.sub (fun _ h => by cases h))) ((RL.base HOZ.out) _ (hW.sub (fun _ h => by cases h))) (HRZ.out.keep hW.1) lrS ((good_plugs hg).1 W) (good_plugs hg).2 (HE.out.keep (hbZ.trans (hW.1.mono hbZ.size))); rw [find_no hr (l := [48, 48, 49, 48, 48, 56, 48]) (by kernel_rfl)] at h9; exact h9)) ?_
          refine lm (v := .tuple #[.agg #[.int .i64 0, .int .i64 0, .int .u8 0], .int .i64 80]) rfl rfl ?_
          refine lm (v := .agg #[.int .i64 0, .int .i64 0, .int .u8 0]) rfl rfl ?_
          refine lm (v := .int .i64 80) rfl rfl ?_
          refine wpL_new (fun g => .pointer (some ⟨g, 0, none⟩)) (obi := .cells #[.int .i64 0, .int .i64 0, .int .u8 0] 34 (0, 0)) rfl rfl (fun _ => by kernel_rfl) (fun _ => by simp only [List.setIfInBounds_toArray, List.set_cons_succ, List.set_cons_zero] <;> rfl) fun g87 Bg87 Fg87 => ?_
          obtain ⟨dj88_0, dj88_1, dj88_2, dj88_3, dj88_4, dj88_5⟩ : g85 ≠ g87 ∧ g83 ≠ g87 ∧ g81 ≠ g87 ∧ g79 ≠ g87 ∧ g77 ≠ g87 ∧ Dk g87 Kl72 := by simpa only [dj_app_l, dj_app_r, dj_cons_l, dj_cons_r, dj_nil_l, dj_nil_r, dk_app, dk_cons, dk_nil, and_true, true_and, and_assoc] using (show Dk g87 ((g85, .cells #[.int .i64 0, .int .i64 0, .int .u8 0] 34 (0, 0)) :: (g83, .cells #[.int .i64 0, .int .i64 0, .int .u8 0] 34 (0, 0)) :: (g81, .cells #[.int .i64 0, .int .i64 0, .int .u8 0] 34 (0, 0)) :: (g79, .cells #[.int .i64 0, .int .i64 0, .int .u8 0] 34 (0, 0)) :: (g77, .stringIter ⟨nm.toArray⟩ k) :: Kl72) from Fg87)
          refine wpL_s ((g87, .cells #[.int .i64 0, .int .i64 0, .int .u8 0] 34 (0, 0)) :: (g85, .cells #[.int .i64 0, .int .i64 0, .int .u8 0] 34 (0, 0)) :: (g83, .cells #[.int .i64 0, .int .i64 0, .int .u8 0] 34 (0, 0)) :: (g81, .cells #[.int .i64 0, .int .i64 0, .int .u8 0] 34 (0, 0)) :: (g79, .cells #[.int .i64 0, .int .i64 0, .int .u8 0] 34 (0, 0)) :: (g77, .stringIter ⟨nm.toArray⟩ k) :: Kl72) rfl rfl (st_row (off := 0) (v := .agg #[.int .i64 0, .int .i64 0, .int .u8 0]) rfl (by kernel_rfl) (by kernel_rfl) (.head _) Bg87 (by kernel_rfl) (by first | (simp [Value.cells]; done) | exact Nat.le_of_ble_eq_true rfl) (by intro v hv; simp [Value.cells] at hv; first | (subst hv; rfl) | (rcases hv with rfl | rfl | rfl <;> rfl)) (by kernel_rfl) (List.forall_mem_cons.2 ⟨.inl rfl, (List.forall_mem_cons.2 ⟨.inr ⟨(.tail _ (.head _)), (by first | assumption | exact Ne.symm (by assumption))⟩, (List.forall_mem_cons.2 ⟨.inr ⟨(.tail _ (.tail _ (.head _))), (by first | assumption | exact Ne.symm (by assumption))⟩, (List.forall_mem_cons.2 ⟨.inr ⟨(.tail _ (.tail _ (.tail _ (.head _)))), (by first | assumption | exact Ne.symm (by assumption))⟩, (List.forall_mem_cons.2 ⟨.inr ⟨(.tail _ (.tail _ (.tail _ (.tail _ (.head _))))), (by first | assumption | exact Ne.symm (by assumption))⟩, (List.forall_mem_cons.2 ⟨.inr ⟨(.tail _ (.tail _ (.tail _ (.tail _ (.tail _ (.head _)))))), (by first | assumption | exact Ne.symm (by assumption))⟩, (fun p hp => .inr ⟨(.tail _ (.tail _ (.tail _ (.tail _ (.tail _ (.tail _ hp)))))), ((show Dk g87 Kl72 from (by (try simp only [dj_app_l, dj_app_r, dj_cons_l, dj_cons_r, dj_nil_l, dj_nil_r, dk_app, dk_cons, dk_nil, and_true, true_and, and_assoc]); repeat' (first | trivial | assumption | exact Dj.symm (by assumption) | exact Ne.symm (by assumption) | apply And.intro))) _ hp)⟩)⟩)⟩)⟩)⟩)⟩)⟩)) ?_
          refine lm (v := .int .i64 80) rfl rfl ?_
          refine wpL_done (fun W95 hW95 => ?_)
          refine (show Code.wp _ _ _ _ _ from ?_)
          refine wp_seq ?_
          refine wp_region_L (W0 := W6) ((g87, .cells #[.int .i64 0, .int .i64 0, .int .u8 0] 34 (0, 0)) :: (g85, .cells #[.int .i64 0, .int .i64 0, .int .u8 0] 34 (0, 0)) :: (g83, .cells #[.int .i64 0, .int .i64 0, .int .u8 0] 34 (0, 0)) :: (g81, .cells #[.int .i64 0, .int .i64 0, .int .u8 0] 34 (0, 0)) :: (g79, .cells #[.int .i64 0, .int .i64 0, .int .u8 0] 34 (0, 0)) :: (g77, .stringIter ⟨nm.toArray⟩ k) :: Kl72) (hW95) ?_
          refine lm (v := .int .i64 80) rfl rfl ?_
          refine lm (v := .bool true) rfl rfl ?_
          refine lm (v := .bool true) rfl rfl ?_
          refine lm (v := .int .i64 80) rfl rfl ?_
          refine lm (v := .int .i64 80) rfl rfl ?_
          refine lm (v := .bool true) rfl rfl ?_
          refine lm (v := .bool true) rfl rfl ?_
          refine lm (v := .bool true) rfl rfl ?_
          refine lm (v := .int .i64 80) rfl rfl ?_
          refine lm (v := .int .i64 80) rfl rfl ?_
          refine lm (v := .bool true) rfl rfl ?_
          refine lm (v := .bool true) rfl rfl ?_
          refine lm (v := .bool true) rfl rfl ?_
          refine lm (v := .int .i64 80) rfl rfl ?_
          refine lm (v := .int .i64 80) rfl rfl ?_
          refine lm (v := .bool true) rfl rfl ?_
          refine lm (v := .bool true) rfl rfl ?_
          refine lm (v := .bool true) rfl rfl ?_
          refine lm (v := .int .i64 80) rfl rfl ?_
          refine lm (v := .int .i64 80) rfl rfl ?_
          refine lm (v := .bool true) rfl rfl ?_
          refine lm (v := .bool true) rfl rfl ?_
          refine lm (v := .bool true) rfl rfl ?_
          refine lv (v := .bool true) rfl rfl (yb_call (f := 11) (args := #[]) (fun _ => by kernel_rfl) fun W hW => awake8_any W (HE.out.keep (hbZ.trans (hW.1.mono hbZ.size)))) ?_
          refine lm (v := .bool true) rfl rfl ?_
          refine lm (v := .bool true) rfl rfl ?_
          refine wpL_done (fun W96 hW96 => ?_)
          refine (show Code.wp _ _ _ _ _ from ?_)
          refine wp_ret ?_
          try simp only [inBlock_ret, then_ret]
          refine bodyPost_ret (v := .bool true) ?_ rfl ?_
          · kernel_rfl
          · exact ⟨rfl, (hbZ.trans (hW96.1.mono hbZ.size))⟩
        | true =>
          have h24 : k < nm.length := of_decide_eq_true hd24
          clear hd24
          obtain ⟨b89, hb89⟩ : ∃ b, (nm : List UInt8)[k]? = some b := ⟨_, List.getElem?_eq_getElem (by omega)⟩
          have lb89 := b89.toNat_lt
          refine wpL_g (NxO nm k b89 (fun n => ((g77, .stringIter ⟨nm.toArray⟩ (k + n)) :: Kl72))) rfl rfl (nx_some (Kf := fun n => ((g77, .stringIter ⟨nm.toArray⟩ (k + n)) :: Kl72)) rfl (by kernel_rfl) (.head _) Bg77 hb89 (fun n => (List.forall_mem_cons.2 ⟨.inl rfl, (fun p hp => .inr ⟨(.tail _ hp), ((show Dk g77 Kl72 from (by (try simp only [dj_app_l, dj_app_r, dj_cons_l, dj_cons_r, dj_nil_l, dj_nil_r, dk_app, dk_cons, dk_nil, and_true, true_and, and_assoc]); repeat' (first | trivial | assumption | exact Dj.symm (by assumption) | exact Ne.symm (by assumption) | apply And.intro))) _ hp)⟩)⟩))) (fun _ => by simp only [List.setIfInBounds_toArray, List.set_cons_succ, List.set_cons_zero] <;> rfl) ?_
          rintro _ K9 ⟨r90, n90, rfl, rfl, hr90⟩
          refine lm (v := .bool true) rfl rfl ?_
          refine wpL_done (fun W97 hW97 => ?_)
          have mbb89 := dg_lt (hnd _ (List.mem_of_getElem? hb89))
          obtain rfl := rn_one8 hr90 mbb89
          refine (show Code.wp _ _ _ _ _ from ?_)
          refine wp_seq ?_
          refine wp_cond_true rfl ?_
          refine wp_skip ?_
          refine (show Code.wp _ _ _ _ _ from ?_)
          refine wp_block ?_
          refine wp_seq ?_
          refine wp_region_L (W0 := W6) ((g77, .stringIter ⟨nm.toArray⟩ (k + 1)) :: Kl72) (hW97) ?_
          refine lm (v := .int .i64 ((k : Nat) : Int)) rfl rfl ?_
          refine lm (v := .int .i64 ((k : Nat) : Int)) rfl rfl ?_
          refine wpL_done (fun W98 hW98 => ?_)
          refine (show Code.wp _ _ _ _ _ from ?_)
          refine wp_seq ?_
          refine wp_region_L (W0 := W6) ((g77, .stringIter ⟨nm.toArray⟩ (k + 1)) :: Kl72) (hW98) ?_
          refine lm (v := strV nm) rfl rfl ?_
          refine wpL_g (ConvB W6 5 ((g77, .stringIter ⟨nm.toArray⟩ (k + 1)) :: Kl72) nm) rfl rfl (conv_bytes rfl Tryd.underlying78 Tryd.underlying5 Tryd.underlying9 (by kernel_rfl)) (fun _ => by simp only [List.setIfInBounds_toArray, List.set_cons_succ, List.set_cons_zero] <;> rfl) ?_
          rintro v K9 ⟨g91, capg91, curg91, frg91, rfl, Bg91, Fg91, Rg91, Zg91, Yg91, rfl⟩
          obtain ⟨dj92_0, dj92_1⟩ : g77 ≠ g91 ∧ Dk g91 Kl72 := by simpa only [dj_app_l, dj_app_r, dj_cons_l, dj_cons_r, dj_nil_l, dj_nil_r, dk_app, dk_cons, dk_nil, and_true, true_and, and_assoc] using (show Dk g91 ((g77, .stringIter ⟨nm.toArray⟩ (k + 1)) :: Kl72) from Fg91)
          refine lm (v := .slice (some ⟨g91, 0, none⟩) nm.length capg91) rfl rfl ?_
          refine wpL_done (fun W99 hW99 => ?_)
          refine (show Code.wp _ _ _ _ _ from ?_)
          refine wp_seq ?_
          refine wp_region_L (W0 := W6) ((g91, .cells curg91 5 frg91) :: (g77, .stringIter ⟨nm.toArray⟩ (k + 1)) :: Kl72) (hW99) ?_
          refine lm (v := .slice (some ⟨g91, 0, none⟩) nm.length capg91) rfl rfl ?_
          refine lm (v := .int .i64 ((k : Nat) : Int)) rfl rfl ?_
          refine lm (v := .int .u8 ((b.toNat : Nat) : Int)) rfl rfl ?_
          refine lp (v := .pointer (some ⟨g91, 0 + k * 1, none⟩)) rfl rfl (run_idxL (j := .i64) (n := nm.length) (cap := capg91) (b := g91) (off := 0) (k := k) (sz := 1) rfl Tryd.underlying78 (by kernel_rfl) (by kernel_rfl) (by kernel_rfl) (by omega)) ?_
          have Lcur93 : (nm.set k b).length = nm.length := List.length_set
          have Rcur93 : RowB (curg91.setIfInBounds (0 + k * 1) (.int .u8 ((b.toNat : Nat) : Int))) (nm.set k b) := rowb_set Rg91 Zg91 (by omega)
          have Zcur93 : (nm.set k b).length ≤ (curg91.setIfInBounds (0 + k * 1) (.int .u8 ((b.toNat : Nat) : Int))).size := by simpa using Zg91
          have Ycur93 : (curg91.setIfInBounds (0 + k * 1) (.int .u8 ((b.toNat : Nat) : Int))).size ≤ frg91.1 := by simpa using Yg91
          refine wpL_s ((g91, .cells (curg91.setIfInBounds (0 + k * 1) (.int .u8 ((b.toNat : Nat) : Int))) 5 frg91) :: (g77, .stringIter ⟨nm.toArray⟩ (k + 1)) :: Kl72) rfl rfl (st_at (off := 0 + k * 1) (v := .int .u8 ((b.toNat : Nat) : Int)) rfl (by kernel_rfl) (by kernel_rfl) (.head _) Bg91 (by kernel_rfl) rfl rfl (by have := Zg91; omega) (.inl Yg91) (List.forall_mem_cons.2 ⟨.inl rfl, (List.forall_mem_cons.2 ⟨.inr ⟨(.tail _ (.head _)), (by first | assumption | exact Ne.symm (by assumption))⟩, (fun p hp => .inr ⟨(.tail _ (.tail _ hp)), ((show Dk g91 Kl72 from (by (try simp only [dj_app_l, dj_app_r, dj_cons_l, dj_cons_r, dj_nil_l, dj_nil_r, dk_app, dk_cons, dk_nil, and_true, true_and, and_assoc]); repeat' (first | trivial | assumption | exact Dj.symm (by assumption) | exact Ne.symm (by assumption) | apply And.intro))) _ hp)⟩)⟩)⟩)) ?_
          refine wpL_done (fun W100 hW100 => ?_)
          refine (show Code.wp _ _ _ _ _ from ?_)
          refine wp_seq ?_
          refine wp_region_L (W0 := W6) ((g91, .cells (curg91.setIfInBounds (0 + k * 1) (.int .u8 ((b.toNat : Nat) : Int))) 5 frg91) :: (g77, .stringIter ⟨nm.toArray⟩ (k + 1)) :: Kl72) (hW100) ?_
          refine lv (v := .agg (shC (.slice pcS cs.length ccS) (.slice poS osS.length coS) tl0).toArray) rfl rfl (yb_rs (off := 0) (cs := _) rfl (by kernel_rfl) (fun W hW => ((HGZ.out).keep hW.1).2) Tryd.underlying32 rfl (by kernel_rfl)) ?_
          refine lm (v := .slice (some ⟨g91, 0, none⟩) nm.length capg91) rfl rfl ?_
          refine lv (v := strV (nm.set k b)) rfl rfl (yb_str (n := nm.length) (cap := capg91) (l := (nm.set k b)) rfl Tryd.underlying78 Tryd.underlying5 Tryd.underlying9 (by kernel_rfl) (by simp) (.head _) Rcur93) ?_
          obtain ⟨fy, fe, hfe, hfc, hfp⟩ := find_what hr (nm.set k b)
          have hset : (nm.set k b)[k]? = some b := List.getElem?_set_self (by omega)
          refine lv (v := .tuple #[.agg (sltC fy).toArray, .int .i64 ((fe : Nat) : Int)]) rfl rfl (yb_call (f := 31) (args := #[.agg (shC (.slice pcS cs.length ccS) (.slice poS osS.length coS) tl0).toArray, strV (nm.set k b)]) (fun _ => by kernel_rfl) fun W hW => (by have h9 := SFind_any cs pcS ccS (by omega) osS poS coS (by omega) tl0 (nm.set k b) (by first | omega | (simp only [List.length_set, List.length_append, List.length_take, List.length_cons, List.length_nil]; omega)) W ((RL.base HCZ.out) _ (hW.sub (fun _ h => by cases h))) ((RL.base HOZ.out) _ (hW.sub (fun _ h => by cases h))) (HRZ.out.keep hW.1) lrS ((good_plugs hg).1 W) (good_plugs hg).2 (HE.out.keep (hbZ.trans (hW.1.mono hbZ.size))); rw [hfe] at h9; exact h9)) ?_
          refine lm (v := .tuple #[.agg (sltC fy).toArray, .int .i64 ((fe : Nat) : Int)]) rfl rfl ?_
          refine lm (v := .agg (sltC fy).toArray) rfl rfl ?_
          refine lm (v := .int .i64 ((fe : Nat) : Int)) rfl rfl ?_
          refine wpL_new (fun g => .pointer (some ⟨g, 0, none⟩)) (obi := .cells #[.int .i64 0, .int .i64 0, .int .u8 0] 34 (0, 0)) rfl rfl (fun _ => by kernel_rfl) (fun _ => by simp only [List.setIfInBounds_toArray, List.set_cons_succ, List.set_cons_zero] <;> rfl) fun g94 Bg94 Fg94 => ?_
          obtain ⟨dj95_0, dj95_1, dj95_2⟩ : g91 ≠ g94 ∧ g77 ≠ g94 ∧ Dk g94 Kl72 := by simpa only [dj_app_l, dj_app_r, dj_cons_l, dj_cons_r, dj_nil_l, dj_nil_r, dk_app, dk_cons, dk_nil, and_true, true_and, and_assoc] using (show Dk g94 ((g91, .cells (curg91.setIfInBounds (0 + k * 1) (.int .u8 ((b.toNat : Nat) : Int))) 5 frg91) :: (g77, .stringIter ⟨nm.toArray⟩ (k + 1)) :: Kl72) from Fg94)
          refine wpL_s ((g94, .cells (sltC fy).toArray 34 (0, 0)) :: (g91, .cells (curg91.setIfInBounds (0 + k * 1) (.int .u8 ((b.toNat : Nat) : Int))) 5 frg91) :: (g77, .stringIter ⟨nm.toArray⟩ (k + 1)) :: Kl72) rfl rfl (st_row (off := 0) (v := .agg (sltC fy).toArray) rfl (by kernel_rfl) (by kernel_rfl) (.head _) Bg94 (by kernel_rfl) (by first | (simp [Value.cells]; done) | exact Nat.le_of_ble_eq_true rfl) (fun v hv => sltC_one fy v hv) (by kernel_rfl) (List.forall_mem_cons.2 ⟨.inl rfl, (List.forall_mem_cons.2 ⟨.inr ⟨(.tail _ (.head _)), (by first | assumption | exact Ne.symm (by assumption))⟩, (List.forall_mem_cons.2 ⟨.inr ⟨(.tail _ (.tail _ (.head _))), (by first | assumption | exact Ne.symm (by assumption))⟩, (fun p hp => .inr ⟨(.tail _ (.tail _ (.tail _ hp))), ((show Dk g94 Kl72 from (by (try simp only [dj_app_l, dj_app_r, dj_cons_l, dj_cons_r, dj_nil_l, dj_nil_r, dk_app, dk_cons, dk_nil, and_true, true_and, and_assoc]); repeat' (first | trivial | assumption | exact Dj.symm (by assumption) | exact Ne.symm (by assumption) | apply And.intro))) _ hp)⟩)⟩)⟩)⟩)) ?_
          refine lm (v := .int .i64 ((fe : Nat) : Int)) rfl rfl ?_
          refine wpL_done (fun W101 hW101 => ?_)
          refine (show Code.wp _ _ _ _ _ from ?_)
          refine wp_seq ?_
          refine wp_region_L (W0 := W6) ((g94, .cells (sltC fy).toArray 34 (0, 0)) :: (g91, .cells (curg91.setIfInBounds (0 + k * 1) (.int .u8 ((b.toNat : Nat) : Int))) 5 frg91) :: (g77, .stringIter ⟨nm.toArray⟩ (k + 1)) :: Kl72) (hW101) ?_
          refine lm (v := .int .u8 ((b.toNat : Nat) : Int)) rfl rfl ?_
          refine lp (v := .bool (!(decide (b.toNat < 48)))) rfl rfl (run_bin rfl (vx := (.int .u8 ((b.toNat : Nat) : Int))) (vy := (.int .u8 ((48 : Nat) : Int))) (by kernel_rfl) (by kernel_rfl) fun w => bn_geq rfl w) ?_
          refine lm (v := .bool (!(decide (b.toNat < 48)))) rfl rfl ?_
          cases hd25 : (decide (b.toNat < 48)) with
          | false =>
            have h25 : ¬ (b.toNat < 48) := of_decide_eq_false hd25
            clear hd25
            refine lm (v := .int .u8 ((b.toNat : Nat) : Int)) rfl rfl ?_
            refine lp (v := .bool (!(decide (57 < b.toNat)))) rfl rfl (run_bin rfl (vx := (.int .u8 ((b.toNat : Nat) : Int))) (vy := (.int .u8 ((57 : Nat) : Int))) (by kernel_rfl) (by kernel_rfl) fun w => bn_leq rfl w) ?_
            refine lm (v := .bool (!(decide (57 < b.toNat)))) rfl rfl ?_
            refine lm (v := .bool (!(decide (57 < b.toNat)))) rfl rfl ?_
            refine wpL_done (fun W102 hW102 => ?_)
            refine (show Code.wp _ _ _ _ _ from ?_)
            refine wp_seq ?_
            refine wp_seq ?_
            refine wp_region_L (W0 := W6) ((g94, .cells (sltC fy).toArray 34 (0, 0)) :: (g91, .cells (curg91.setIfInBounds (0 + k * 1) (.int .u8 ((b.toNat : Nat) : Int))) 5 frg91) :: (g77, .stringIter ⟨nm.toArray⟩ (k + 1)) :: Kl72) (hW102) ?_
            refine lm (v := .bool (!(decide (57 < b.toNat)))) rfl rfl ?_
            refine lp (v := .bool (decide (57 < b.toNat))) rfl rfl (run_un (v := .bool (decide (57 < b.toNat))) rfl (by kernel_rfl) fun w => (un_not w).trans (by rw [Bool.not_not])) ?_
            refine lm (v := .bool (decide (57 < b.toNat))) rfl rfl ?_
            cases hd26 : (decide (57 < b.toNat)) with
            | false =>
              have h26 : ¬ (57 < b.toNat) := of_decide_eq_false hd26
              clear hd26
              refine ln rfl ?_
              refine ln rfl ?_
              refine lm (v := .bool false) rfl rfl ?_
              refine lm (v := .bool false) rfl rfl ?_
              refine lm (v := .int .i64 ((fe : Nat) : Int)) rfl rfl ?_
              refine lp (v := .bool (!(decide (fe = 0)))) rfl rfl (run_bin rfl (vx := (.int .i64 ((fe : Nat) : Int))) (vy := (.int .i64 ((0 : Nat) : Int))) (by kernel_rfl) (by kernel_rfl) fun w => bn_neq rfl w) ?_
              refine lm (v := .bool (!(decide (fe = 0)))) rfl rfl ?_
              cases hd27 : (decide (fe = 0)) with
              | false =>
                have h27 : ¬ (fe = 0) := of_decide_eq_false hd27
                clear hd27
                refine lv (v := .agg (sltC fy).toArray) rfl rfl (yb_load (n := 3) (off := 0) rfl (by kernel_rfl) (.head _) Tryd.underlying34 rfl (by kernel_rfl) (by first | (simp [Value.cells]; done) | exact Nat.le_of_ble_eq_true rfl) (by kernel_rfl)) ?_
                refine lm (v := .agg #[.int .i64 0, .int .i64 0, .int .u8 0]) rfl rfl ?_
                refine lp (v := .bool (!(eqS fy (⟨0, 0, 0⟩ : Slt)))) rfl rfl (run_bin rfl (vx := .agg (sltC fy).toArray) (vy := .agg (sltC (⟨0, 0, 0⟩ : Slt)).toArray) (by kernel_rfl) (by kernel_rfl) fun w => ne_slt w) ?_
                refine lm (v := .bool (!(eqS fy (⟨0, 0, 0⟩ : Slt)))) rfl rfl ?_
                refine lm (v := .bool (!(eqS fy (⟨0, 0, 0⟩ : Slt)))) rfl rfl ?_
                refine wpL_done (fun W103 hW103 => ?_)
                refine (show Code.wp _ _ _ _ _ from ?_)
                cases h28 : (eqS fy (⟨0, 0, 0⟩ : Slt)) with
                | false =>
                  exact absurd (show (eqS fy (⟨0, 0, 0⟩ : Slt)) = true from by rcases hfc with ⟨h, _⟩ | ⟨_, h⟩; exact absurd h h27; rw [h]; rfl) (by rw [h28]; decide)
                | true =>
                  refine wp_cond_false rfl ?_
                  refine wp_skip ?_
                  refine (show Code.wp _ _ _ _ _ from ?_)
                  refine wp_seq ?_
                  refine wp_region_L (W0 := W6) ((g94, .cells (sltC fy).toArray 34 (0, 0)) :: (g91, .cells (curg91.setIfInBounds (0 + k * 1) (.int .u8 ((b.toNat : Nat) : Int))) 5 frg91) :: (g77, .stringIter ⟨nm.toArray⟩ (k + 1)) :: Kl72) (hW103) ?_
                  refine lv (v := .agg (shC (.slice pcS cs.length ccS) (.slice poS osS.length coS) tl0).toArray) rfl rfl (yb_rs (off := 0) (cs := _) rfl (by kernel_rfl) (fun W hW => ((HGZ.out).keep hW.1).2) Tryd.underlying32 rfl (by kernel_rfl)) ?_
                  refine lv (v := .agg (sltC fy).toArray) rfl rfl (yb_load (n := 3) (off := 0) rfl (by kernel_rfl) (.head _) Tryd.underlying34 rfl (by kernel_rfl) (by first | (simp [Value.cells]; done) | exact Nat.le_of_ble_eq_true rfl) (by kernel_rfl)) ?_
                  refine lv (v := .tuple #[strV ((nameR cs osS fy).1), .int .i64 ((((nameR cs osS fy).2) : Nat) : Int)]) rfl rfl (yb_call (f := 29) (args := #[.agg (shC (.slice pcS cs.length ccS) (.slice poS osS.length coS) tl0).toArray, .agg (sltC fy).toArray]) (fun _ => by kernel_rfl) fun W hW => SName_any cs pcS ccS (by omega) osS poS coS (by omega) tl0 fy.col fy.tier fy.half W ((RL.base HCZ.out) _ (hW.sub (fun _ h => by cases h))) ((RL.base HOZ.out) _ (hW.sub (fun _ h => by cases h))) (HRZ.out.keep hW.1) lrS ((good_plugs hg).1 W) (good_plugs hg).2 (HE.out.keep (hbZ.trans (hW.1.mono hbZ.size)))) ?_
                  refine lm (v := .tuple #[strV ((nameR cs osS fy).1), .int .i64 ((((nameR cs osS fy).2) : Nat) : Int)]) rfl rfl ?_
                  refine lm (v := strV ((nameR cs osS fy).1)) rfl rfl ?_
                  refine lm (v := .int .i64 ((((nameR cs osS fy).2) : Nat) : Int)) rfl rfl ?_
                  refine lm (v := strV ((nameR cs osS fy).1)) rfl rfl ?_
                  refine lm (v := .int .i64 ((((nameR cs osS fy).2) : Nat) : Int)) rfl rfl ?_
                  refine wpL_done (fun W104 hW104 => ?_)
                  refine (show Code.wp _ _ _ _ _ from ?_)
                  refine wp_seq ?_
                  refine wp_region_L (W0 := W6) ((g94, .cells (sltC fy).toArray 34 (0, 0)) :: (g91, .cells (curg91.setIfInBounds (0 + k * 1) (.int .u8 ((b.toNat : Nat) : Int))) 5 frg91) :: (g77, .stringIter ⟨nm.toArray⟩ (k + 1)) :: Kl72) (hW104) ?_
                  refine lm (v := .int .i64 ((fe : Nat) : Int)) rfl rfl ?_
                  refine lp (v := .bool false) rfl rfl (run_bin rfl (vx := (.int .i64 ((fe : Nat) : Int))) (vy := (.int .i64 ((0 : Nat) : Int))) (by kernel_rfl) (by kernel_rfl) fun w => bn_eql (decide_eq_false (by assumption)) w) ?_
                  refine lm (v := .bool false) rfl rfl ?_
                  refine ln rfl ?_
                  refine ln rfl ?_
                  refine ln rfl ?_
                  refine ln rfl ?_
                  refine ln rfl ?_
                  refine ln rfl ?_
                  refine ln rfl ?_
                  refine ln rfl ?_
                  refine lm (v := .bool false) rfl rfl ?_
                  refine wpL_done (fun W105 hW105 => ?_)
                  refine (show Code.wp _ _ _ _ _ from ?_)
                  refine wp_cond_false rfl ?_
                  refine wp_skip ?_
                  go_roundw
                  case rel =>
                    repeat apply Exists.intro
                    exact ⟨⟨(k + 1), (by omega), (hW105.sub (fun p hp => by first | exact hp | (simp only [List.mem_cons, List.mem_append, List.nil_append, List.not_mem_nil, or_assoc, or_false, false_or] at hp ⊢ <;> grind)))⟩, rfl⟩
                  case measure => have e1 := iterPos_of (hL89.2 _ (.head _)); have e2 := iterPos_of (hW105.2 _ (.tail _ (.tail _ (.head _)))); rw [e1, e2]; omega
              | true =>
                have h27 : fe = 0 := of_decide_eq_true hd27
                clear hd27
                refine ln rfl ?_
                refine ln rfl ?_
                refine ln rfl ?_
                refine lm (v := .bool false) rfl rfl ?_
                refine lm (v := .bool false) rfl rfl ?_
                refine wpL_done (fun W106 hW106 => ?_)
                refine (show Code.wp _ _ _ _ _ from ?_)
                refine wp_cond_false rfl ?_
                refine wp_skip ?_
                refine (show Code.wp _ _ _ _ _ from ?_)
                refine wp_seq ?_
                refine wp_region_L (W0 := W6) ((g94, .cells (sltC fy).toArray 34 (0, 0)) :: (g91, .cells (curg91.setIfInBounds (0 + k * 1) (.int .u8 ((b.toNat : Nat) : Int))) 5 frg91) :: (g77, .stringIter ⟨nm.toArray⟩ (k + 1)) :: Kl72) (hW106) ?_
                refine lv (v := .agg (shC (.slice pcS cs.length ccS) (.slice poS osS.length coS) tl0).toArray) rfl rfl (yb_rs (off := 0) (cs := _) rfl (by kernel_rfl) (fun W hW => ((HGZ.out).keep hW.1).2) Tryd.underlying32 rfl (by kernel_rfl)) ?_
                refine lv (v := .agg (sltC fy).toArray) rfl rfl (yb_load (n := 3) (off := 0) rfl (by kernel_rfl) (.head _) Tryd.underlying34 rfl (by kernel_rfl) (by first | (simp [Value.cells]; done) | exact Nat.le_of_ble_eq_true rfl) (by kernel_rfl)) ?_
                have hback : nameR cs osS fy = (nm.set k b, 0) := by rcases hfc with ⟨_, h⟩ | ⟨h, _⟩; exact h; exact absurd h27 h
                refine lv (v := .tuple #[strV (nm.set k b), .int .i64 0]) rfl rfl (yb_call (f := 29) (args := #[.agg (shC (.slice pcS cs.length ccS) (.slice poS osS.length coS) tl0).toArray, .agg (sltC fy).toArray]) (fun _ => by kernel_rfl) fun W hW => (by have h9 := SName_any cs pcS ccS (by omega) osS poS coS (by omega) tl0 fy.col fy.tier fy.half W ((RL.base HCZ.out) _ (hW.sub (fun _ h => by cases h))) ((RL.base HOZ.out) _ (hW.sub (fun _ h => by cases h))) (HRZ.out.keep hW.1) lrS ((good_plugs hg).1 W) (good_plugs hg).2 (HE.out.keep (hbZ.trans (hW.1.mono hbZ.size))); rw [hback] at h9; exact h9)) ?_
                refine lm (v := .tuple #[strV (nm.set k b), .int .i64 0]) rfl rfl ?_
                refine lm (v := strV (nm.set k b)) rfl rfl ?_
                refine lm (v := .int .i64 0) rfl rfl ?_
                refine lm (v := strV (nm.set k b)) rfl rfl ?_
                refine lm (v := .int .i64 0) rfl rfl ?_
                refine wpL_done (fun W107 hW107 => ?_)
                refine (show Code.wp _ _ _ _ _ from ?_)
                refine wp_seq ?_
                refine wp_region_L (W0 := W6) ((g94, .cells (sltC fy).toArray 34 (0, 0)) :: (g91, .cells (curg91.setIfInBounds (0 + k * 1) (.int .u8 ((b.toNat : Nat) : Int))) 5 frg91) :: (g77, .stringIter ⟨nm.toArray⟩ (k + 1)) :: Kl72) (hW107) ?_
                refine lm (v := .int .i64 ((fe : Nat) : Int)) rfl rfl ?_
                refine lp (v := .bool true) rfl rfl (run_bin rfl (vx := (.int .i64 ((fe : Nat) : Int))) (vy := (.int .i64 ((0 : Nat) : Int))) (by kernel_rfl) (by kernel_rfl) fun w => bn_eql (decide_eq_true (by assumption)) w) ?_
                refine lm (v := .bool true) rfl rfl ?_
                refine lm (v := .int .i64 0) rfl rfl ?_
                refine lm (v := .bool false) rfl rfl ?_
                refine lm (v := .bool false) rfl rfl ?_
                refine lm (v := strV (nm.set k b)) rfl rfl ?_
                refine lm (v := .slice (some ⟨g91, 0, none⟩) nm.length capg91) rfl rfl ?_
                refine lv (v := strV (nm.set k b)) rfl rfl (yb_str (n := nm.length) (cap := capg91) (l := (nm.set k b)) rfl Tryd.underlying78 Tryd.underlying5 Tryd.underlying9 (by kernel_rfl) (by simp) (.tail _ (.head _)) Rcur93) ?_
                refine lp (v := .bool false) rfl rfl (run_bin rfl (vx := strV (nm.set k b)) (vy := strV (nm.set k b)) (by kernel_rfl) (by kernel_rfl) fun w => bs_neq (decide_eq_true rfl) w) ?_
                refine lm (v := .bool false) rfl rfl ?_
                refine lm (v := .bool false) rfl rfl ?_
                refine wpL_done (fun W108 hW108 => ?_)
                refine (show Code.wp _ _ _ _ _ from ?_)
                refine wp_cond_false rfl ?_
                refine wp_skip ?_
                go_roundw
                case rel =>
                  repeat apply Exists.intro
                  exact ⟨⟨(k + 1), (by omega), (hW108.sub (fun p hp => by first | exact hp | (simp only [List.mem_cons, List.mem_append, List.nil_append, List.not_mem_nil, or_assoc, or_false, false_or] at hp ⊢ <;> grind)))⟩, rfl⟩
                case measure => have e1 := iterPos_of (hL89.2 _ (.head _)); have e2 := iterPos_of (hW108.2 _ (.tail _ (.tail _ (.head _)))); rw [e1, e2]; omega
            | true =>
              have h26 : 57 < b.toNat := of_decide_eq_true hd26
              clear hd26
              refine lm (v := .int .i64 ((fe : Nat) : Int)) rfl rfl ?_
              refine lp (v := .bool (!(decide (fe = 80)))) rfl rfl (run_bin rfl (vx := (.int .i64 ((fe : Nat) : Int))) (vy := (.int .i64 ((80 : Nat) : Int))) (by kernel_rfl) (by kernel_rfl) fun w => bn_neq rfl w) ?_
              refine lm (v := .bool (!(decide (fe = 80)))) rfl rfl ?_
              refine lm (v := .bool (!(decide (fe = 80)))) rfl rfl ?_
              cases hd29 : (decide (fe = 80)) with
              | false =>
                have h29 : ¬ (fe = 80) := of_decide_eq_false hd29
                clear hd29
                exact absurd (hfp (place_dg hset (nodg_hi h26))) h29
              | true =>
                have h29 : fe = 80 := of_decide_eq_true hd29
                clear hd29
                refine lm (v := .int .i64 ((fe : Nat) : Int)) rfl rfl ?_
                refine lp (v := .bool (!(decide (fe = 0)))) rfl rfl (run_bin rfl (vx := (.int .i64 ((fe : Nat) : Int))) (vy := (.int .i64 ((0 : Nat) : Int))) (by kernel_rfl) (by kernel_rfl) fun w => bn_neq rfl w) ?_
                refine lm (v := .bool (!(decide (fe = 0)))) rfl rfl ?_
                cases hd30 : (decide (fe = 0)) with
                | false =>
                  have h30 : ¬ (fe = 0) := of_decide_eq_false hd30
                  clear hd30
                  refine lv (v := .agg (sltC fy).toArray) rfl rfl (yb_load (n := 3) (off := 0) rfl (by kernel_rfl) (.head _) Tryd.underlying34 rfl (by kernel_rfl) (by first | (simp [Value.cells]; done) | exact Nat.le_of_ble_eq_true rfl) (by kernel_rfl)) ?_
                  refine lm (v := .agg #[.int .i64 0, .int .i64 0, .int .u8 0]) rfl rfl ?_
                  refine lp (v := .bool (!(eqS fy (⟨0, 0, 0⟩ : Slt)))) rfl rfl (run_bin rfl (vx := .agg (sltC fy).toArray) (vy := .agg (sltC (⟨0, 0, 0⟩ : Slt)).toArray) (by kernel_rfl) (by kernel_rfl) fun w => ne_slt w) ?_
                  refine lm (v := .bool (!(eqS fy (⟨0, 0, 0⟩ : Slt)))) rfl rfl ?_
                  refine lm (v := .bool (!(eqS fy (⟨0, 0, 0⟩ : Slt)))) rfl rfl ?_
                  refine wpL_done (fun W109 hW109 => ?_)
                  refine (show Code.wp _ _ _ _ _ from ?_)
                  cases h31 : (eqS fy (⟨0, 0, 0⟩ : Slt)) with
                  | false =>
                    exact absurd (show (eqS fy (⟨0, 0, 0⟩ : Slt)) = true from by rcases hfc with ⟨h, _⟩ | ⟨_, h⟩; exact absurd h h30; rw [h]; rfl) (by rw [h31]; decide)
                  | true =>
                    refine wp_cond_false rfl ?_
                    refine wp_skip ?_
                    refine (show Code.wp _ _ _ _ _ from ?_)
                    refine wp_seq ?_
                    refine wp_region_L (W0 := W6) ((g94, .cells (sltC fy).toArray 34 (0, 0)) :: (g91, .cells (curg91.setIfInBounds (0 + k * 1) (.int .u8 ((b.toNat : Nat) : Int))) 5 frg91) :: (g77, .stringIter ⟨nm.toArray⟩ (k + 1)) :: Kl72) (hW109) ?_
                    refine lv (v := .agg (shC (.slice pcS cs.length ccS) (.slice poS osS.length coS) tl0).toArray) rfl rfl (yb_rs (off := 0) (cs := _) rfl (by kernel_rfl) (fun W hW => ((HGZ.out).keep hW.1).2) Tryd.underlying32 rfl (by kernel_rfl)) ?_
                    refine lv (v := .agg (sltC fy).toArray) rfl rfl (yb_load (n := 3) (off := 0) rfl (by kernel_rfl) (.head _) Tryd.underlying34 rfl (by kernel_rfl) (by first | (simp [Value.cells]; done) | exact Nat.le_of_ble_eq_true rfl) (by kernel_rfl)) ?_
                    refine lv (v := .tuple #[strV ((nameR cs osS fy).1), .int .i64 ((((nameR cs osS fy).2) : Nat) : Int)]) rfl rfl (yb_call (f := 29) (args := #[.agg (shC (.slice pcS cs.length ccS) (.slice poS osS.length coS) tl0).toArray, .agg (sltC fy).toArray]) (fun _ => by kernel_rfl) fun W hW => SName_any cs pcS ccS (by omega) osS poS coS (by omega) tl0 fy.col fy.tier fy.half W ((RL.base HCZ.out) _ (hW.sub (fun _ h => by cases h))) ((RL.base HOZ.out) _ (hW.sub (fun _ h => by cases h))) (HRZ.out.keep hW.1) lrS ((good_plugs hg).1 W) (good_plugs hg).2 (HE.out.keep (hbZ.trans (hW.1.mono hbZ.size)))) ?_
                    refine lm (v := .tuple #[strV ((nameR cs osS fy).1), .int .i64 ((((nameR cs osS fy).2) : Nat) : Int)]) rfl rfl ?_
                    refine lm (v := strV ((nameR cs osS fy).1)) rfl rfl ?_
                    refine lm (v := .int .i64 ((((nameR cs osS fy).2) : Nat) : Int)) rfl rfl ?_
                    refine lm (v := strV ((nameR cs osS fy).1)) rfl rfl ?_
                    refine lm (v := .int .i64 ((((nameR cs osS fy).2) : Nat) : Int)) rfl rfl ?_
                    refine wpL_done (fun W110 hW110 => ?_)
                    refine (show Code.wp _ _ _ _ _ from ?_)
                    refine wp_seq ?_
                    refine wp_region_L (W0 := W6) ((g94, .cells (sltC fy).toArray 34 (0, 0)) :: (g91, .cells (curg91.setIfInBounds (0 + k * 1) (.int .u8 ((b.toNat : Nat) : Int))) 5 frg91) :: (g77, .stringIter ⟨nm.toArray⟩ (k + 1)) :: Kl72) (hW110) ?_
                    refine lm (v := .int .i64 ((fe : Nat) : Int)) rfl rfl ?_
                    refine lp (v := .bool false) rfl rfl (run_bin rfl (vx := (.int .i64 ((fe : Nat) : Int))) (vy := (.int .i64 ((0 : Nat) : Int))) (by kernel_rfl) (by kernel_rfl) fun w => bn_eql (decide_eq_false (by assumption)) w) ?_
                    refine lm (v := .bool false) rfl rfl ?_
                    refine ln rfl ?_
                    refine ln rfl ?_
                    refine ln rfl ?_
                    refine ln rfl ?_
                    refine ln rfl ?_
                    refine ln rfl ?_
                    refine ln rfl ?_
                    refine ln rfl ?_
                    refine lm (v := .bool false) rfl rfl ?_
                    refine wpL_done (fun W111 hW111 => ?_)
                    refine (show Code.wp _ _ _ _ _ from ?_)
                    refine wp_cond_false rfl ?_
                    refine wp_skip ?_
                    go_roundw
                    case rel =>
                      repeat apply Exists.intro
                      exact ⟨⟨(k + 1), (by omega), (hW111.sub (fun p hp => by first | exact hp | (simp only [List.mem_cons, List.mem_append, List.nil_append, List.not_mem_nil, or_assoc, or_false, false_or] at hp ⊢ <;> grind)))⟩, rfl⟩
                    case measure => have e1 := iterPos_of (hL89.2 _ (.head _)); have e2 := iterPos_of (hW111.2 _ (.tail _ (.tail _ (.head _)))); rw [e1, e2]; omega
                | true =>
                  have h30 : fe = 0 := of_decide_eq_true hd30
                  clear hd30
                  omega
          | true =>
            have h25 : b.toNat < 48 := of_decide_eq_true hd25
            clear hd25
            refine ln rfl ?_
            refine ln rfl ?_
            refine lm (v := .bool false) rfl rfl ?_
            refine lm (v := .bool false) rfl rfl ?_
            refine wpL_done (fun W112 hW112 => ?_)
            refine (show Code.wp _ _ _ _ _ from ?_)
            refine wp_seq ?_
            refine wp_seq ?_
            refine wp_region_L (W0 := W6) ((g94, .cells (sltC fy).toArray 34 (0, 0)) :: (g91, .cells (curg91.setIfInBounds (0 + k * 1) (.int .u8 ((b.toNat : Nat) : Int))) 5 frg91) :: (g77, .stringIter ⟨nm.toArray⟩ (k + 1)) :: Kl72) (hW112) ?_
            refine lm (v := .bool false) rfl rfl ?_
            refine lm (v := .bool true) rfl rfl ?_
            refine lm (v := .bool true) rfl rfl ?_
            refine lm (v := .int .i64 ((fe : Nat) : Int)) rfl rfl ?_
            refine lp (v := .bool (!(decide (fe = 80)))) rfl rfl (run_bin rfl (vx := (.int .i64 ((fe : Nat) : Int))) (vy := (.int .i64 ((80 : Nat) : Int))) (by kernel_rfl) (by kernel_rfl) fun w => bn_neq rfl w) ?_
            refine lm (v := .bool (!(decide (fe = 80)))) rfl rfl ?_
            refine lm (v := .bool (!(decide (fe = 80)))) rfl rfl ?_
            cases hd32 : (decide (fe = 80)) with
            | false =>
              have h32 : ¬ (fe = 80) := of_decide_eq_false hd32
              clear hd32
              exact absurd (hfp (place_dg hset (nodg_lo h25))) h32
            | true =>
              have h32 : fe = 80 := of_decide_eq_true hd32
              clear hd32
              refine lm (v := .int .i64 ((fe : Nat) : Int)) rfl rfl ?_
              refine lp (v := .bool (!(decide (fe = 0)))) rfl rfl (run_bin rfl (vx := (.int .i64 ((fe : Nat) : Int))) (vy := (.int .i64 ((0 : Nat) : Int))) (by kernel_rfl) (by kernel_rfl) fun w => bn_neq rfl w) ?_
              refine lm (v := .bool (!(decide (fe = 0)))) rfl rfl ?_
              cases hd33 : (decide (fe = 0)) with
              | false =>
                have h33 : ¬ (fe = 0) := of_decide_eq_false hd33
                clear hd33
                refine lv (v := .agg (sltC fy).toArray) rfl rfl (yb_load (n := 3) (off := 0) rfl (by kernel_rfl) (.head _) Tryd.underlying34 rfl (by kernel_rfl) (by first | (simp [Value.cells]; done) | exact Nat.le_of_ble_eq_true rfl) (by kernel_rfl)) ?_
                refine lm (v := .agg #[.int .i64 0, .int .i64 0, .int .u8 0]) rfl rfl ?_
                refine lp (v := .bool (!(eqS fy (⟨0, 0, 0⟩ : Slt)))) rfl rfl (run_bin rfl (vx := .agg (sltC fy).toArray) (vy := .agg (sltC (⟨0, 0, 0⟩ : Slt)).toArray) (by kernel_rfl) (by kernel_rfl) fun w => ne_slt w) ?_
                refine lm (v := .bool (!(eqS fy (⟨0, 0, 0⟩ : Slt)))) rfl rfl ?_
                refine lm (v := .bool (!(eqS fy (⟨0, 0, 0⟩ : Slt)))) rfl rfl ?_
                refine wpL_done (fun W113 hW113 => ?_)
                refine (show Code.wp _ _ _ _ _ from ?_)
                cases h34 : (eqS fy (⟨0, 0, 0⟩ : Slt)) with
                | false =>
                  exact absurd (show (eqS fy (⟨0, 0, 0⟩ : Slt)) = true from by rcases hfc with ⟨h, _⟩ | ⟨_, h⟩; exact absurd h h33; rw [h]; rfl) (by rw [h34]; decide)
                | true =>
                  refine wp_cond_false rfl ?_
                  refine wp_skip ?_
                  refine (show Code.wp _ _ _ _ _ from ?_)
                  refine wp_seq ?_
                  refine wp_region_L (W0 := W6) ((g94, .cells (sltC fy).toArray 34 (0, 0)) :: (g91, .cells (curg91.setIfInBounds (0 + k * 1) (.int .u8 ((b.toNat : Nat) : Int))) 5 frg91) :: (g77, .stringIter ⟨nm.toArray⟩ (k + 1)) :: Kl72) (hW113) ?_
                  refine lv (v := .agg (shC (.slice pcS cs.length ccS) (.slice poS osS.length coS) tl0).toArray) rfl rfl (yb_rs (off := 0) (cs := _) rfl (by kernel_rfl) (fun W hW => ((HGZ.out).keep hW.1).2) Tryd.underlying32 rfl (by kernel_rfl)) ?_
                  refine lv (v := .agg (sltC fy).toArray) rfl rfl (yb_load (n := 3) (off := 0) rfl (by kernel_rfl) (.head _) Tryd.underlying34 rfl (by kernel_rfl) (by first | (simp [Value.cells]; done) | exact Nat.le_of_ble_eq_true rfl) (by kernel_rfl)) ?_
                  refine lv (v := .tuple #[strV ((nameR cs osS fy).1), .int .i64 ((((nameR cs osS fy).2) : Nat) : Int)]) rfl rfl (yb_call (f := 29) (args := #[.agg (shC (.slice pcS cs.length ccS) (.slice poS osS.length coS) tl0).toArray, .agg (sltC fy).toArray]) (fun _ => by kernel_rfl) fun W hW => SName_any cs pcS ccS (by omega) osS poS coS (by omega) tl0 fy.col fy.tier fy.half W ((RL.base HCZ.out) _ (hW.sub (fun _ h => by cases h))) ((RL.base HOZ.out) _ (hW.sub (fun _ h => by cases h))) (HRZ.out.keep hW.1) lrS ((good_plugs hg).1 W) (good_plugs hg).2 (HE.out.keep (hbZ.trans (hW.1.mono hbZ.size)))) ?_
                  refine lm (v := .tuple #[strV ((nameR cs osS fy).1), .int .i64 ((((nameR cs osS fy).2) : Nat) : Int)]) rfl rfl ?_
                  refine lm (v := strV ((nameR cs osS fy).1)) rfl rfl ?_
                  refine lm (v := .int .i64 ((((nameR cs osS fy).2) : Nat) : Int)) rfl rfl ?_
                  refine lm (v := strV ((nameR cs osS fy).1)) rfl rfl ?_
                  refine lm (v := .int .i64 ((((nameR cs osS fy).2) : Nat) : Int)) rfl rfl ?_
                  refine wpL_done (fun W114 hW114 => ?_)
                  refine (show Code.wp _ _ _ _ _ from ?_)
                  refine wp_seq ?_
                  refine wp_region_L (W0 := W6) ((g94, .cells (sltC fy).toArray 34 (0, 0)) :: (g91, .cells (curg91.setIfInBounds (0 + k * 1) (.int .u8 ((b.toNat : Nat) : Int))) 5 frg91) :: (g77, .stringIter ⟨nm.toArray⟩ (k + 1)) :: Kl72) (hW114) ?_
                  refine lm (v := .int .i64 ((fe : Nat) : Int)) rfl rfl ?_
                  refine lp (v := .bool false) rfl rfl (run_bin rfl (vx := (.int .i64 ((fe : Nat) : Int))) (vy := (.int .i64 ((0 : Nat) : Int))) (by kernel_rfl) (by kernel_rfl) fun w => bn_eql (decide_eq_false (by assumption)) w) ?_
                  refine lm (v := .bool false) rfl rfl ?_
                  refine ln rfl ?_
                  refine ln rfl ?_
                  refine ln rfl ?_
                  refine ln rfl ?_
                  refine ln rfl ?_
                  refine ln rfl ?_
                  refine ln rfl ?_
                  refine ln rfl ?_
                  refine lm (v := .bool false) rfl rfl ?_
                  refine wpL_done (fun W115 hW115 => ?_)
                  refine (show Code.wp _ _ _ _ _ from ?_)
                  refine wp_cond_false rfl ?_
                  refine wp_skip ?_
                  go_roundw
                  case rel =>
                    repeat apply Exists.intro
                    exact ⟨⟨(k + 1), (by omega), (hW115.sub (fun p hp => by first | exact hp | (simp only [List.mem_cons, List.mem_append, List.nil_append, List.not_mem_nil, or_assoc, or_false, false_or] at hp ⊢ <;> grind)))⟩, rfl⟩
                  case measure => have e1 := iterPos_of (hL89.2 _ (.head _)); have e2 := iterPos_of (hW115.2 _ (.tail _ (.tail _ (.head _)))); rw [e1, e2]; omega
              | true =>
                have h33 : fe = 0 := of_decide_eq_true hd33
                clear hd33
                omega
  | true =>
    have h1 : ((slotsX cs 40).length) = 0 := of_decide_eq_true hd1
    clear hd1
    omega
end Go.Proofs.YthpooalhibedpaaDoor

import Derived.Test.YtppegdbelgobiaaG04
import Derived.Test.YtppegdbelgobiaaG01
/- LexParts: the law holds for every input; no condition but the row's own. -/
set_option linter.unusedVariables false
set_option linter.unusedSimpArgs false
set_option linter.unusedSectionVars false
namespace Go.Proofs.Ytppegdbelgobiaa
open Go Go.RowKit Tw
theorem last_q {t : List UInt8} {p e : Nat} {x : UInt8} (h : readT t = .bad p e) (hx : t[p]? = some x) (h63 : x.toNat = 63) (hl : t.length < p + 2) (hs : t.length ≤ 2000) : e = 41 := by
  have hp := (List.getElem?_eq_some_iff.1 hx).1
  unfold readT at h
  rw [if_neg (by omega)] at h
  match hr : runS 0 t ⟨[], .out⟩, h with
  | .bad p' e', h =>
    cases h
    obtain ⟨a, y, b, s1, rfl, h1, h2⟩ := run_split t 0 hr
    rw [Nat.zero_add] at h2
    have hc := run_count a 0 h1
    rw [List.length_append, List.length_cons] at hs hl
    obtain ⟨_, ⟨rfl, hn⟩ | ⟨es, cs, c, hm⟩⟩ := step_bad h2
    · have hy : y = x := by simpa using hx
      subst hy
      have hin : ∀ {segs : List Sgm} {es : List Elt} {cs : List Cmp} {c : Cmp}, inside a.length y segs es cs c ≠ .bad a.length e := by
        intro segs es cs c hb
        rw [ins_63 (r := 63) (n := 1) (.inl ⟨h63.symm, rfl, by omega⟩) rfl] at hb
        cases hb
      obtain ⟨segs, md⟩ := s1
      have hc : segs.length ≤ [].length + a.length := hc
      simp only [List.length_nil] at hc
      cases md with
      | out =>
        simp only [step] at h2
        split at h2
        · cases h2
        · split at h2
          · omega
          · exact absurd h2 hin
      | ins es cs c => exact absurd h2 hin
      | rel q es cs c => exact hn.elim
    · obtain ⟨segs, md⟩ := s1
      cases hm
      obtain ⟨a', z, s0, rfl, rfl, _⟩ := run_rel h1
      rw [List.length_append, List.length_singleton] at hl
      omega
  | .ok ⟨segs, .ins es cs c⟩, h => cases h; omega
  | .ok ⟨segs, .rel q es cs c⟩, h => cases h; rfl
theorem run_ne : ∀ (l : List UInt8) (i : Nat) {s : Sta} {p e : Nat}, runS i l s = .bad p e → e ≠ 0 := by
  intro l i s p e h
  obtain ⟨a, x, b, s1, _, _, h3⟩ := run_split l i h
  exact step_ne h3
theorem bad_ne {l : List UInt8} {p e : Nat} (h : readT l = .bad p e) : ¬ e = 0 := by
  unfold readT at h
  split at h
  · cases h; decide
  · match hr : runS 0 l ⟨[], .out⟩, h with
    | .bad p' e', h => cases h; exact run_ne _ _ hr
    | .ok ⟨segs, .ins es cs c⟩, h => cases h; decide
    | .ok ⟨segs, .rel q es cs c⟩, h => cases h; decide
set_option maxRecDepth 100000 in
set_option maxHeartbeats 4000000 in
theorem LexBegins_law (w : World) (t o : List UInt8) : Calls Try.prog 8 #[strV t, strV o] w fun e w' => e = .returned (.bool true) ∧ Below w.heap.size w w' := by
  by_cases hl : 2000 < t.length
  · skip
    go_enter Try.func8, Try.ntmps8
    refine wp_seq ?_
    refine wp_region_L (W0 := w) [] (KS.start w) ?_
    refine lm (v := .bool false) rfl rfl ?_
    refine wpL_done (fun W1 hW1 => ?_)
    refine (show Code.wp _ _ _ _ _ from ?_)
    refine wp_seq ?_
    refine wp_seq ?_
    refine wp_region_L (W0 := w) [] (hW1) ?_
    refine lv (v := .bool true) rfl rfl (yb_call (f := 10) (args := #[]) (fun _ => by kernel_rfl) fun W hW => awake_any W) ?_
    refine lm (v := .bool false) rfl rfl ?_
    refine wpL_done (fun W2 hW2 => ?_)
    refine (show Code.wp _ _ _ _ _ from ?_)
    refine wp_cond_false rfl ?_
    refine wp_skip ?_
    refine (show Code.wp _ _ _ _ _ from ?_)
    refine wp_seq ?_
    refine wp_seq ?_
    refine wp_region_L (W0 := w) [] (hW2) ?_
    refine lm (v := strV t) rfl rfl ?_
    refine lp (v := .int .i64 ((t.length : Nat) : Int)) rfl rfl (run_lenS (l := t) rfl Try.underlying9 (by kernel_rfl)) ?_
    refine lp (v := .bool true) rfl rfl (run_bin rfl (vx := (.int .i64 ((t.length : Nat) : Int))) (vy := (.int .i64 ((2000 : Nat) : Int))) (by kernel_rfl) (by kernel_rfl) fun w => bn_gtr (decide_eq_true hl) w) ?_
    refine lm (v := .bool true) rfl rfl ?_
    refine ln rfl ?_
    refine ln rfl ?_
    refine ln rfl ?_
    refine lm (v := .bool true) rfl rfl ?_
    refine wpL_done (fun W3 hW3 => ?_)
    refine (show Code.wp _ _ _ _ _ from ?_)
    refine wp_cond_true rfl ?_
    refine wp_seq ?_
    refine wp_region_L (W0 := w) [] (hW3) ?_
    refine lm (v := .bool true) rfl rfl ?_
    refine wpL_done (fun W4 hW4 => ?_)
    refine (show Code.wp _ _ _ _ _ from ?_)
    refine wp_ret ?_
    try simp only [inBlock_ret, then_ret]
    refine bodyPost_ret (v := .bool true) ?_ rfl ?_
    · kernel_rfl
    · exact ⟨rfl, (hW4).1⟩
  by_cases hl2 : 2000 < o.length
  · skip
    go_enter Try.func8, Try.ntmps8
    refine wp_seq ?_
    refine wp_region_L (W0 := w) [] (KS.start w) ?_
    refine lm (v := .bool false) rfl rfl ?_
    refine wpL_done (fun W1 hW1 => ?_)
    refine (show Code.wp _ _ _ _ _ from ?_)
    refine wp_seq ?_
    refine wp_seq ?_
    refine wp_region_L (W0 := w) [] (hW1) ?_
    refine lv (v := .bool true) rfl rfl (yb_call (f := 10) (args := #[]) (fun _ => by kernel_rfl) fun W hW => awake_any W) ?_
    refine lm (v := .bool false) rfl rfl ?_
    refine wpL_done (fun W2 hW2 => ?_)
    refine (show Code.wp _ _ _ _ _ from ?_)
    refine wp_cond_false rfl ?_
    refine wp_skip ?_
    refine (show Code.wp _ _ _ _ _ from ?_)
    refine wp_seq ?_
    refine wp_seq ?_
    refine wp_region_L (W0 := w) [] (hW2) ?_
    refine lm (v := strV t) rfl rfl ?_
    refine lp (v := .int .i64 ((t.length : Nat) : Int)) rfl rfl (run_lenS (l := t) rfl Try.underlying9 (by kernel_rfl)) ?_
    refine lp (v := .bool false) rfl rfl (run_bin rfl (vx := (.int .i64 ((t.length : Nat) : Int))) (vy := (.int .i64 ((2000 : Nat) : Int))) (by kernel_rfl) (by kernel_rfl) fun w => bn_gtr (decide_eq_false hl) w) ?_
    refine lm (v := .bool false) rfl rfl ?_
    refine lm (v := strV o) rfl rfl ?_
    refine lp (v := .int .i64 ((o.length : Nat) : Int)) rfl rfl (run_lenS (l := o) rfl Try.underlying9 (by kernel_rfl)) ?_
    refine lp (v := .bool true) rfl rfl (run_bin rfl (vx := (.int .i64 ((o.length : Nat) : Int))) (vy := (.int .i64 ((2000 : Nat) : Int))) (by kernel_rfl) (by kernel_rfl) fun w => bn_gtr (decide_eq_true hl2) w) ?_
    refine lm (v := .bool true) rfl rfl ?_
    refine wpL_done (fun W3 hW3 => ?_)
    refine (show Code.wp _ _ _ _ _ from ?_)
    refine wp_cond_true rfl ?_
    refine wp_seq ?_
    refine wp_region_L (W0 := w) [] (hW3) ?_
    refine lm (v := .bool true) rfl rfl ?_
    refine wpL_done (fun W4 hW4 => ?_)
    refine (show Code.wp _ _ _ _ _ from ?_)
    refine wp_ret ?_
    try simp only [inBlock_ret, then_ret]
    refine bodyPost_ret (v := .bool true) ?_ rfl ?_
    · kernel_rfl
    · exact ⟨rfl, (hW4).1⟩
  cases hr : readT t with
  | ok A0 =>
    go_enter Try.func8, Try.ntmps8
    refine wp_seq ?_
    refine wp_region_L (W0 := w) [] (KS.start w) ?_
    refine lm (v := .bool false) rfl rfl ?_
    refine wpL_done (fun W1 hW1 => ?_)
    refine (show Code.wp _ _ _ _ _ from ?_)
    refine wp_seq ?_
    refine wp_seq ?_
    refine wp_region_L (W0 := w) [] (hW1) ?_
    refine lv (v := .bool true) rfl rfl (yb_call (f := 10) (args := #[]) (fun _ => by kernel_rfl) fun W hW => awake_any W) ?_
    refine lm (v := .bool false) rfl rfl ?_
    refine wpL_done (fun W2 hW2 => ?_)
    refine (show Code.wp _ _ _ _ _ from ?_)
    refine wp_cond_false rfl ?_
    refine wp_skip ?_
    refine (show Code.wp _ _ _ _ _ from ?_)
    refine wp_seq ?_
    refine wp_seq ?_
    refine wp_region_L (W0 := w) [] (hW2) ?_
    refine lm (v := strV t) rfl rfl ?_
    refine lp (v := .int .i64 ((t.length : Nat) : Int)) rfl rfl (run_lenS (l := t) rfl Try.underlying9 (by kernel_rfl)) ?_
    refine lp (v := .bool false) rfl rfl (run_bin rfl (vx := (.int .i64 ((t.length : Nat) : Int))) (vy := (.int .i64 ((2000 : Nat) : Int))) (by kernel_rfl) (by kernel_rfl) fun w => bn_gtr (decide_eq_false hl) w) ?_
    refine lm (v := .bool false) rfl rfl ?_
    refine lm (v := strV o) rfl rfl ?_
    refine lp (v := .int .i64 ((o.length : Nat) : Int)) rfl rfl (run_lenS (l := o) rfl Try.underlying9 (by kernel_rfl)) ?_
    refine lp (v := .bool false) rfl rfl (run_bin rfl (vx := (.int .i64 ((o.length : Nat) : Int))) (vy := (.int .i64 ((2000 : Nat) : Int))) (by kernel_rfl) (by kernel_rfl) fun w => bn_gtr (decide_eq_false hl2) w) ?_
    refine lm (v := .bool false) rfl rfl ?_
    refine wpL_done (fun W3 hW3 => ?_)
    refine (show Code.wp _ _ _ _ _ from ?_)
    refine wp_cond_false rfl ?_
    refine wp_skip ?_
    refine (show Code.wp _ _ _ _ _ from ?_)
    refine wp_seq ?_
    refine wp_region_L (W0 := w) [] (hW3) ?_
    refine lm (v := strV t) rfl rfl ?_
    refine wpL_c (f := 15) (args := #[strV t]) (RdK w A0) rfl (by kernel_rfl) (fun _ => (by kernel_rfl)) (fun W hW => Read_ok hr (by first | omega | (simp only [List.length_append, List.length_cons, List.length_nil]; omega)) W (hW.sub (fun _ h => by cases h))) (fun _ => by simp only [List.setIfInBounds_toArray, List.set_cons_succ, List.set_cons_zero] <;> rfl) ?_
    rintro _ T1 ⟨p1, c1, rfl, M1⟩
    refine lm (v := .tuple #[.slice p1 A0.length c1, .int .i64 0, .int .i64 0]) rfl rfl ?_
    refine lm (v := .slice p1 A0.length c1) rfl rfl ?_
    refine lm (v := .int .i64 0) rfl rfl ?_
    refine lm (v := .int .i64 0) rfl rfl ?_
    refine lm (v := .slice p1 A0.length c1) rfl rfl ?_
    refine lm (v := .int .i64 0) rfl rfl ?_
    refine lm (v := .int .i64 0) rfl rfl ?_
    refine wpL_done (fun W4 hW4 => ?_)
    have HB3 := Lib.hid ((lv_lvp ((sgo_sgr M1) W4 ((hW4).sub (fun p hp => by first | exact hp | (simp only [List.mem_cons, List.mem_append, List.nil_append, List.not_mem_nil, or_assoc, or_false, false_or, List.cons_append, List.append_assoc] at hp ⊢ <;> grind))))))
    have hbz2 : Below w.heap.size w W4 := (hW4).1
    refine (show Code.wp _ _ _ _ _ from ?_)
    refine wp_seq ?_
    refine wp_seq ?_
    refine wp_region_L (W0 := W4) [] (KS.start W4) ?_
    refine lm (v := .int .i64 0) rfl rfl ?_
    refine lm (v := .bool true) rfl rfl ?_
    refine lm (v := .bool true) rfl rfl ?_
    refine ln rfl ?_
    refine ln rfl ?_
    refine lm (v := .bool true) rfl rfl ?_
    refine wpL_done (fun W5 hW5 => ?_)
    refine (show Code.wp _ _ _ _ _ from ?_)
    refine wp_cond_true rfl ?_
    refine wp_seq ?_
    refine wp_region_L (W0 := W4) [] (hW5) ?_
    refine lm (v := .bool true) rfl rfl ?_
    refine wpL_done (fun W6 hW6 => ?_)
    refine (show Code.wp _ _ _ _ _ from ?_)
    refine wp_ret ?_
    try simp only [inBlock_ret, then_ret]
    refine bodyPost_ret (v := .bool true) ?_ rfl ?_
    · kernel_rfl
    · exact ⟨rfl, (Below.trans hbz2 (Below.mono (hW6).1 hbz2.size))⟩
  | bad p er =>
    have hp := read_where hr (by omega)
    have hne : ¬ er = 0 := bad_ne hr
    by_cases h42 : er = 42
    · skip
      go_enter Try.func8, Try.ntmps8
      refine wp_seq ?_
      refine wp_region_L (W0 := w) [] (KS.start w) ?_
      refine lm (v := .bool false) rfl rfl ?_
      refine wpL_done (fun W1 hW1 => ?_)
      refine (show Code.wp _ _ _ _ _ from ?_)
      refine wp_seq ?_
      refine wp_seq ?_
      refine wp_region_L (W0 := w) [] (hW1) ?_
      refine lv (v := .bool true) rfl rfl (yb_call (f := 10) (args := #[]) (fun _ => by kernel_rfl) fun W hW => awake_any W) ?_
      refine lm (v := .bool false) rfl rfl ?_
      refine wpL_done (fun W2 hW2 => ?_)
      refine (show Code.wp _ _ _ _ _ from ?_)
      refine wp_cond_false rfl ?_
      refine wp_skip ?_
      refine (show Code.wp _ _ _ _ _ from ?_)
      refine wp_seq ?_
      refine wp_seq ?_
      refine wp_region_L (W0 := w) [] (hW2) ?_
      refine lm (v := strV t) rfl rfl ?_
      refine lp (v := .int .i64 ((t.length : Nat) : Int)) rfl rfl (run_lenS (l := t) rfl Try.underlying9 (by kernel_rfl)) ?_
      refine lp (v := .bool false) rfl rfl (run_bin rfl (vx := (.int .i64 ((t.length : Nat) : Int))) (vy := (.int .i64 ((2000 : Nat) : Int))) (by kernel_rfl) (by kernel_rfl) fun w => bn_gtr (decide_eq_false hl) w) ?_
      refine lm (v := .bool false) rfl rfl ?_
      refine lm (v := strV o) rfl rfl ?_
      refine lp (v := .int .i64 ((o.length : Nat) : Int)) rfl rfl (run_lenS (l := o) rfl Try.underlying9 (by kernel_rfl)) ?_
      refine lp (v := .bool false) rfl rfl (run_bin rfl (vx := (.int .i64 ((o.length : Nat) : Int))) (vy := (.int .i64 ((2000 : Nat) : Int))) (by kernel_rfl) (by kernel_rfl) fun w => bn_gtr (decide_eq_false hl2) w) ?_
      refine lm (v := .bool false) rfl rfl ?_
      refine wpL_done (fun W3 hW3 => ?_)
      refine (show Code.wp _ _ _ _ _ from ?_)
      refine wp_cond_false rfl ?_
      refine wp_skip ?_
      refine (show Code.wp _ _ _ _ _ from ?_)
      refine wp_seq ?_
      refine wp_region_L (W0 := w) [] (hW3) ?_
      refine lm (v := strV t) rfl rfl ?_
      refine wpL_c (f := 15) (args := #[strV t]) (fun v Tz => v = .tuple #[.slice none 0 0, .int .i64 ((p : Nat) : Int), .int .i64 ((er : Nat) : Int)] ∧ Tz = []) rfl (by kernel_rfl) (fun _ => (by kernel_rfl)) (fun W hW => Read_bad hr (by first | omega | (simp only [List.length_append, List.length_cons, List.length_nil]; omega)) W (hW.sub (fun _ h => by cases h))) (fun _ => by simp only [List.setIfInBounds_toArray, List.set_cons_succ, List.set_cons_zero] <;> rfl) ?_
      rintro _ _ ⟨rfl, rfl⟩
      refine lm (v := .tuple #[.slice none 0 0, .int .i64 ((p : Nat) : Int), .int .i64 ((er : Nat) : Int)]) rfl rfl ?_
      refine lm (v := .slice none 0 0) rfl rfl ?_
      refine lm (v := .int .i64 ((p : Nat) : Int)) rfl rfl ?_
      refine lm (v := .int .i64 ((er : Nat) : Int)) rfl rfl ?_
      refine lm (v := .slice none 0 0) rfl rfl ?_
      refine lm (v := .int .i64 ((p : Nat) : Int)) rfl rfl ?_
      refine lm (v := .int .i64 ((er : Nat) : Int)) rfl rfl ?_
      refine wpL_done (fun W4 hW4 => ?_)
      refine (show Code.wp _ _ _ _ _ from ?_)
      refine wp_seq ?_
      refine wp_seq ?_
      refine wp_region_L (W0 := w) [] (hW4) ?_
      refine lm (v := .int .i64 ((er : Nat) : Int)) rfl rfl ?_
      refine lp (v := .bool false) rfl rfl (run_bin rfl (vx := (.int .i64 ((er : Nat) : Int))) (vy := (.int .i64 ((0 : Nat) : Int))) (by kernel_rfl) (by kernel_rfl) fun w => bn_eql (decide_eq_false hne) w) ?_
      refine lm (v := .bool false) rfl rfl ?_
      refine lm (v := .int .i64 ((er : Nat) : Int)) rfl rfl ?_
      refine lp (v := .bool true) rfl rfl (run_bin rfl (vx := (.int .i64 ((er : Nat) : Int))) (vy := (.int .i64 ((42 : Nat) : Int))) (by kernel_rfl) (by kernel_rfl) fun w => bn_eql (decide_eq_true h42) w) ?_
      refine lm (v := .bool true) rfl rfl ?_
      refine wpL_done (fun W5 hW5 => ?_)
      refine (show Code.wp _ _ _ _ _ from ?_)
      refine wp_cond_true rfl ?_
      refine wp_seq ?_
      refine wp_region_L (W0 := w) [] (hW5) ?_
      refine lm (v := .bool true) rfl rfl ?_
      refine wpL_done (fun W6 hW6 => ?_)
      refine (show Code.wp _ _ _ _ _ from ?_)
      refine wp_ret ?_
      try simp only [inBlock_ret, then_ret]
      refine bodyPost_ret (v := .bool true) ?_ rfl ?_
      · kernel_rfl
      · exact ⟨rfl, (hW6).1⟩
    obtain ⟨x, hx, h1, h2⟩ := read_first hr (by omega) h42
    have hpl := (List.getElem?_eq_some_iff.1 hx).1
    have h1 : ∃ A1, readT (t.take p) = .ok A1 ∨ readT (t.take p) = .bad p 42 := by
      rcases h1 with ⟨A1, h⟩ | h
      · exact ⟨A1, .inl h⟩
      · exact ⟨[], .inr h⟩
    obtain ⟨A1, h1⟩ := h1
    have ltp : (t.take p).length = p := by rw [List.length_take]; omega
    have lt2 : (t.take (p + 2)).length ≤ t.length := by rw [List.length_take]; omega
    have lt1 : (t.take (p + 1)).length ≤ t.length := by rw [List.length_take]; omega
    rcases h1 with h1 | h1
    · skip
      by_cases h63 : x.toNat = 63
      · rcases h2 with ⟨_, he, hend⟩ | h2
        · skip
          go_enter Try.func8, Try.ntmps8
          refine wp_seq ?_
          refine wp_region_L (W0 := w) [] (KS.start w) ?_
          refine lm (v := .bool false) rfl rfl ?_
          refine wpL_done (fun W1 hW1 => ?_)
          refine (show Code.wp _ _ _ _ _ from ?_)
          refine wp_seq ?_
          refine wp_seq ?_
          refine wp_region_L (W0 := w) [] (hW1) ?_
          refine lv (v := .bool true) rfl rfl (yb_call (f := 10) (args := #[]) (fun _ => by kernel_rfl) fun W hW => awake_any W) ?_
          refine lm (v := .bool false) rfl rfl ?_
          refine wpL_done (fun W2 hW2 => ?_)
          refine (show Code.wp _ _ _ _ _ from ?_)
          refine wp_cond_false rfl ?_
          refine wp_skip ?_
          refine (show Code.wp _ _ _ _ _ from ?_)
          refine wp_seq ?_
          refine wp_seq ?_
          refine wp_region_L (W0 := w) [] (hW2) ?_
          refine lm (v := strV t) rfl rfl ?_
          refine lp (v := .int .i64 ((t.length : Nat) : Int)) rfl rfl (run_lenS (l := t) rfl Try.underlying9 (by kernel_rfl)) ?_
          refine lp (v := .bool false) rfl rfl (run_bin rfl (vx := (.int .i64 ((t.length : Nat) : Int))) (vy := (.int .i64 ((2000 : Nat) : Int))) (by kernel_rfl) (by kernel_rfl) fun w => bn_gtr (decide_eq_false hl) w) ?_
          refine lm (v := .bool false) rfl rfl ?_
          refine lm (v := strV o) rfl rfl ?_
          refine lp (v := .int .i64 ((o.length : Nat) : Int)) rfl rfl (run_lenS (l := o) rfl Try.underlying9 (by kernel_rfl)) ?_
          refine lp (v := .bool false) rfl rfl (run_bin rfl (vx := (.int .i64 ((o.length : Nat) : Int))) (vy := (.int .i64 ((2000 : Nat) : Int))) (by kernel_rfl) (by kernel_rfl) fun w => bn_gtr (decide_eq_false hl2) w) ?_
          refine lm (v := .bool false) rfl rfl ?_
          refine wpL_done (fun W3 hW3 => ?_)
          refine (show Code.wp _ _ _ _ _ from ?_)
          refine wp_cond_false rfl ?_
          refine wp_skip ?_
          refine (show Code.wp _ _ _ _ _ from ?_)
          refine wp_seq ?_
          refine wp_region_L (W0 := w) [] (hW3) ?_
          refine lm (v := strV t) rfl rfl ?_
          refine wpL_c (f := 15) (args := #[strV t]) (fun v Tz => v = .tuple #[.slice none 0 0, .int .i64 ((p : Nat) : Int), .int .i64 ((er : Nat) : Int)] ∧ Tz = []) rfl (by kernel_rfl) (fun _ => (by kernel_rfl)) (fun W hW => Read_bad hr (by first | omega | (simp only [List.length_append, List.length_cons, List.length_nil]; omega)) W (hW.sub (fun _ h => by cases h))) (fun _ => by simp only [List.setIfInBounds_toArray, List.set_cons_succ, List.set_cons_zero] <;> rfl) ?_
          rintro _ _ ⟨rfl, rfl⟩
          refine lm (v := .tuple #[.slice none 0 0, .int .i64 ((p : Nat) : Int), .int .i64 ((er : Nat) : Int)]) rfl rfl ?_
          refine lm (v := .slice none 0 0) rfl rfl ?_
          refine lm (v := .int .i64 ((p : Nat) : Int)) rfl rfl ?_
          refine lm (v := .int .i64 ((er : Nat) : Int)) rfl rfl ?_
          refine lm (v := .slice none 0 0) rfl rfl ?_
          refine lm (v := .int .i64 ((p : Nat) : Int)) rfl rfl ?_
          refine lm (v := .int .i64 ((er : Nat) : Int)) rfl rfl ?_
          refine wpL_done (fun W4 hW4 => ?_)
          refine (show Code.wp _ _ _ _ _ from ?_)
          refine wp_seq ?_
          refine wp_seq ?_
          refine wp_region_L (W0 := w) [] (hW4) ?_
          refine lm (v := .int .i64 ((er : Nat) : Int)) rfl rfl ?_
          refine lp (v := .bool false) rfl rfl (run_bin rfl (vx := (.int .i64 ((er : Nat) : Int))) (vy := (.int .i64 ((0 : Nat) : Int))) (by kernel_rfl) (by kernel_rfl) fun w => bn_eql (decide_eq_false hne) w) ?_
          refine lm (v := .bool false) rfl rfl ?_
          refine lm (v := .int .i64 ((er : Nat) : Int)) rfl rfl ?_
          refine lp (v := .bool false) rfl rfl (run_bin rfl (vx := (.int .i64 ((er : Nat) : Int))) (vy := (.int .i64 ((42 : Nat) : Int))) (by kernel_rfl) (by kernel_rfl) fun w => bn_eql (decide_eq_false h42) w) ?_
          refine lm (v := .bool false) rfl rfl ?_
          refine wpL_done (fun W5 hW5 => ?_)
          refine (show Code.wp _ _ _ _ _ from ?_)
          refine wp_cond_false rfl ?_
          refine wp_skip ?_
          refine (show Code.wp _ _ _ _ _ from ?_)
          refine wp_seq ?_
          refine wp_region_L (W0 := w) [] (hW5) ?_
          refine lm (v := strV t) rfl rfl ?_
          refine lm (v := .int .i64 ((p : Nat) : Int)) rfl rfl ?_
          refine lp (v := strV (t.take p)) rfl rfl (run_slH (k2 := .i64) (l := t) (r := (t.take p)) (j := p) rfl Try.underlying9 (by kernel_rfl) (by kernel_rfl) (by omega) rfl) ?_
          refine wpL_c (f := 15) (args := #[strV (t.take p)]) (RdK w A1) rfl (by kernel_rfl) (fun _ => (by kernel_rfl)) (fun W hW => Read_ok h1 (by omega) W (hW.sub (fun _ h => by cases h))) (fun _ => by simp only [List.setIfInBounds_toArray, List.set_cons_succ, List.set_cons_zero] <;> rfl) ?_
          rintro _ T2 ⟨p2, c2, rfl, M2⟩
          refine lm (v := .tuple #[.slice p2 A1.length c2, .int .i64 0, .int .i64 0]) rfl rfl ?_
          refine lm (v := .slice p2 A1.length c2) rfl rfl ?_
          refine lm (v := .int .i64 0) rfl rfl ?_
          refine lm (v := .int .i64 0) rfl rfl ?_
          refine lm (v := .slice p2 A1.length c2) rfl rfl ?_
          refine lm (v := .int .i64 0) rfl rfl ?_
          refine lm (v := .int .i64 0) rfl rfl ?_
          refine wpL_done (fun W6 hW6 => ?_)
          have HB4 := Lib.hid ((lv_lvp ((sgo_sgr M2) W6 ((hW6).sub (fun p hp => by first | exact hp | (simp only [List.mem_cons, List.mem_append, List.nil_append, List.not_mem_nil, or_assoc, or_false, false_or, List.cons_append, List.append_assoc] at hp ⊢ <;> grind))))))
          have hbz3 : Below w.heap.size w W6 := (hW6).1
          refine (show Code.wp _ _ _ _ _ from ?_)
          refine wp_seq ?_
          refine wp_seq ?_
          refine wp_region_L (W0 := W6) [] (KS.start W6) ?_
          refine lm (v := .int .i64 0) rfl rfl ?_
          refine lm (v := .bool false) rfl rfl ?_
          refine lm (v := .bool false) rfl rfl ?_
          refine ln rfl ?_
          refine ln rfl ?_
          refine ln rfl ?_
          refine ln rfl ?_
          refine ln rfl ?_
          refine ln rfl ?_
          refine ln rfl ?_
          refine lm (v := .bool false) rfl rfl ?_
          refine wpL_done (fun W7 hW7 => ?_)
          refine (show Code.wp _ _ _ _ _ from ?_)
          refine wp_cond_false rfl ?_
          refine wp_skip ?_
          refine (show Code.wp _ _ _ _ _ from ?_)
          refine wp_seq ?_
          refine wp_region_L (W0 := W6) [] (hW7) ?_
          refine lm (v := .int .i64 ((p : Nat) : Int)) rfl rfl ?_
          refine lp (v := .int .i64 (((p + 1) : Nat) : Int)) rfl rfl (run_bin rfl (vx := (.int .i64 ((p : Nat) : Int))) (vy := (.int .i64 ((1 : Nat) : Int))) (by kernel_rfl) (by kernel_rfl) fun w => bn_add (z := (p + 1)) rfl (wr_i64 (by omega)) w) ?_
          refine lm (v := .int .i64 (((p + 1) : Nat) : Int)) rfl rfl ?_
          refine wpL_done (fun W8 hW8 => ?_)
          refine (show Code.wp _ _ _ _ _ from ?_)
          refine wp_seq ?_
          refine wp_seq ?_
          refine wp_region_L (W0 := W6) [] (hW8) ?_
          refine lm (v := strV t) rfl rfl ?_
          refine lm (v := .int .i64 ((p : Nat) : Int)) rfl rfl ?_
          refine lp (v := .int .u8 ((x.toNat : Nat) : Int)) rfl rfl (run_idxS (j := .i64) (l := t) (k := p) (b := x) rfl Try.underlying9 (by kernel_rfl) (by kernel_rfl) hx) ?_
          refine lp (v := .bool true) rfl rfl (run_bin rfl (vx := (.int .u8 ((x.toNat : Nat) : Int))) (vy := (.int .u8 ((63 : Nat) : Int))) (by kernel_rfl) (by kernel_rfl) fun w => bn_eql (decide_eq_true h63) w) ?_
          refine wpL_done (fun W9 hW9 => ?_)
          refine (show Code.wp _ _ _ _ _ from ?_)
          refine wp_cond_true rfl ?_
          refine wp_region_L (W0 := W6) [] (hW9) ?_
          refine lm (v := .int .i64 ((p : Nat) : Int)) rfl rfl ?_
          refine lp (v := .int .i64 (((p + 2) : Nat) : Int)) rfl rfl (run_bin rfl (vx := (.int .i64 ((p : Nat) : Int))) (vy := (.int .i64 ((2 : Nat) : Int))) (by kernel_rfl) (by kernel_rfl) fun w => bn_add (z := (p + 2)) rfl (wr_i64 (by omega)) w) ?_
          refine lm (v := strV t) rfl rfl ?_
          refine lp (v := .int .i64 ((t.length : Nat) : Int)) rfl rfl (run_lenS (l := t) rfl Try.underlying9 (by kernel_rfl)) ?_
          refine lp (v := .int .i64 ((t.length : Nat) : Int)) rfl rfl (run_minR (k := .i64) (k2 := .i64) (u := (((p + 2) : Nat) : Int)) (v := ((t.length : Nat) : Int)) rfl (by kernel_rfl) (by kernel_rfl) (by rw [if_pos (by omega)])) ?_
          refine lm (v := .int .i64 ((t.length : Nat) : Int)) rfl rfl ?_
          refine wpL_done (fun W10 hW10 => ?_)
          refine (show Code.wp _ _ _ _ _ from ?_)
          refine wp_seq ?_
          refine wp_seq ?_
          refine wp_region_L (W0 := W6) [] (hW10) ?_
          refine lm (v := .int .i64 ((er : Nat) : Int)) rfl rfl ?_
          refine lp (v := .bool true) rfl rfl (run_bin rfl (vx := (.int .i64 ((er : Nat) : Int))) (vy := (.int .i64 ((41 : Nat) : Int))) (by kernel_rfl) (by kernel_rfl) fun w => bn_eql (decide_eq_true he) w) ?_
          refine lm (v := .bool true) rfl rfl ?_
          refine lm (v := .int .i64 ((t.length : Nat) : Int)) rfl rfl ?_
          refine lm (v := .int .i64 ((p : Nat) : Int)) rfl rfl ?_
          refine lp (v := .int .i64 (((p + 1) : Nat) : Int)) rfl rfl (run_bin rfl (vx := (.int .i64 ((p : Nat) : Int))) (vy := (.int .i64 ((1 : Nat) : Int))) (by kernel_rfl) (by kernel_rfl) fun w => bn_add (z := (p + 1)) rfl (wr_i64 (by omega)) w) ?_
          refine lp (v := .bool true) rfl rfl (run_bin rfl (vx := (.int .i64 ((t.length : Nat) : Int))) (vy := (.int .i64 (((p + 1) : Nat) : Int))) (by kernel_rfl) (by kernel_rfl) fun w => bn_eql (decide_eq_true hend.symm) w) ?_
          refine lm (v := .bool true) rfl rfl ?_
          refine wpL_done (fun W11 hW11 => ?_)
          refine (show Code.wp _ _ _ _ _ from ?_)
          refine wp_cond_true rfl ?_
          refine wp_seq ?_
          refine wp_region_L (W0 := W6) [] (hW11) ?_
          refine lm (v := .bool true) rfl rfl ?_
          refine wpL_done (fun W12 hW12 => ?_)
          refine (show Code.wp _ _ _ _ _ from ?_)
          refine wp_ret ?_
          try simp only [inBlock_ret, then_ret]
          refine bodyPost_ret (v := .bool true) ?_ rfl ?_
          · kernel_rfl
          · exact ⟨rfl, (Below.trans hbz3 (Below.mono (hW12).1 hbz3.size))⟩
        by_cases hend : t.length < p + 2
        · by_cases he : er = 41
          · skip
            go_enter Try.func8, Try.ntmps8
            refine wp_seq ?_
            refine wp_region_L (W0 := w) [] (KS.start w) ?_
            refine lm (v := .bool false) rfl rfl ?_
            refine wpL_done (fun W1 hW1 => ?_)
            refine (show Code.wp _ _ _ _ _ from ?_)
            refine wp_seq ?_
            refine wp_seq ?_
            refine wp_region_L (W0 := w) [] (hW1) ?_
            refine lv (v := .bool true) rfl rfl (yb_call (f := 10) (args := #[]) (fun _ => by kernel_rfl) fun W hW => awake_any W) ?_
            refine lm (v := .bool false) rfl rfl ?_
            refine wpL_done (fun W2 hW2 => ?_)
            refine (show Code.wp _ _ _ _ _ from ?_)
            refine wp_cond_false rfl ?_
            refine wp_skip ?_
            refine (show Code.wp _ _ _ _ _ from ?_)
            refine wp_seq ?_
            refine wp_seq ?_
            refine wp_region_L (W0 := w) [] (hW2) ?_
            refine lm (v := strV t) rfl rfl ?_
            refine lp (v := .int .i64 ((t.length : Nat) : Int)) rfl rfl (run_lenS (l := t) rfl Try.underlying9 (by kernel_rfl)) ?_
            refine lp (v := .bool false) rfl rfl (run_bin rfl (vx := (.int .i64 ((t.length : Nat) : Int))) (vy := (.int .i64 ((2000 : Nat) : Int))) (by kernel_rfl) (by kernel_rfl) fun w => bn_gtr (decide_eq_false hl) w) ?_
            refine lm (v := .bool false) rfl rfl ?_
            refine lm (v := strV o) rfl rfl ?_
            refine lp (v := .int .i64 ((o.length : Nat) : Int)) rfl rfl (run_lenS (l := o) rfl Try.underlying9 (by kernel_rfl)) ?_
            refine lp (v := .bool false) rfl rfl (run_bin rfl (vx := (.int .i64 ((o.length : Nat) : Int))) (vy := (.int .i64 ((2000 : Nat) : Int))) (by kernel_rfl) (by kernel_rfl) fun w => bn_gtr (decide_eq_false hl2) w) ?_
            refine lm (v := .bool false) rfl rfl ?_
            refine wpL_done (fun W3 hW3 => ?_)
            refine (show Code.wp _ _ _ _ _ from ?_)
            refine wp_cond_false rfl ?_
            refine wp_skip ?_
            refine (show Code.wp _ _ _ _ _ from ?_)
            refine wp_seq ?_
            refine wp_region_L (W0 := w) [] (hW3) ?_
            refine lm (v := strV t) rfl rfl ?_
            refine wpL_c (f := 15) (args := #[strV t]) (fun v Tz => v = .tuple #[.slice none 0 0, .int .i64 ((p : Nat) : Int), .int .i64 ((er : Nat) : Int)] ∧ Tz = []) rfl (by kernel_rfl) (fun _ => (by kernel_rfl)) (fun W hW => Read_bad hr (by first | omega | (simp only [List.length_append, List.length_cons, List.length_nil]; omega)) W (hW.sub (fun _ h => by cases h))) (fun _ => by simp only [List.setIfInBounds_toArray, List.set_cons_succ, List.set_cons_zero] <;> rfl) ?_
            rintro _ _ ⟨rfl, rfl⟩
            refine lm (v := .tuple #[.slice none 0 0, .int .i64 ((p : Nat) : Int), .int .i64 ((er : Nat) : Int)]) rfl rfl ?_
            refine lm (v := .slice none 0 0) rfl rfl ?_
            refine lm (v := .int .i64 ((p : Nat) : Int)) rfl rfl ?_
            refine lm (v := .int .i64 ((er : Nat) : Int)) rfl rfl ?_
            refine lm (v := .slice none 0 0) rfl rfl ?_
            refine lm (v := .int .i64 ((p : Nat) : Int)) rfl rfl ?_
            refine lm (v := .int .i64 ((er : Nat) : Int)) rfl rfl ?_
            refine wpL_done (fun W4 hW4 => ?_)
            refine (show Code.wp _ _ _ _ _ from ?_)
            refine wp_seq ?_
            refine wp_seq ?_
            refine wp_region_L (W0 := w) [] (hW4) ?_
            refine lm (v := .int .i64 ((er : Nat) : Int)) rfl rfl ?_
            refine lp (v := .bool false) rfl rfl (run_bin rfl (vx := (.int .i64 ((er : Nat) : Int))) (vy := (.int .i64 ((0 : Nat) : Int))) (by kernel_rfl) (by kernel_rfl) fun w => bn_eql (decide_eq_false hne) w) ?_
            refine lm (v := .bool false) rfl rfl ?_
            refine lm (v := .int .i64 ((er : Nat) : Int)) rfl rfl ?_
            refine lp (v := .bool false) rfl rfl (run_bin rfl (vx := (.int .i64 ((er : Nat) : Int))) (vy := (.int .i64 ((42 : Nat) : Int))) (by kernel_rfl) (by kernel_rfl) fun w => bn_eql (decide_eq_false h42) w) ?_
            refine lm (v := .bool false) rfl rfl ?_
            refine wpL_done (fun W5 hW5 => ?_)
            refine (show Code.wp _ _ _ _ _ from ?_)
            refine wp_cond_false rfl ?_
            refine wp_skip ?_
            refine (show Code.wp _ _ _ _ _ from ?_)
            refine wp_seq ?_
            refine wp_region_L (W0 := w) [] (hW5) ?_
            refine lm (v := strV t) rfl rfl ?_
            refine lm (v := .int .i64 ((p : Nat) : Int)) rfl rfl ?_
            refine lp (v := strV (t.take p)) rfl rfl (run_slH (k2 := .i64) (l := t) (r := (t.take p)) (j := p) rfl Try.underlying9 (by kernel_rfl) (by kernel_rfl) (by omega) rfl) ?_
            refine wpL_c (f := 15) (args := #[strV (t.take p)]) (RdK w A1) rfl (by kernel_rfl) (fun _ => (by kernel_rfl)) (fun W hW => Read_ok h1 (by omega) W (hW.sub (fun _ h => by cases h))) (fun _ => by simp only [List.setIfInBounds_toArray, List.set_cons_succ, List.set_cons_zero] <;> rfl) ?_
            rintro _ T2 ⟨p2, c2, rfl, M2⟩
            refine lm (v := .tuple #[.slice p2 A1.length c2, .int .i64 0, .int .i64 0]) rfl rfl ?_
            refine lm (v := .slice p2 A1.length c2) rfl rfl ?_
            refine lm (v := .int .i64 0) rfl rfl ?_
            refine lm (v := .int .i64 0) rfl rfl ?_
            refine lm (v := .slice p2 A1.length c2) rfl rfl ?_
            refine lm (v := .int .i64 0) rfl rfl ?_
            refine lm (v := .int .i64 0) rfl rfl ?_
            refine wpL_done (fun W6 hW6 => ?_)
            have HB4 := Lib.hid ((lv_lvp ((sgo_sgr M2) W6 ((hW6).sub (fun p hp => by first | exact hp | (simp only [List.mem_cons, List.mem_append, List.nil_append, List.not_mem_nil, or_assoc, or_false, false_or, List.cons_append, List.append_assoc] at hp ⊢ <;> grind))))))
            have hbz3 : Below w.heap.size w W6 := (hW6).1
            refine (show Code.wp _ _ _ _ _ from ?_)
            refine wp_seq ?_
            refine wp_seq ?_
            refine wp_region_L (W0 := W6) [] (KS.start W6) ?_
            refine lm (v := .int .i64 0) rfl rfl ?_
            refine lm (v := .bool false) rfl rfl ?_
            refine lm (v := .bool false) rfl rfl ?_
            refine ln rfl ?_
            refine ln rfl ?_
            refine ln rfl ?_
            refine ln rfl ?_
            refine ln rfl ?_
            refine ln rfl ?_
            refine ln rfl ?_
            refine lm (v := .bool false) rfl rfl ?_
            refine wpL_done (fun W7 hW7 => ?_)
            refine (show Code.wp _ _ _ _ _ from ?_)
            refine wp_cond_false rfl ?_
            refine wp_skip ?_
            refine (show Code.wp _ _ _ _ _ from ?_)
            refine wp_seq ?_
            refine wp_region_L (W0 := W6) [] (hW7) ?_
            refine lm (v := .int .i64 ((p : Nat) : Int)) rfl rfl ?_
            refine lp (v := .int .i64 (((p + 1) : Nat) : Int)) rfl rfl (run_bin rfl (vx := (.int .i64 ((p : Nat) : Int))) (vy := (.int .i64 ((1 : Nat) : Int))) (by kernel_rfl) (by kernel_rfl) fun w => bn_add (z := (p + 1)) rfl (wr_i64 (by omega)) w) ?_
            refine lm (v := .int .i64 (((p + 1) : Nat) : Int)) rfl rfl ?_
            refine wpL_done (fun W8 hW8 => ?_)
            refine (show Code.wp _ _ _ _ _ from ?_)
            refine wp_seq ?_
            refine wp_seq ?_
            refine wp_region_L (W0 := W6) [] (hW8) ?_
            refine lm (v := strV t) rfl rfl ?_
            refine lm (v := .int .i64 ((p : Nat) : Int)) rfl rfl ?_
            refine lp (v := .int .u8 ((x.toNat : Nat) : Int)) rfl rfl (run_idxS (j := .i64) (l := t) (k := p) (b := x) rfl Try.underlying9 (by kernel_rfl) (by kernel_rfl) hx) ?_
            refine lp (v := .bool true) rfl rfl (run_bin rfl (vx := (.int .u8 ((x.toNat : Nat) : Int))) (vy := (.int .u8 ((63 : Nat) : Int))) (by kernel_rfl) (by kernel_rfl) fun w => bn_eql (decide_eq_true h63) w) ?_
            refine wpL_done (fun W9 hW9 => ?_)
            refine (show Code.wp _ _ _ _ _ from ?_)
            refine wp_cond_true rfl ?_
            refine wp_region_L (W0 := W6) [] (hW9) ?_
            refine lm (v := .int .i64 ((p : Nat) : Int)) rfl rfl ?_
            refine lp (v := .int .i64 (((p + 2) : Nat) : Int)) rfl rfl (run_bin rfl (vx := (.int .i64 ((p : Nat) : Int))) (vy := (.int .i64 ((2 : Nat) : Int))) (by kernel_rfl) (by kernel_rfl) fun w => bn_add (z := (p + 2)) rfl (wr_i64 (by omega)) w) ?_
            refine lm (v := strV t) rfl rfl ?_
            refine lp (v := .int .i64 ((t.length : Nat) : Int)) rfl rfl (run_lenS (l := t) rfl Try.underlying9 (by kernel_rfl)) ?_
            refine lp (v := .int .i64 ((t.length : Nat) : Int)) rfl rfl (run_minR (k := .i64) (k2 := .i64) (u := (((p + 2) : Nat) : Int)) (v := ((t.length : Nat) : Int)) rfl (by kernel_rfl) (by kernel_rfl) (by rw [if_pos (by omega)])) ?_
            refine lm (v := .int .i64 ((t.length : Nat) : Int)) rfl rfl ?_
            refine wpL_done (fun W10 hW10 => ?_)
            refine (show Code.wp _ _ _ _ _ from ?_)
            refine wp_seq ?_
            refine wp_seq ?_
            refine wp_region_L (W0 := W6) [] (hW10) ?_
            refine lm (v := .int .i64 ((er : Nat) : Int)) rfl rfl ?_
            refine lp (v := .bool true) rfl rfl (run_bin rfl (vx := (.int .i64 ((er : Nat) : Int))) (vy := (.int .i64 ((41 : Nat) : Int))) (by kernel_rfl) (by kernel_rfl) fun w => bn_eql (decide_eq_true he) w) ?_
            refine lm (v := .bool true) rfl rfl ?_
            refine lm (v := .int .i64 ((t.length : Nat) : Int)) rfl rfl ?_
            refine lm (v := .int .i64 ((p : Nat) : Int)) rfl rfl ?_
            refine lp (v := .int .i64 (((p + 1) : Nat) : Int)) rfl rfl (run_bin rfl (vx := (.int .i64 ((p : Nat) : Int))) (vy := (.int .i64 ((1 : Nat) : Int))) (by kernel_rfl) (by kernel_rfl) fun w => bn_add (z := (p + 1)) rfl (wr_i64 (by omega)) w) ?_
            refine lp (v := .bool true) rfl rfl (run_bin rfl (vx := (.int .i64 ((t.length : Nat) : Int))) (vy := (.int .i64 (((p + 1) : Nat) : Int))) (by kernel_rfl) (by kernel_rfl) fun w => bn_eql (decide_eq_true (by omega)) w) ?_
            refine lm (v := .bool true) rfl rfl ?_
            refine wpL_done (fun W11 hW11 => ?_)
            refine (show Code.wp _ _ _ _ _ from ?_)
            refine wp_cond_true rfl ?_
            refine wp_seq ?_
            refine wp_region_L (W0 := W6) [] (hW11) ?_
            refine lm (v := .bool true) rfl rfl ?_
            refine wpL_done (fun W12 hW12 => ?_)
            refine (show Code.wp _ _ _ _ _ from ?_)
            refine wp_ret ?_
            try simp only [inBlock_ret, then_ret]
            refine bodyPost_ret (v := .bool true) ?_ rfl ?_
            · kernel_rfl
            · exact ⟨rfl, (Below.trans hbz3 (Below.mono (hW12).1 hbz3.size))⟩
          exact absurd (last_q hr hx h63 (by omega) (by omega)) he
        have h3 : readT (t.take (p + 2) ++ o) = .bad p er := h2 (p + 2) o (by omega) (fun _ => by omega) (by rw [List.length_append, List.length_take]; omega) (by omega)
        go_enter Try.func8, Try.ntmps8
        refine wp_seq ?_
        refine wp_region_L (W0 := w) [] (KS.start w) ?_
        refine lm (v := .bool false) rfl rfl ?_
        refine wpL_done (fun W1 hW1 => ?_)
        refine (show Code.wp _ _ _ _ _ from ?_)
        refine wp_seq ?_
        refine wp_seq ?_
        refine wp_region_L (W0 := w) [] (hW1) ?_
        refine lv (v := .bool true) rfl rfl (yb_call (f := 10) (args := #[]) (fun _ => by kernel_rfl) fun W hW => awake_any W) ?_
        refine lm (v := .bool false) rfl rfl ?_
        refine wpL_done (fun W2 hW2 => ?_)
        refine (show Code.wp _ _ _ _ _ from ?_)
        refine wp_cond_false rfl ?_
        refine wp_skip ?_
        refine (show Code.wp _ _ _ _ _ from ?_)
        refine wp_seq ?_
        refine wp_seq ?_
        refine wp_region_L (W0 := w) [] (hW2) ?_
        refine lm (v := strV t) rfl rfl ?_
        refine lp (v := .int .i64 ((t.length : Nat) : Int)) rfl rfl (run_lenS (l := t) rfl Try.underlying9 (by kernel_rfl)) ?_
        refine lp (v := .bool false) rfl rfl (run_bin rfl (vx := (.int .i64 ((t.length : Nat) : Int))) (vy := (.int .i64 ((2000 : Nat) : Int))) (by kernel_rfl) (by kernel_rfl) fun w => bn_gtr (decide_eq_false hl) w) ?_
        refine lm (v := .bool false) rfl rfl ?_
        refine lm (v := strV o) rfl rfl ?_
        refine lp (v := .int .i64 ((o.length : Nat) : Int)) rfl rfl (run_lenS (l := o) rfl Try.underlying9 (by kernel_rfl)) ?_
        refine lp (v := .bool false) rfl rfl (run_bin rfl (vx := (.int .i64 ((o.length : Nat) : Int))) (vy := (.int .i64 ((2000 : Nat) : Int))) (by kernel_rfl) (by kernel_rfl) fun w => bn_gtr (decide_eq_false hl2) w) ?_
        refine lm (v := .bool false) rfl rfl ?_
        refine wpL_done (fun W3 hW3 => ?_)
        refine (show Code.wp _ _ _ _ _ from ?_)
        refine wp_cond_false rfl ?_
        refine wp_skip ?_
        refine (show Code.wp _ _ _ _ _ from ?_)
        refine wp_seq ?_
        refine wp_region_L (W0 := w) [] (hW3) ?_
        refine lm (v := strV t) rfl rfl ?_
        refine wpL_c (f := 15) (args := #[strV t]) (fun v Tz => v = .tuple #[.slice none 0 0, .int .i64 ((p : Nat) : Int), .int .i64 ((er : Nat) : Int)] ∧ Tz = []) rfl (by kernel_rfl) (fun _ => (by kernel_rfl)) (fun W hW => Read_bad hr (by first | omega | (simp only [List.length_append, List.length_cons, List.length_nil]; omega)) W (hW.sub (fun _ h => by cases h))) (fun _ => by simp only [List.setIfInBounds_toArray, List.set_cons_succ, List.set_cons_zero] <;> rfl) ?_
        rintro _ _ ⟨rfl, rfl⟩
        refine lm (v := .tuple #[.slice none 0 0, .int .i64 ((p : Nat) : Int), .int .i64 ((er : Nat) : Int)]) rfl rfl ?_
        refine lm (v := .slice none 0 0) rfl rfl ?_
        refine lm (v := .int .i64 ((p : Nat) : Int)) rfl rfl ?_
        refine lm (v := .int .i64 ((er : Nat) : Int)) rfl rfl ?_
        refine lm (v := .slice none 0 0) rfl rfl ?_
        refine lm (v := .int .i64 ((p : Nat) : Int)) rfl rfl ?_
        refine lm (v := .int .i64 ((er : Nat) : Int)) rfl rfl ?_
        refine wpL_done (fun W4 hW4 => ?_)
        refine (show Code.wp _ _ _ _ _ from ?_)
        refine wp_seq ?_
        refine wp_seq ?_
        refine wp_region_L (W0 := w) [] (hW4) ?_
        refine lm (v := .int .i64 ((er : Nat) : Int)) rfl rfl ?_
        refine lp (v := .bool false) rfl rfl (run_bin rfl (vx := (.int .i64 ((er : Nat) : Int))) (vy := (.int .i64 ((0 : Nat) : Int))) (by kernel_rfl) (by kernel_rfl) fun w => bn_eql (decide_eq_false hne) w) ?_
        refine lm (v := .bool false) rfl rfl ?_
        refine lm (v := .int .i64 ((er : Nat) : Int)) rfl rfl ?_
        refine lp (v := .bool false) rfl rfl (run_bin rfl (vx := (.int .i64 ((er : Nat) : Int))) (vy := (.int .i64 ((42 : Nat) : Int))) (by kernel_rfl) (by kernel_rfl) fun w => bn_eql (decide_eq_false h42) w) ?_
        refine lm (v := .bool false) rfl rfl ?_
        refine wpL_done (fun W5 hW5 => ?_)
        refine (show Code.wp _ _ _ _ _ from ?_)
        refine wp_cond_false rfl ?_
        refine wp_skip ?_
        refine (show Code.wp _ _ _ _ _ from ?_)
        refine wp_seq ?_
        refine wp_region_L (W0 := w) [] (hW5) ?_
        refine lm (v := strV t) rfl rfl ?_
        refine lm (v := .int .i64 ((p : Nat) : Int)) rfl rfl ?_
        refine lp (v := strV (t.take p)) rfl rfl (run_slH (k2 := .i64) (l := t) (r := (t.take p)) (j := p) rfl Try.underlying9 (by kernel_rfl) (by kernel_rfl) (by omega) rfl) ?_
        refine wpL_c (f := 15) (args := #[strV (t.take p)]) (RdK w A1) rfl (by kernel_rfl) (fun _ => (by kernel_rfl)) (fun W hW => Read_ok h1 (by omega) W (hW.sub (fun _ h => by cases h))) (fun _ => by simp only [List.setIfInBounds_toArray, List.set_cons_succ, List.set_cons_zero] <;> rfl) ?_
        rintro _ T2 ⟨p2, c2, rfl, M2⟩
        refine lm (v := .tuple #[.slice p2 A1.length c2, .int .i64 0, .int .i64 0]) rfl rfl ?_
        refine lm (v := .slice p2 A1.length c2) rfl rfl ?_
        refine lm (v := .int .i64 0) rfl rfl ?_
        refine lm (v := .int .i64 0) rfl rfl ?_
        refine lm (v := .slice p2 A1.length c2) rfl rfl ?_
        refine lm (v := .int .i64 0) rfl rfl ?_
        refine lm (v := .int .i64 0) rfl rfl ?_
        refine wpL_done (fun W6 hW6 => ?_)
        have HB4 := Lib.hid ((lv_lvp ((sgo_sgr M2) W6 ((hW6).sub (fun p hp => by first | exact hp | (simp only [List.mem_cons, List.mem_append, List.nil_append, List.not_mem_nil, or_assoc, or_false, false_or, List.cons_append, List.append_assoc] at hp ⊢ <;> grind))))))
        have hbz3 : Below w.heap.size w W6 := (hW6).1
        refine (show Code.wp _ _ _ _ _ from ?_)
        refine wp_seq ?_
        refine wp_seq ?_
        refine wp_region_L (W0 := W6) [] (KS.start W6) ?_
        refine lm (v := .int .i64 0) rfl rfl ?_
        refine lm (v := .bool false) rfl rfl ?_
        refine lm (v := .bool false) rfl rfl ?_
        refine ln rfl ?_
        refine ln rfl ?_
        refine ln rfl ?_
        refine ln rfl ?_
        refine ln rfl ?_
        refine ln rfl ?_
        refine ln rfl ?_
        refine lm (v := .bool false) rfl rfl ?_
        refine wpL_done (fun W7 hW7 => ?_)
        refine (show Code.wp _ _ _ _ _ from ?_)
        refine wp_cond_false rfl ?_
        refine wp_skip ?_
        refine (show Code.wp _ _ _ _ _ from ?_)
        refine wp_seq ?_
        refine wp_region_L (W0 := W6) [] (hW7) ?_
        refine lm (v := .int .i64 ((p : Nat) : Int)) rfl rfl ?_
        refine lp (v := .int .i64 (((p + 1) : Nat) : Int)) rfl rfl (run_bin rfl (vx := (.int .i64 ((p : Nat) : Int))) (vy := (.int .i64 ((1 : Nat) : Int))) (by kernel_rfl) (by kernel_rfl) fun w => bn_add (z := (p + 1)) rfl (wr_i64 (by omega)) w) ?_
        refine lm (v := .int .i64 (((p + 1) : Nat) : Int)) rfl rfl ?_
        refine wpL_done (fun W8 hW8 => ?_)
        refine (show Code.wp _ _ _ _ _ from ?_)
        refine wp_seq ?_
        refine wp_seq ?_
        refine wp_region_L (W0 := W6) [] (hW8) ?_
        refine lm (v := strV t) rfl rfl ?_
        refine lm (v := .int .i64 ((p : Nat) : Int)) rfl rfl ?_
        refine lp (v := .int .u8 ((x.toNat : Nat) : Int)) rfl rfl (run_idxS (j := .i64) (l := t) (k := p) (b := x) rfl Try.underlying9 (by kernel_rfl) (by kernel_rfl) hx) ?_
        refine lp (v := .bool true) rfl rfl (run_bin rfl (vx := (.int .u8 ((x.toNat : Nat) : Int))) (vy := (.int .u8 ((63 : Nat) : Int))) (by kernel_rfl) (by kernel_rfl) fun w => bn_eql (decide_eq_true h63) w) ?_
        refine wpL_done (fun W9 hW9 => ?_)
        refine (show Code.wp _ _ _ _ _ from ?_)
        refine wp_cond_true rfl ?_
        refine wp_region_L (W0 := W6) [] (hW9) ?_
        refine lm (v := .int .i64 ((p : Nat) : Int)) rfl rfl ?_
        refine lp (v := .int .i64 (((p + 2) : Nat) : Int)) rfl rfl (run_bin rfl (vx := (.int .i64 ((p : Nat) : Int))) (vy := (.int .i64 ((2 : Nat) : Int))) (by kernel_rfl) (by kernel_rfl) fun w => bn_add (z := (p + 2)) rfl (wr_i64 (by omega)) w) ?_
        refine lm (v := strV t) rfl rfl ?_
        refine lp (v := .int .i64 ((t.length : Nat) : Int)) rfl rfl (run_lenS (l := t) rfl Try.underlying9 (by kernel_rfl)) ?_
        refine lp (v := .int .i64 (((p + 2) : Nat) : Int)) rfl rfl (run_minR (k := .i64) (k2 := .i64) (u := (((p + 2) : Nat) : Int)) (v := ((t.length : Nat) : Int)) rfl (by kernel_rfl) (by kernel_rfl) (by rw [if_neg (by omega)])) ?_
        refine lm (v := .int .i64 (((p + 2) : Nat) : Int)) rfl rfl ?_
        refine wpL_done (fun W10 hW10 => ?_)
        refine (show Code.wp _ _ _ _ _ from ?_)
        refine wp_seq ?_
        refine wp_seq ?_
        refine wp_region_L (W0 := W6) [] (hW10) ?_
        refine lm (v := .int .i64 ((er : Nat) : Int)) rfl rfl ?_
        refine lp (v := .bool (decide (er = 41))) rfl rfl (run_bin rfl (vx := (.int .i64 ((er : Nat) : Int))) (vy := (.int .i64 ((41 : Nat) : Int))) (by kernel_rfl) (by kernel_rfl) fun w => bn_eql rfl w) ?_
        refine lm (v := .bool (decide (er = 41))) rfl rfl ?_
        cases hd1 : (decide (er = 41)) with
        | false =>
          have h1 : ¬ (er = 41) := of_decide_eq_false hd1
          clear hd1
          refine ln rfl ?_
          refine ln rfl ?_
          refine ln rfl ?_
          refine ln rfl ?_
          refine lm (v := .bool false) rfl rfl ?_
          refine wpL_done (fun W11 hW11 => ?_)
          refine (show Code.wp _ _ _ _ _ from ?_)
          refine wp_cond_false rfl ?_
          refine wp_skip ?_
          refine (show Code.wp _ _ _ _ _ from ?_)
          refine wp_seq ?_
          refine wp_region_L (W0 := W6) [] (hW11) ?_
          refine lm (v := strV t) rfl rfl ?_
          refine lm (v := .int .i64 (((p + 2) : Nat) : Int)) rfl rfl ?_
          refine lp (v := strV (t.take (p + 2))) rfl rfl (run_slH (k2 := .i64) (l := t) (r := (t.take (p + 2))) (j := (p + 2)) rfl Try.underlying9 (by kernel_rfl) (by kernel_rfl) (by omega) rfl) ?_
          refine lm (v := strV o) rfl rfl ?_
          refine lp (v := strV ((t.take (p + 2)) ++ o)) rfl rfl (run_bin rfl (vx := strV (t.take (p + 2))) (vy := strV o) (by kernel_rfl) (by kernel_rfl) fun w => bs_add (c := ((t.take (p + 2)) ++ o)) rfl (by first | omega | (simp; omega)) w) ?_
          refine wpL_c (f := 15) (args := #[strV ((t.take (p + 2)) ++ o)]) (fun v Tz => v = .tuple #[.slice none 0 0, .int .i64 ((p : Nat) : Int), .int .i64 ((er : Nat) : Int)] ∧ Tz = []) rfl (by kernel_rfl) (fun _ => (by kernel_rfl)) (fun W hW => Read_bad h3 (by first | omega | (simp only [List.length_append, List.length_cons, List.length_nil]; omega)) W (hW.sub (fun _ h => by cases h))) (fun _ => by simp only [List.setIfInBounds_toArray, List.set_cons_succ, List.set_cons_zero] <;> rfl) ?_
          rintro _ _ ⟨rfl, rfl⟩
          refine lm (v := .tuple #[.slice none 0 0, .int .i64 ((p : Nat) : Int), .int .i64 ((er : Nat) : Int)]) rfl rfl ?_
          refine lm (v := .slice none 0 0) rfl rfl ?_
          refine lm (v := .int .i64 ((p : Nat) : Int)) rfl rfl ?_
          refine lm (v := .int .i64 ((er : Nat) : Int)) rfl rfl ?_
          refine lm (v := .int .i64 ((p : Nat) : Int)) rfl rfl ?_
          refine lm (v := .int .i64 ((er : Nat) : Int)) rfl rfl ?_
          refine wpL_done (fun W12 hW12 => ?_)
          refine (show Code.wp _ _ _ _ _ from ?_)
          refine wp_seq ?_
          refine wp_region_L (W0 := W6) [] (hW12) ?_
          refine lm (v := .int .i64 ((er : Nat) : Int)) rfl rfl ?_
          refine lm (v := .int .i64 ((er : Nat) : Int)) rfl rfl ?_
          refine lp (v := .bool true) rfl rfl (run_bin rfl (vx := (.int .i64 ((er : Nat) : Int))) (vy := (.int .i64 ((er : Nat) : Int))) (by kernel_rfl) (by kernel_rfl) fun w => bn_eql (decide_eq_true rfl) w) ?_
          refine lm (v := .bool true) rfl rfl ?_
          refine lm (v := .int .i64 ((p : Nat) : Int)) rfl rfl ?_
          refine lm (v := .int .i64 ((p : Nat) : Int)) rfl rfl ?_
          refine lp (v := .bool true) rfl rfl (run_bin rfl (vx := (.int .i64 ((p : Nat) : Int))) (vy := (.int .i64 ((p : Nat) : Int))) (by kernel_rfl) (by kernel_rfl) fun w => bn_eql (decide_eq_true rfl) w) ?_
          refine lm (v := .bool true) rfl rfl ?_
          refine lm (v := .bool true) rfl rfl ?_
          refine wpL_done (fun W13 hW13 => ?_)
          refine (show Code.wp _ _ _ _ _ from ?_)
          refine wp_ret ?_
          try simp only [inBlock_ret, then_ret]
          refine bodyPost_ret (v := .bool true) ?_ rfl ?_
          · kernel_rfl
          · exact ⟨rfl, (Below.trans hbz3 (Below.mono (hW13).1 hbz3.size))⟩
        | true =>
          have h1 : er = 41 := of_decide_eq_true hd1
          clear hd1
          refine lm (v := .int .i64 (((p + 2) : Nat) : Int)) rfl rfl ?_
          refine lm (v := .int .i64 ((p : Nat) : Int)) rfl rfl ?_
          refine lp (v := .int .i64 (((p + 1) : Nat) : Int)) rfl rfl (run_bin rfl (vx := (.int .i64 ((p : Nat) : Int))) (vy := (.int .i64 ((1 : Nat) : Int))) (by kernel_rfl) (by kernel_rfl) fun w => bn_add (z := (p + 1)) rfl (wr_i64 (by omega)) w) ?_
          refine lp (v := .bool false) rfl rfl (run_bin rfl (vx := (.int .i64 (((p + 2) : Nat) : Int))) (vy := (.int .i64 (((p + 1) : Nat) : Int))) (by kernel_rfl) (by kernel_rfl) fun w => bn_eql (decide_eq_false (by omega)) w) ?_
          refine lm (v := .bool false) rfl rfl ?_
          refine wpL_done (fun W14 hW14 => ?_)
          refine (show Code.wp _ _ _ _ _ from ?_)
          refine wp_cond_false rfl ?_
          refine wp_skip ?_
          refine (show Code.wp _ _ _ _ _ from ?_)
          refine wp_seq ?_
          refine wp_region_L (W0 := W6) [] (hW14) ?_
          refine lm (v := strV t) rfl rfl ?_
          refine lm (v := .int .i64 (((p + 2) : Nat) : Int)) rfl rfl ?_
          refine lp (v := strV (t.take (p + 2))) rfl rfl (run_slH (k2 := .i64) (l := t) (r := (t.take (p + 2))) (j := (p + 2)) rfl Try.underlying9 (by kernel_rfl) (by kernel_rfl) (by omega) rfl) ?_
          refine lm (v := strV o) rfl rfl ?_
          refine lp (v := strV ((t.take (p + 2)) ++ o)) rfl rfl (run_bin rfl (vx := strV (t.take (p + 2))) (vy := strV o) (by kernel_rfl) (by kernel_rfl) fun w => bs_add (c := ((t.take (p + 2)) ++ o)) rfl (by first | omega | (simp; omega)) w) ?_
          refine wpL_c (f := 15) (args := #[strV ((t.take (p + 2)) ++ o)]) (fun v Tz => v = .tuple #[.slice none 0 0, .int .i64 ((p : Nat) : Int), .int .i64 ((er : Nat) : Int)] ∧ Tz = []) rfl (by kernel_rfl) (fun _ => (by kernel_rfl)) (fun W hW => Read_bad h3 (by first | omega | (simp only [List.length_append, List.length_cons, List.length_nil]; omega)) W (hW.sub (fun _ h => by cases h))) (fun _ => by simp only [List.setIfInBounds_toArray, List.set_cons_succ, List.set_cons_zero] <;> rfl) ?_
          rintro _ _ ⟨rfl, rfl⟩
          refine lm (v := .tuple #[.slice none 0 0, .int .i64 ((p : Nat) : Int), .int .i64 ((er : Nat) : Int)]) rfl rfl ?_
          refine lm (v := .slice none 0 0) rfl rfl ?_
          refine lm (v := .int .i64 ((p : Nat) : Int)) rfl rfl ?_
          refine lm (v := .int .i64 ((er : Nat) : Int)) rfl rfl ?_
          refine lm (v := .int .i64 ((p : Nat) : Int)) rfl rfl ?_
          refine lm (v := .int .i64 ((er : Nat) : Int)) rfl rfl ?_
          refine wpL_done (fun W15 hW15 => ?_)
          refine (show Code.wp _ _ _ _ _ from ?_)
          refine wp_seq ?_
          refine wp_region_L (W0 := W6) [] (hW15) ?_
          refine lm (v := .int .i64 ((er : Nat) : Int)) rfl rfl ?_
          refine lm (v := .int .i64 ((er : Nat) : Int)) rfl rfl ?_
          refine lp (v := .bool true) rfl rfl (run_bin rfl (vx := (.int .i64 ((er : Nat) : Int))) (vy := (.int .i64 ((er : Nat) : Int))) (by kernel_rfl) (by kernel_rfl) fun w => bn_eql (decide_eq_true rfl) w) ?_
          refine lm (v := .bool true) rfl rfl ?_
          refine lm (v := .int .i64 ((p : Nat) : Int)) rfl rfl ?_
          refine lm (v := .int .i64 ((p : Nat) : Int)) rfl rfl ?_
          refine lp (v := .bool true) rfl rfl (run_bin rfl (vx := (.int .i64 ((p : Nat) : Int))) (vy := (.int .i64 ((p : Nat) : Int))) (by kernel_rfl) (by kernel_rfl) fun w => bn_eql (decide_eq_true rfl) w) ?_
          refine lm (v := .bool true) rfl rfl ?_
          refine lm (v := .bool true) rfl rfl ?_
          refine wpL_done (fun W16 hW16 => ?_)
          refine (show Code.wp _ _ _ _ _ from ?_)
          refine wp_ret ?_
          try simp only [inBlock_ret, then_ret]
          refine bodyPost_ret (v := .bool true) ?_ rfl ?_
          · kernel_rfl
          · exact ⟨rfl, (Below.trans hbz3 (Below.mono (hW16).1 hbz3.size))⟩
      · rcases h2 with ⟨h, _⟩ | h2
        · exact absurd h h63
        have h3 : readT (t.take (p + 1) ++ o) = .bad p er := h2 (p + 1) o (Nat.le_refl _) (fun h => absurd h h63) (by rw [List.length_append, List.length_take]; omega) (by omega)
        go_enter Try.func8, Try.ntmps8
        refine wp_seq ?_
        refine wp_region_L (W0 := w) [] (KS.start w) ?_
        refine lm (v := .bool false) rfl rfl ?_
        refine wpL_done (fun W1 hW1 => ?_)
        refine (show Code.wp _ _ _ _ _ from ?_)
        refine wp_seq ?_
        refine wp_seq ?_
        refine wp_region_L (W0 := w) [] (hW1) ?_
        refine lv (v := .bool true) rfl rfl (yb_call (f := 10) (args := #[]) (fun _ => by kernel_rfl) fun W hW => awake_any W) ?_
        refine lm (v := .bool false) rfl rfl ?_
        refine wpL_done (fun W2 hW2 => ?_)
        refine (show Code.wp _ _ _ _ _ from ?_)
        refine wp_cond_false rfl ?_
        refine wp_skip ?_
        refine (show Code.wp _ _ _ _ _ from ?_)
        refine wp_seq ?_
        refine wp_seq ?_
        refine wp_region_L (W0 := w) [] (hW2) ?_
        refine lm (v := strV t) rfl rfl ?_
        refine lp (v := .int .i64 ((t.length : Nat) : Int)) rfl rfl (run_lenS (l := t) rfl Try.underlying9 (by kernel_rfl)) ?_
        refine lp (v := .bool false) rfl rfl (run_bin rfl (vx := (.int .i64 ((t.length : Nat) : Int))) (vy := (.int .i64 ((2000 : Nat) : Int))) (by kernel_rfl) (by kernel_rfl) fun w => bn_gtr (decide_eq_false hl) w) ?_
        refine lm (v := .bool false) rfl rfl ?_
        refine lm (v := strV o) rfl rfl ?_
        refine lp (v := .int .i64 ((o.length : Nat) : Int)) rfl rfl (run_lenS (l := o) rfl Try.underlying9 (by kernel_rfl)) ?_
        refine lp (v := .bool false) rfl rfl (run_bin rfl (vx := (.int .i64 ((o.length : Nat) : Int))) (vy := (.int .i64 ((2000 : Nat) : Int))) (by kernel_rfl) (by kernel_rfl) fun w => bn_gtr (decide_eq_false hl2) w) ?_
        refine lm (v := .bool false) rfl rfl ?_
        refine wpL_done (fun W3 hW3 => ?_)
        refine (show Code.wp _ _ _ _ _ from ?_)
        refine wp_cond_false rfl ?_
        refine wp_skip ?_
        refine (show Code.wp _ _ _ _ _ from ?_)
        refine wp_seq ?_
        refine wp_region_L (W0 := w) [] (hW3) ?_
        refine lm (v := strV t) rfl rfl ?_
        refine wpL_c (f := 15) (args := #[strV t]) (fun v Tz => v = .tuple #[.slice none 0 0, .int .i64 ((p : Nat) : Int), .int .i64 ((er : Nat) : Int)] ∧ Tz = []) rfl (by kernel_rfl) (fun _ => (by kernel_rfl)) (fun W hW => Read_bad hr (by first | omega | (simp only [List.length_append, List.length_cons, List.length_nil]; omega)) W (hW.sub (fun _ h => by cases h))) (fun _ => by simp only [List.setIfInBounds_toArray, List.set_cons_succ, List.set_cons_zero] <;> rfl) ?_
        rintro _ _ ⟨rfl, rfl⟩
        refine lm (v := .tuple #[.slice none 0 0, .int .i64 ((p : Nat) : Int), .int .i64 ((er : Nat) : Int)]) rfl rfl ?_
        refine lm (v := .slice none 0 0) rfl rfl ?_
        refine lm (v := .int .i64 ((p : Nat) : Int)) rfl rfl ?_
        refine lm (v := .int .i64 ((er : Nat) : Int)) rfl rfl ?_
        refine lm (v := .slice none 0 0) rfl rfl ?_
        refine lm (v := .int .i64 ((p : Nat) : Int)) rfl rfl ?_
        refine lm (v := .int .i64 ((er : Nat) : Int)) rfl rfl ?_
        refine wpL_done (fun W4 hW4 => ?_)
        refine (show Code.wp _ _ _ _ _ from ?_)
        refine wp_seq ?_
        refine wp_seq ?_
        refine wp_region_L (W0 := w) [] (hW4) ?_
        refine lm (v := .int .i64 ((er : Nat) : Int)) rfl rfl ?_
        refine lp (v := .bool false) rfl rfl (run_bin rfl (vx := (.int .i64 ((er : Nat) : Int))) (vy := (.int .i64 ((0 : Nat) : Int))) (by kernel_rfl) (by kernel_rfl) fun w => bn_eql (decide_eq_false hne) w) ?_
        refine lm (v := .bool false) rfl rfl ?_
        refine lm (v := .int .i64 ((er : Nat) : Int)) rfl rfl ?_
        refine lp (v := .bool false) rfl rfl (run_bin rfl (vx := (.int .i64 ((er : Nat) : Int))) (vy := (.int .i64 ((42 : Nat) : Int))) (by kernel_rfl) (by kernel_rfl) fun w => bn_eql (decide_eq_false h42) w) ?_
        refine lm (v := .bool false) rfl rfl ?_
        refine wpL_done (fun W5 hW5 => ?_)
        refine (show Code.wp _ _ _ _ _ from ?_)
        refine wp_cond_false rfl ?_
        refine wp_skip ?_
        refine (show Code.wp _ _ _ _ _ from ?_)
        refine wp_seq ?_
        refine wp_region_L (W0 := w) [] (hW5) ?_
        refine lm (v := strV t) rfl rfl ?_
        refine lm (v := .int .i64 ((p : Nat) : Int)) rfl rfl ?_
        refine lp (v := strV (t.take p)) rfl rfl (run_slH (k2 := .i64) (l := t) (r := (t.take p)) (j := p) rfl Try.underlying9 (by kernel_rfl) (by kernel_rfl) (by omega) rfl) ?_
        refine wpL_c (f := 15) (args := #[strV (t.take p)]) (RdK w A1) rfl (by kernel_rfl) (fun _ => (by kernel_rfl)) (fun W hW => Read_ok h1 (by omega) W (hW.sub (fun _ h => by cases h))) (fun _ => by simp only [List.setIfInBounds_toArray, List.set_cons_succ, List.set_cons_zero] <;> rfl) ?_
        rintro _ T2 ⟨p2, c2, rfl, M2⟩
        refine lm (v := .tuple #[.slice p2 A1.length c2, .int .i64 0, .int .i64 0]) rfl rfl ?_
        refine lm (v := .slice p2 A1.length c2) rfl rfl ?_
        refine lm (v := .int .i64 0) rfl rfl ?_
        refine lm (v := .int .i64 0) rfl rfl ?_
        refine lm (v := .slice p2 A1.length c2) rfl rfl ?_
        refine lm (v := .int .i64 0) rfl rfl ?_
        refine lm (v := .int .i64 0) rfl rfl ?_
        refine wpL_done (fun W6 hW6 => ?_)
        have HB4 := Lib.hid ((lv_lvp ((sgo_sgr M2) W6 ((hW6).sub (fun p hp => by first | exact hp | (simp only [List.mem_cons, List.mem_append, List.nil_append, List.not_mem_nil, or_assoc, or_false, false_or, List.cons_append, List.append_assoc] at hp ⊢ <;> grind))))))
        have hbz3 : Below w.heap.size w W6 := (hW6).1
        refine (show Code.wp _ _ _ _ _ from ?_)
        refine wp_seq ?_
        refine wp_seq ?_
        refine wp_region_L (W0 := W6) [] (KS.start W6) ?_
        refine lm (v := .int .i64 0) rfl rfl ?_
        refine lm (v := .bool false) rfl rfl ?_
        refine lm (v := .bool false) rfl rfl ?_
        refine ln rfl ?_
        refine ln rfl ?_
        refine ln rfl ?_
        refine ln rfl ?_
        refine ln rfl ?_
        refine ln rfl ?_
        refine ln rfl ?_
        refine lm (v := .bool false) rfl rfl ?_
        refine wpL_done (fun W7 hW7 => ?_)
        refine (show Code.wp _ _ _ _ _ from ?_)
        refine wp_cond_false rfl ?_
        refine wp_skip ?_
        refine (show Code.wp _ _ _ _ _ from ?_)
        refine wp_seq ?_
        refine wp_region_L (W0 := W6) [] (hW7) ?_
        refine lm (v := .int .i64 ((p : Nat) : Int)) rfl rfl ?_
        refine lp (v := .int .i64 (((p + 1) : Nat) : Int)) rfl rfl (run_bin rfl (vx := (.int .i64 ((p : Nat) : Int))) (vy := (.int .i64 ((1 : Nat) : Int))) (by kernel_rfl) (by kernel_rfl) fun w => bn_add (z := (p + 1)) rfl (wr_i64 (by omega)) w) ?_
        refine lm (v := .int .i64 (((p + 1) : Nat) : Int)) rfl rfl ?_
        refine wpL_done (fun W8 hW8 => ?_)
        refine (show Code.wp _ _ _ _ _ from ?_)
        refine wp_seq ?_
        refine wp_seq ?_
        refine wp_region_L (W0 := W6) [] (hW8) ?_
        refine lm (v := strV t) rfl rfl ?_
        refine lm (v := .int .i64 ((p : Nat) : Int)) rfl rfl ?_
        refine lp (v := .int .u8 ((x.toNat : Nat) : Int)) rfl rfl (run_idxS (j := .i64) (l := t) (k := p) (b := x) rfl Try.underlying9 (by kernel_rfl) (by kernel_rfl) hx) ?_
        refine lp (v := .bool false) rfl rfl (run_bin rfl (vx := (.int .u8 ((x.toNat : Nat) : Int))) (vy := (.int .u8 ((63 : Nat) : Int))) (by kernel_rfl) (by kernel_rfl) fun w => bn_eql (decide_eq_false h63) w) ?_
        refine wpL_done (fun W9 hW9 => ?_)
        refine (show Code.wp _ _ _ _ _ from ?_)
        refine wp_cond_false rfl ?_
        refine wp_skip ?_
        refine (show Code.wp _ _ _ _ _ from ?_)
        refine wp_seq ?_
        refine wp_seq ?_
        refine wp_region_L (W0 := W6) [] (hW9) ?_
        refine lm (v := .int .i64 ((er : Nat) : Int)) rfl rfl ?_
        refine lp (v := .bool (decide (er = 41))) rfl rfl (run_bin rfl (vx := (.int .i64 ((er : Nat) : Int))) (vy := (.int .i64 ((41 : Nat) : Int))) (by kernel_rfl) (by kernel_rfl) fun w => bn_eql rfl w) ?_
        refine lm (v := .bool (decide (er = 41))) rfl rfl ?_
        cases hd1 : (decide (er = 41)) with
        | false =>
          have h1 : ¬ (er = 41) := of_decide_eq_false hd1
          clear hd1
          refine ln rfl ?_
          refine ln rfl ?_
          refine ln rfl ?_
          refine ln rfl ?_
          refine lm (v := .bool false) rfl rfl ?_
          refine wpL_done (fun W10 hW10 => ?_)
          refine (show Code.wp _ _ _ _ _ from ?_)
          refine wp_cond_false rfl ?_
          refine wp_skip ?_
          refine (show Code.wp _ _ _ _ _ from ?_)
          refine wp_seq ?_
          refine wp_region_L (W0 := W6) [] (hW10) ?_
          refine lm (v := strV t) rfl rfl ?_
          refine lm (v := .int .i64 (((p + 1) : Nat) : Int)) rfl rfl ?_
          refine lp (v := strV (t.take (p + 1))) rfl rfl (run_slH (k2 := .i64) (l := t) (r := (t.take (p + 1))) (j := (p + 1)) rfl Try.underlying9 (by kernel_rfl) (by kernel_rfl) (by omega) rfl) ?_
          refine lm (v := strV o) rfl rfl ?_
          refine lp (v := strV ((t.take (p + 1)) ++ o)) rfl rfl (run_bin rfl (vx := strV (t.take (p + 1))) (vy := strV o) (by kernel_rfl) (by kernel_rfl) fun w => bs_add (c := ((t.take (p + 1)) ++ o)) rfl (by first | omega | (simp; omega)) w) ?_
          refine wpL_c (f := 15) (args := #[strV ((t.take (p + 1)) ++ o)]) (fun v Tz => v = .tuple #[.slice none 0 0, .int .i64 ((p : Nat) : Int), .int .i64 ((er : Nat) : Int)] ∧ Tz = []) rfl (by kernel_rfl) (fun _ => (by kernel_rfl)) (fun W hW => Read_bad h3 (by first | omega | (simp only [List.length_append, List.length_cons, List.length_nil]; omega)) W (hW.sub (fun _ h => by cases h))) (fun _ => by simp only [List.setIfInBounds_toArray, List.set_cons_succ, List.set_cons_zero] <;> rfl) ?_
          rintro _ _ ⟨rfl, rfl⟩
          refine lm (v := .tuple #[.slice none 0 0, .int .i64 ((p : Nat) : Int), .int .i64 ((er : Nat) : Int)]) rfl rfl ?_
          refine lm (v := .slice none 0 0) rfl rfl ?_
          refine lm (v := .int .i64 ((p : Nat) : Int)) rfl rfl ?_
          refine lm (v := .int .i64 ((er : Nat) : Int)) rfl rfl ?_
          refine lm (v := .int .i64 ((p : Nat) : Int)) rfl rfl ?_
          refine lm (v := .int .i64 ((er : Nat) : Int)) rfl rfl ?_
          refine wpL_done (fun W11 hW11 => ?_)
          refine (show Code.wp _ _ _ _ _ from ?_)
          refine wp_seq ?_
          refine wp_region_L (W0 := W6) [] (hW11) ?_
          refine lm (v := .int .i64 ((er : Nat) : Int)) rfl rfl ?_
          refine lm (v := .int .i64 ((er : Nat) : Int)) rfl rfl ?_
          refine lp (v := .bool true) rfl rfl (run_bin rfl (vx := (.int .i64 ((er : Nat) : Int))) (vy := (.int .i64 ((er : Nat) : Int))) (by kernel_rfl) (by kernel_rfl) fun w => bn_eql (decide_eq_true rfl) w) ?_
          refine lm (v := .bool true) rfl rfl ?_
          refine lm (v := .int .i64 ((p : Nat) : Int)) rfl rfl ?_
          refine lm (v := .int .i64 ((p : Nat) : Int)) rfl rfl ?_
          refine lp (v := .bool true) rfl rfl (run_bin rfl (vx := (.int .i64 ((p : Nat) : Int))) (vy := (.int .i64 ((p : Nat) : Int))) (by kernel_rfl) (by kernel_rfl) fun w => bn_eql (decide_eq_true rfl) w) ?_
          refine lm (v := .bool true) rfl rfl ?_
          refine lm (v := .bool true) rfl rfl ?_
          refine wpL_done (fun W12 hW12 => ?_)
          refine (show Code.wp _ _ _ _ _ from ?_)
          refine wp_ret ?_
          try simp only [inBlock_ret, then_ret]
          refine bodyPost_ret (v := .bool true) ?_ rfl ?_
          · kernel_rfl
          · exact ⟨rfl, (Below.trans hbz3 (Below.mono (hW12).1 hbz3.size))⟩
        | true =>
          have h1 : er = 41 := of_decide_eq_true hd1
          clear hd1
          refine lm (v := .int .i64 (((p + 1) : Nat) : Int)) rfl rfl ?_
          refine lm (v := .int .i64 ((p : Nat) : Int)) rfl rfl ?_
          refine lp (v := .int .i64 (((p + 1) : Nat) : Int)) rfl rfl (run_bin rfl (vx := (.int .i64 ((p : Nat) : Int))) (vy := (.int .i64 ((1 : Nat) : Int))) (by kernel_rfl) (by kernel_rfl) fun w => bn_add (z := (p + 1)) rfl (wr_i64 (by omega)) w) ?_
          refine lp (v := .bool true) rfl rfl (run_bin rfl (vx := (.int .i64 (((p + 1) : Nat) : Int))) (vy := (.int .i64 (((p + 1) : Nat) : Int))) (by kernel_rfl) (by kernel_rfl) fun w => bn_eql (decide_eq_true rfl) w) ?_
          refine lm (v := .bool true) rfl rfl ?_
          refine wpL_done (fun W13 hW13 => ?_)
          refine (show Code.wp _ _ _ _ _ from ?_)
          refine wp_cond_true rfl ?_
          refine wp_seq ?_
          refine wp_region_L (W0 := W6) [] (hW13) ?_
          refine lm (v := .bool true) rfl rfl ?_
          refine wpL_done (fun W14 hW14 => ?_)
          refine (show Code.wp _ _ _ _ _ from ?_)
          refine wp_ret ?_
          try simp only [inBlock_ret, then_ret]
          refine bodyPost_ret (v := .bool true) ?_ rfl ?_
          · kernel_rfl
          · exact ⟨rfl, (Below.trans hbz3 (Below.mono (hW14).1 hbz3.size))⟩
    · skip
      by_cases h63 : x.toNat = 63
      · rcases h2 with ⟨_, he, hend⟩ | h2
        · skip
          go_enter Try.func8, Try.ntmps8
          refine wp_seq ?_
          refine wp_region_L (W0 := w) [] (KS.start w) ?_
          refine lm (v := .bool false) rfl rfl ?_
          refine wpL_done (fun W1 hW1 => ?_)
          refine (show Code.wp _ _ _ _ _ from ?_)
          refine wp_seq ?_
          refine wp_seq ?_
          refine wp_region_L (W0 := w) [] (hW1) ?_
          refine lv (v := .bool true) rfl rfl (yb_call (f := 10) (args := #[]) (fun _ => by kernel_rfl) fun W hW => awake_any W) ?_
          refine lm (v := .bool false) rfl rfl ?_
          refine wpL_done (fun W2 hW2 => ?_)
          refine (show Code.wp _ _ _ _ _ from ?_)
          refine wp_cond_false rfl ?_
          refine wp_skip ?_
          refine (show Code.wp _ _ _ _ _ from ?_)
          refine wp_seq ?_
          refine wp_seq ?_
          refine wp_region_L (W0 := w) [] (hW2) ?_
          refine lm (v := strV t) rfl rfl ?_
          refine lp (v := .int .i64 ((t.length : Nat) : Int)) rfl rfl (run_lenS (l := t) rfl Try.underlying9 (by kernel_rfl)) ?_
          refine lp (v := .bool false) rfl rfl (run_bin rfl (vx := (.int .i64 ((t.length : Nat) : Int))) (vy := (.int .i64 ((2000 : Nat) : Int))) (by kernel_rfl) (by kernel_rfl) fun w => bn_gtr (decide_eq_false hl) w) ?_
          refine lm (v := .bool false) rfl rfl ?_
          refine lm (v := strV o) rfl rfl ?_
          refine lp (v := .int .i64 ((o.length : Nat) : Int)) rfl rfl (run_lenS (l := o) rfl Try.underlying9 (by kernel_rfl)) ?_
          refine lp (v := .bool false) rfl rfl (run_bin rfl (vx := (.int .i64 ((o.length : Nat) : Int))) (vy := (.int .i64 ((2000 : Nat) : Int))) (by kernel_rfl) (by kernel_rfl) fun w => bn_gtr (decide_eq_false hl2) w) ?_
          refine lm (v := .bool false) rfl rfl ?_
          refine wpL_done (fun W3 hW3 => ?_)
          refine (show Code.wp _ _ _ _ _ from ?_)
          refine wp_cond_false rfl ?_
          refine wp_skip ?_
          refine (show Code.wp _ _ _ _ _ from ?_)
          refine wp_seq ?_
          refine wp_region_L (W0 := w) [] (hW3) ?_
          refine lm (v := strV t) rfl rfl ?_
          refine wpL_c (f := 15) (args := #[strV t]) (fun v Tz => v = .tuple #[.slice none 0 0, .int .i64 ((p : Nat) : Int), .int .i64 ((er : Nat) : Int)] ∧ Tz = []) rfl (by kernel_rfl) (fun _ => (by kernel_rfl)) (fun W hW => Read_bad hr (by first | omega | (simp only [List.length_append, List.length_cons, List.length_nil]; omega)) W (hW.sub (fun _ h => by cases h))) (fun _ => by simp only [List.setIfInBounds_toArray, List.set_cons_succ, List.set_cons_zero] <;> rfl) ?_
          rintro _ _ ⟨rfl, rfl⟩
          refine lm (v := .tuple #[.slice none 0 0, .int .i64 ((p : Nat) : Int), .int .i64 ((er : Nat) : Int)]) rfl rfl ?_
          refine lm (v := .slice none 0 0) rfl rfl ?_
          refine lm (v := .int .i64 ((p : Nat) : Int)) rfl rfl ?_
          refine lm (v := .int .i64 ((er : Nat) : Int)) rfl rfl ?_
          refine lm (v := .slice none 0 0) rfl rfl ?_
          refine lm (v := .int .i64 ((p : Nat) : Int)) rfl rfl ?_
          refine lm (v := .int .i64 ((er : Nat) : Int)) rfl rfl ?_
          refine wpL_done (fun W4 hW4 => ?_)
          refine (show Code.wp _ _ _ _ _ from ?_)
          refine wp_seq ?_
          refine wp_seq ?_
          refine wp_region_L (W0 := w) [] (hW4) ?_
          refine lm (v := .int .i64 ((er : Nat) : Int)) rfl rfl ?_
          refine lp (v := .bool false) rfl rfl (run_bin rfl (vx := (.int .i64 ((er : Nat) : Int))) (vy := (.int .i64 ((0 : Nat) : Int))) (by kernel_rfl) (by kernel_rfl) fun w => bn_eql (decide_eq_false hne) w) ?_
          refine lm (v := .bool false) rfl rfl ?_
          refine lm (v := .int .i64 ((er : Nat) : Int)) rfl rfl ?_
          refine lp (v := .bool false) rfl rfl (run_bin rfl (vx := (.int .i64 ((er : Nat) : Int))) (vy := (.int .i64 ((42 : Nat) : Int))) (by kernel_rfl) (by kernel_rfl) fun w => bn_eql (decide_eq_false h42) w) ?_
          refine lm (v := .bool false) rfl rfl ?_
          refine wpL_done (fun W5 hW5 => ?_)
          refine (show Code.wp _ _ _ _ _ from ?_)
          refine wp_cond_false rfl ?_
          refine wp_skip ?_
          refine (show Code.wp _ _ _ _ _ from ?_)
          refine wp_seq ?_
          refine wp_region_L (W0 := w) [] (hW5) ?_
          refine lm (v := strV t) rfl rfl ?_
          refine lm (v := .int .i64 ((p : Nat) : Int)) rfl rfl ?_
          refine lp (v := strV (t.take p)) rfl rfl (run_slH (k2 := .i64) (l := t) (r := (t.take p)) (j := p) rfl Try.underlying9 (by kernel_rfl) (by kernel_rfl) (by omega) rfl) ?_
          refine wpL_c (f := 15) (args := #[strV (t.take p)]) (fun v Tz => v = .tuple #[.slice none 0 0, .int .i64 ((p : Nat) : Int), .int .i64 ((42 : Nat) : Int)] ∧ Tz = []) rfl (by kernel_rfl) (fun _ => (by kernel_rfl)) (fun W hW => Read_bad h1 (by omega) W (hW.sub (fun _ h => by cases h))) (fun _ => by simp only [List.setIfInBounds_toArray, List.set_cons_succ, List.set_cons_zero] <;> rfl) ?_
          rintro _ _ ⟨rfl, rfl⟩
          refine lm (v := .tuple #[.slice none 0 0, .int .i64 ((p : Nat) : Int), .int .i64 42]) rfl rfl ?_
          refine lm (v := .slice none 0 0) rfl rfl ?_
          refine lm (v := .int .i64 ((p : Nat) : Int)) rfl rfl ?_
          refine lm (v := .int .i64 42) rfl rfl ?_
          refine lm (v := .slice none 0 0) rfl rfl ?_
          refine lm (v := .int .i64 ((p : Nat) : Int)) rfl rfl ?_
          refine lm (v := .int .i64 42) rfl rfl ?_
          refine wpL_done (fun W6 hW6 => ?_)
          refine (show Code.wp _ _ _ _ _ from ?_)
          refine wp_seq ?_
          refine wp_seq ?_
          refine wp_region_L (W0 := w) [] (hW6) ?_
          refine lm (v := .int .i64 42) rfl rfl ?_
          refine lm (v := .bool true) rfl rfl ?_
          refine lm (v := .bool true) rfl rfl ?_
          refine lm (v := .int .i64 42) rfl rfl ?_
          refine lm (v := .bool false) rfl rfl ?_
          refine lm (v := .bool false) rfl rfl ?_
          refine lm (v := .int .i64 ((p : Nat) : Int)) rfl rfl ?_
          refine lm (v := .int .i64 ((p : Nat) : Int)) rfl rfl ?_
          refine lp (v := .bool false) rfl rfl (run_bin rfl (vx := (.int .i64 ((p : Nat) : Int))) (vy := (.int .i64 ((p : Nat) : Int))) (by kernel_rfl) (by kernel_rfl) fun w => bn_neq (decide_eq_true rfl) w) ?_
          refine lm (v := .bool false) rfl rfl ?_
          refine lm (v := .bool false) rfl rfl ?_
          refine wpL_done (fun W7 hW7 => ?_)
          refine (show Code.wp _ _ _ _ _ from ?_)
          refine wp_cond_false rfl ?_
          refine wp_skip ?_
          refine (show Code.wp _ _ _ _ _ from ?_)
          refine wp_seq ?_
          refine wp_region_L (W0 := w) [] (hW7) ?_
          refine lm (v := .int .i64 ((p : Nat) : Int)) rfl rfl ?_
          refine lp (v := .int .i64 (((p + 1) : Nat) : Int)) rfl rfl (run_bin rfl (vx := (.int .i64 ((p : Nat) : Int))) (vy := (.int .i64 ((1 : Nat) : Int))) (by kernel_rfl) (by kernel_rfl) fun w => bn_add (z := (p + 1)) rfl (wr_i64 (by omega)) w) ?_
          refine lm (v := .int .i64 (((p + 1) : Nat) : Int)) rfl rfl ?_
          refine wpL_done (fun W8 hW8 => ?_)
          refine (show Code.wp _ _ _ _ _ from ?_)
          refine wp_seq ?_
          refine wp_seq ?_
          refine wp_region_L (W0 := w) [] (hW8) ?_
          refine lm (v := strV t) rfl rfl ?_
          refine lm (v := .int .i64 ((p : Nat) : Int)) rfl rfl ?_
          refine lp (v := .int .u8 ((x.toNat : Nat) : Int)) rfl rfl (run_idxS (j := .i64) (l := t) (k := p) (b := x) rfl Try.underlying9 (by kernel_rfl) (by kernel_rfl) hx) ?_
          refine lp (v := .bool true) rfl rfl (run_bin rfl (vx := (.int .u8 ((x.toNat : Nat) : Int))) (vy := (.int .u8 ((63 : Nat) : Int))) (by kernel_rfl) (by kernel_rfl) fun w => bn_eql (decide_eq_true h63) w) ?_
          refine wpL_done (fun W9 hW9 => ?_)
          refine (show Code.wp _ _ _ _ _ from ?_)
          refine wp_cond_true rfl ?_
          refine wp_region_L (W0 := w) [] (hW9) ?_
          refine lm (v := .int .i64 ((p : Nat) : Int)) rfl rfl ?_
          refine lp (v := .int .i64 (((p + 2) : Nat) : Int)) rfl rfl (run_bin rfl (vx := (.int .i64 ((p : Nat) : Int))) (vy := (.int .i64 ((2 : Nat) : Int))) (by kernel_rfl) (by kernel_rfl) fun w => bn_add (z := (p + 2)) rfl (wr_i64 (by omega)) w) ?_
          refine lm (v := strV t) rfl rfl ?_
          refine lp (v := .int .i64 ((t.length : Nat) : Int)) rfl rfl (run_lenS (l := t) rfl Try.underlying9 (by kernel_rfl)) ?_
          refine lp (v := .int .i64 ((t.length : Nat) : Int)) rfl rfl (run_minR (k := .i64) (k2 := .i64) (u := (((p + 2) : Nat) : Int)) (v := ((t.length : Nat) : Int)) rfl (by kernel_rfl) (by kernel_rfl) (by rw [if_pos (by omega)])) ?_
          refine lm (v := .int .i64 ((t.length : Nat) : Int)) rfl rfl ?_
          refine wpL_done (fun W10 hW10 => ?_)
          refine (show Code.wp _ _ _ _ _ from ?_)
          refine wp_seq ?_
          refine wp_seq ?_
          refine wp_region_L (W0 := w) [] (hW10) ?_
          refine lm (v := .int .i64 ((er : Nat) : Int)) rfl rfl ?_
          refine lp (v := .bool true) rfl rfl (run_bin rfl (vx := (.int .i64 ((er : Nat) : Int))) (vy := (.int .i64 ((41 : Nat) : Int))) (by kernel_rfl) (by kernel_rfl) fun w => bn_eql (decide_eq_true he) w) ?_
          refine lm (v := .bool true) rfl rfl ?_
          refine lm (v := .int .i64 ((t.length : Nat) : Int)) rfl rfl ?_
          refine lm (v := .int .i64 ((p : Nat) : Int)) rfl rfl ?_
          refine lp (v := .int .i64 (((p + 1) : Nat) : Int)) rfl rfl (run_bin rfl (vx := (.int .i64 ((p : Nat) : Int))) (vy := (.int .i64 ((1 : Nat) : Int))) (by kernel_rfl) (by kernel_rfl) fun w => bn_add (z := (p + 1)) rfl (wr_i64 (by omega)) w) ?_
          refine lp (v := .bool true) rfl rfl (run_bin rfl (vx := (.int .i64 ((t.length : Nat) : Int))) (vy := (.int .i64 (((p + 1) : Nat) : Int))) (by kernel_rfl) (by kernel_rfl) fun w => bn_eql (decide_eq_true hend.symm) w) ?_
          refine lm (v := .bool true) rfl rfl ?_
          refine wpL_done (fun W11 hW11 => ?_)
          refine (show Code.wp _ _ _ _ _ from ?_)
          refine wp_cond_true rfl ?_
          refine wp_seq ?_
          refine wp_region_L (W0 := w) [] (hW11) ?_
          refine lm (v := .bool true) rfl rfl ?_
          refine wpL_done (fun W12 hW12 => ?_)
          refine (show Code.wp _ _ _ _ _ from ?_)
          refine wp_ret ?_
          try simp only [inBlock_ret, then_ret]
          refine bodyPost_ret (v := .bool true) ?_ rfl ?_
          · kernel_rfl
          · exact ⟨rfl, (hW12).1⟩
        by_cases hend : t.length < p + 2
        · by_cases he : er = 41
          · skip
            go_enter Try.func8, Try.ntmps8
            refine wp_seq ?_
            refine wp_region_L (W0 := w) [] (KS.start w) ?_
            refine lm (v := .bool false) rfl rfl ?_
            refine wpL_done (fun W1 hW1 => ?_)
            refine (show Code.wp _ _ _ _ _ from ?_)
            refine wp_seq ?_
            refine wp_seq ?_
            refine wp_region_L (W0 := w) [] (hW1) ?_
            refine lv (v := .bool true) rfl rfl (yb_call (f := 10) (args := #[]) (fun _ => by kernel_rfl) fun W hW => awake_any W) ?_
            refine lm (v := .bool false) rfl rfl ?_
            refine wpL_done (fun W2 hW2 => ?_)
            refine (show Code.wp _ _ _ _ _ from ?_)
            refine wp_cond_false rfl ?_
            refine wp_skip ?_
            refine (show Code.wp _ _ _ _ _ from ?_)
            refine wp_seq ?_
            refine wp_seq ?_
            refine wp_region_L (W0 := w) [] (hW2) ?_
            refine lm (v := strV t) rfl rfl ?_
            refine lp (v := .int .i64 ((t.length : Nat) : Int)) rfl rfl (run_lenS (l := t) rfl Try.underlying9 (by kernel_rfl)) ?_
            refine lp (v := .bool false) rfl rfl (run_bin rfl (vx := (.int .i64 ((t.length : Nat) : Int))) (vy := (.int .i64 ((2000 : Nat) : Int))) (by kernel_rfl) (by kernel_rfl) fun w => bn_gtr (decide_eq_false hl) w) ?_
            refine lm (v := .bool false) rfl rfl ?_
            refine lm (v := strV o) rfl rfl ?_
            refine lp (v := .int .i64 ((o.length : Nat) : Int)) rfl rfl (run_lenS (l := o) rfl Try.underlying9 (by kernel_rfl)) ?_
            refine lp (v := .bool false) rfl rfl (run_bin rfl (vx := (.int .i64 ((o.length : Nat) : Int))) (vy := (.int .i64 ((2000 : Nat) : Int))) (by kernel_rfl) (by kernel_rfl) fun w => bn_gtr (decide_eq_false hl2) w) ?_
            refine lm (v := .bool false) rfl rfl ?_
            refine wpL_done (fun W3 hW3 => ?_)
            refine (show Code.wp _ _ _ _ _ from ?_)
            refine wp_cond_false rfl ?_
            refine wp_skip ?_
            refine (show Code.wp _ _ _ _ _ from ?_)
            refine wp_seq ?_
            refine wp_region_L (W0 := w) [] (hW3) ?_
            refine lm (v := strV t) rfl rfl ?_
            refine wpL_c (f := 15) (args := #[strV t]) (fun v Tz => v = .tuple #[.slice none 0 0, .int .i64 ((p : Nat) : Int), .int .i64 ((er : Nat) : Int)] ∧ Tz = []) rfl (by kernel_rfl) (fun _ => (by kernel_rfl)) (fun W hW => Read_bad hr (by first | omega | (simp only [List.length_append, List.length_cons, List.length_nil]; omega)) W (hW.sub (fun _ h => by cases h))) (fun _ => by simp only [List.setIfInBounds_toArray, List.set_cons_succ, List.set_cons_zero] <;> rfl) ?_
            rintro _ _ ⟨rfl, rfl⟩
            refine lm (v := .tuple #[.slice none 0 0, .int .i64 ((p : Nat) : Int), .int .i64 ((er : Nat) : Int)]) rfl rfl ?_
            refine lm (v := .slice none 0 0) rfl rfl ?_
            refine lm (v := .int .i64 ((p : Nat) : Int)) rfl rfl ?_
            refine lm (v := .int .i64 ((er : Nat) : Int)) rfl rfl ?_
            refine lm (v := .slice none 0 0) rfl rfl ?_
            refine lm (v := .int .i64 ((p : Nat) : Int)) rfl rfl ?_
            refine lm (v := .int .i64 ((er : Nat) : Int)) rfl rfl ?_
            refine wpL_done (fun W4 hW4 => ?_)
            refine (show Code.wp _ _ _ _ _ from ?_)
            refine wp_seq ?_
            refine wp_seq ?_
            refine wp_region_L (W0 := w) [] (hW4) ?_
            refine lm (v := .int .i64 ((er : Nat) : Int)) rfl rfl ?_
            refine lp (v := .bool false) rfl rfl (run_bin rfl (vx := (.int .i64 ((er : Nat) : Int))) (vy := (.int .i64 ((0 : Nat) : Int))) (by kernel_rfl) (by kernel_rfl) fun w => bn_eql (decide_eq_false hne) w) ?_
            refine lm (v := .bool false) rfl rfl ?_
            refine lm (v := .int .i64 ((er : Nat) : Int)) rfl rfl ?_
            refine lp (v := .bool false) rfl rfl (run_bin rfl (vx := (.int .i64 ((er : Nat) : Int))) (vy := (.int .i64 ((42 : Nat) : Int))) (by kernel_rfl) (by kernel_rfl) fun w => bn_eql (decide_eq_false h42) w) ?_
            refine lm (v := .bool false) rfl rfl ?_
            refine wpL_done (fun W5 hW5 => ?_)
            refine (show Code.wp _ _ _ _ _ from ?_)
            refine wp_cond_false rfl ?_
            refine wp_skip ?_
            refine (show Code.wp _ _ _ _ _ from ?_)
            refine wp_seq ?_
            refine wp_region_L (W0 := w) [] (hW5) ?_
            refine lm (v := strV t) rfl rfl ?_
            refine lm (v := .int .i64 ((p : Nat) : Int)) rfl rfl ?_
            refine lp (v := strV (t.take p)) rfl rfl (run_slH (k2 := .i64) (l := t) (r := (t.take p)) (j := p) rfl Try.underlying9 (by kernel_rfl) (by kernel_rfl) (by omega) rfl) ?_
            refine wpL_c (f := 15) (args := #[strV (t.take p)]) (fun v Tz => v = .tuple #[.slice none 0 0, .int .i64 ((p : Nat) : Int), .int .i64 ((42 : Nat) : Int)] ∧ Tz = []) rfl (by kernel_rfl) (fun _ => (by kernel_rfl)) (fun W hW => Read_bad h1 (by omega) W (hW.sub (fun _ h => by cases h))) (fun _ => by simp only [List.setIfInBounds_toArray, List.set_cons_succ, List.set_cons_zero] <;> rfl) ?_
            rintro _ _ ⟨rfl, rfl⟩
            refine lm (v := .tuple #[.slice none 0 0, .int .i64 ((p : Nat) : Int), .int .i64 42]) rfl rfl ?_
            refine lm (v := .slice none 0 0) rfl rfl ?_
            refine lm (v := .int .i64 ((p : Nat) : Int)) rfl rfl ?_
            refine lm (v := .int .i64 42) rfl rfl ?_
            refine lm (v := .slice none 0 0) rfl rfl ?_
            refine lm (v := .int .i64 ((p : Nat) : Int)) rfl rfl ?_
            refine lm (v := .int .i64 42) rfl rfl ?_
            refine wpL_done (fun W6 hW6 => ?_)
            refine (show Code.wp _ _ _ _ _ from ?_)
            refine wp_seq ?_
            refine wp_seq ?_
            refine wp_region_L (W0 := w) [] (hW6) ?_
            refine lm (v := .int .i64 42) rfl rfl ?_
            refine lm (v := .bool true) rfl rfl ?_
            refine lm (v := .bool true) rfl rfl ?_
            refine lm (v := .int .i64 42) rfl rfl ?_
            refine lm (v := .bool false) rfl rfl ?_
            refine lm (v := .bool false) rfl rfl ?_
            refine lm (v := .int .i64 ((p : Nat) : Int)) rfl rfl ?_
            refine lm (v := .int .i64 ((p : Nat) : Int)) rfl rfl ?_
            refine lp (v := .bool false) rfl rfl (run_bin rfl (vx := (.int .i64 ((p : Nat) : Int))) (vy := (.int .i64 ((p : Nat) : Int))) (by kernel_rfl) (by kernel_rfl) fun w => bn_neq (decide_eq_true rfl) w) ?_
            refine lm (v := .bool false) rfl rfl ?_
            refine lm (v := .bool false) rfl rfl ?_
            refine wpL_done (fun W7 hW7 => ?_)
            refine (show Code.wp _ _ _ _ _ from ?_)
            refine wp_cond_false rfl ?_
            refine wp_skip ?_
            refine (show Code.wp _ _ _ _ _ from ?_)
            refine wp_seq ?_
            refine wp_region_L (W0 := w) [] (hW7) ?_
            refine lm (v := .int .i64 ((p : Nat) : Int)) rfl rfl ?_
            refine lp (v := .int .i64 (((p + 1) : Nat) : Int)) rfl rfl (run_bin rfl (vx := (.int .i64 ((p : Nat) : Int))) (vy := (.int .i64 ((1 : Nat) : Int))) (by kernel_rfl) (by kernel_rfl) fun w => bn_add (z := (p + 1)) rfl (wr_i64 (by omega)) w) ?_
            refine lm (v := .int .i64 (((p + 1) : Nat) : Int)) rfl rfl ?_
            refine wpL_done (fun W8 hW8 => ?_)
            refine (show Code.wp _ _ _ _ _ from ?_)
            refine wp_seq ?_
            refine wp_seq ?_
            refine wp_region_L (W0 := w) [] (hW8) ?_
            refine lm (v := strV t) rfl rfl ?_
            refine lm (v := .int .i64 ((p : Nat) : Int)) rfl rfl ?_
            refine lp (v := .int .u8 ((x.toNat : Nat) : Int)) rfl rfl (run_idxS (j := .i64) (l := t) (k := p) (b := x) rfl Try.underlying9 (by kernel_rfl) (by kernel_rfl) hx) ?_
            refine lp (v := .bool true) rfl rfl (run_bin rfl (vx := (.int .u8 ((x.toNat : Nat) : Int))) (vy := (.int .u8 ((63 : Nat) : Int))) (by kernel_rfl) (by kernel_rfl) fun w => bn_eql (decide_eq_true h63) w) ?_
            refine wpL_done (fun W9 hW9 => ?_)
            refine (show Code.wp _ _ _ _ _ from ?_)
            refine wp_cond_true rfl ?_
            refine wp_region_L (W0 := w) [] (hW9) ?_
            refine lm (v := .int .i64 ((p : Nat) : Int)) rfl rfl ?_
            refine lp (v := .int .i64 (((p + 2) : Nat) : Int)) rfl rfl (run_bin rfl (vx := (.int .i64 ((p : Nat) : Int))) (vy := (.int .i64 ((2 : Nat) : Int))) (by kernel_rfl) (by kernel_rfl) fun w => bn_add (z := (p + 2)) rfl (wr_i64 (by omega)) w) ?_
            refine lm (v := strV t) rfl rfl ?_
            refine lp (v := .int .i64 ((t.length : Nat) : Int)) rfl rfl (run_lenS (l := t) rfl Try.underlying9 (by kernel_rfl)) ?_
            refine lp (v := .int .i64 ((t.length : Nat) : Int)) rfl rfl (run_minR (k := .i64) (k2 := .i64) (u := (((p + 2) : Nat) : Int)) (v := ((t.length : Nat) : Int)) rfl (by kernel_rfl) (by kernel_rfl) (by rw [if_pos (by omega)])) ?_
            refine lm (v := .int .i64 ((t.length : Nat) : Int)) rfl rfl ?_
            refine wpL_done (fun W10 hW10 => ?_)
            refine (show Code.wp _ _ _ _ _ from ?_)
            refine wp_seq ?_
            refine wp_seq ?_
            refine wp_region_L (W0 := w) [] (hW10) ?_
            refine lm (v := .int .i64 ((er : Nat) : Int)) rfl rfl ?_
            refine lp (v := .bool true) rfl rfl (run_bin rfl (vx := (.int .i64 ((er : Nat) : Int))) (vy := (.int .i64 ((41 : Nat) : Int))) (by kernel_rfl) (by kernel_rfl) fun w => bn_eql (decide_eq_true he) w) ?_
            refine lm (v := .bool true) rfl rfl ?_
            refine lm (v := .int .i64 ((t.length : Nat) : Int)) rfl rfl ?_
            refine lm (v := .int .i64 ((p : Nat) : Int)) rfl rfl ?_
            refine lp (v := .int .i64 (((p + 1) : Nat) : Int)) rfl rfl (run_bin rfl (vx := (.int .i64 ((p : Nat) : Int))) (vy := (.int .i64 ((1 : Nat) : Int))) (by kernel_rfl) (by kernel_rfl) fun w => bn_add (z := (p + 1)) rfl (wr_i64 (by omega)) w) ?_
            refine lp (v := .bool true) rfl rfl (run_bin rfl (vx := (.int .i64 ((t.length : Nat) : Int))) (vy := (.int .i64 (((p + 1) : Nat) : Int))) (by kernel_rfl) (by kernel_rfl) fun w => bn_eql (decide_eq_true (by omega)) w) ?_
            refine lm (v := .bool true) rfl rfl ?_
            refine wpL_done (fun W11 hW11 => ?_)
            refine (show Code.wp _ _ _ _ _ from ?_)
            refine wp_cond_true rfl ?_
            refine wp_seq ?_
            refine wp_region_L (W0 := w) [] (hW11) ?_
            refine lm (v := .bool true) rfl rfl ?_
            refine wpL_done (fun W12 hW12 => ?_)
            refine (show Code.wp _ _ _ _ _ from ?_)
            refine wp_ret ?_
            try simp only [inBlock_ret, then_ret]
            refine bodyPost_ret (v := .bool true) ?_ rfl ?_
            · kernel_rfl
            · exact ⟨rfl, (hW12).1⟩
          exact absurd (last_q hr hx h63 (by omega) (by omega)) he
        have h3 : readT (t.take (p + 2) ++ o) = .bad p er := h2 (p + 2) o (by omega) (fun _ => by omega) (by rw [List.length_append, List.length_take]; omega) (by omega)
        go_enter Try.func8, Try.ntmps8
        refine wp_seq ?_
        refine wp_region_L (W0 := w) [] (KS.start w) ?_
        refine lm (v := .bool false) rfl rfl ?_
        refine wpL_done (fun W1 hW1 => ?_)
        refine (show Code.wp _ _ _ _ _ from ?_)
        refine wp_seq ?_
        refine wp_seq ?_
        refine wp_region_L (W0 := w) [] (hW1) ?_
        refine lv (v := .bool true) rfl rfl (yb_call (f := 10) (args := #[]) (fun _ => by kernel_rfl) fun W hW => awake_any W) ?_
        refine lm (v := .bool false) rfl rfl ?_
        refine wpL_done (fun W2 hW2 => ?_)
        refine (show Code.wp _ _ _ _ _ from ?_)
        refine wp_cond_false rfl ?_
        refine wp_skip ?_
        refine (show Code.wp _ _ _ _ _ from ?_)
        refine wp_seq ?_
        refine wp_seq ?_
        refine wp_region_L (W0 := w) [] (hW2) ?_
        refine lm (v := strV t) rfl rfl ?_
        refine lp (v := .int .i64 ((t.length : Nat) : Int)) rfl rfl (run_lenS (l := t) rfl Try.underlying9 (by kernel_rfl)) ?_
        refine lp (v := .bool false) rfl rfl (run_bin rfl (vx := (.int .i64 ((t.length : Nat) : Int))) (vy := (.int .i64 ((2000 : Nat) : Int))) (by kernel_rfl) (by kernel_rfl) fun w => bn_gtr (decide_eq_false hl) w) ?_
        refine lm (v := .bool false) rfl rfl ?_
        refine lm (v := strV o) rfl rfl ?_
        refine lp (v := .int .i64 ((o.length : Nat) : Int)) rfl rfl (run_lenS (l := o) rfl Try.underlying9 (by kernel_rfl)) ?_
        refine lp (v := .bool false) rfl rfl (run_bin rfl (vx := (.int .i64 ((o.length : Nat) : Int))) (vy := (.int .i64 ((2000 : Nat) : Int))) (by kernel_rfl) (by kernel_rfl) fun w => bn_gtr (decide_eq_false hl2) w) ?_
        refine lm (v := .bool false) rfl rfl ?_
        refine wpL_done (fun W3 hW3 => ?_)
        refine (show Code.wp _ _ _ _ _ from ?_)
        refine wp_cond_false rfl ?_
        refine wp_skip ?_
        refine (show Code.wp _ _ _ _ _ from ?_)
        refine wp_seq ?_
        refine wp_region_L (W0 := w) [] (hW3) ?_
        refine lm (v := strV t) rfl rfl ?_
        refine wpL_c (f := 15) (args := #[strV t]) (fun v Tz => v = .tuple #[.slice none 0 0, .int .i64 ((p : Nat) : Int), .int .i64 ((er : Nat) : Int)] ∧ Tz = []) rfl (by kernel_rfl) (fun _ => (by kernel_rfl)) (fun W hW => Read_bad hr (by first | omega | (simp only [List.length_append, List.length_cons, List.length_nil]; omega)) W (hW.sub (fun _ h => by cases h))) (fun _ => by simp only [List.setIfInBounds_toArray, List.set_cons_succ, List.set_cons_zero] <;> rfl) ?_
        rintro _ _ ⟨rfl, rfl⟩
        refine lm (v := .tuple #[.slice none 0 0, .int .i64 ((p : Nat) : Int), .int .i64 ((er : Nat) : Int)]) rfl rfl ?_
        refine lm (v := .slice none 0 0) rfl rfl ?_
        refine lm (v := .int .i64 ((p : Nat) : Int)) rfl rfl ?_
        refine lm (v := .int .i64 ((er : Nat) : Int)) rfl rfl ?_
        refine lm (v := .slice none 0 0) rfl rfl ?_
        refine lm (v := .int .i64 ((p : Nat) : Int)) rfl rfl ?_
        refine lm (v := .int .i64 ((er : Nat) : Int)) rfl rfl ?_
        refine wpL_done (fun W4 hW4 => ?_)
        refine (show Code.wp _ _ _ _ _ from ?_)
        refine wp_seq ?_
        refine wp_seq ?_
        refine wp_region_L (W0 := w) [] (hW4) ?_
        refine lm (v := .int .i64 ((er : Nat) : Int)) rfl rfl ?_
        refine lp (v := .bool false) rfl rfl (run_bin rfl (vx := (.int .i64 ((er : Nat) : Int))) (vy := (.int .i64 ((0 : Nat) : Int))) (by kernel_rfl) (by kernel_rfl) fun w => bn_eql (decide_eq_false hne) w) ?_
        refine lm (v := .bool false) rfl rfl ?_
        refine lm (v := .int .i64 ((er : Nat) : Int)) rfl rfl ?_
        refine lp (v := .bool false) rfl rfl (run_bin rfl (vx := (.int .i64 ((er : Nat) : Int))) (vy := (.int .i64 ((42 : Nat) : Int))) (by kernel_rfl) (by kernel_rfl) fun w => bn_eql (decide_eq_false h42) w) ?_
        refine lm (v := .bool false) rfl rfl ?_
        refine wpL_done (fun W5 hW5 => ?_)
        refine (show Code.wp _ _ _ _ _ from ?_)
        refine wp_cond_false rfl ?_
        refine wp_skip ?_
        refine (show Code.wp _ _ _ _ _ from ?_)
        refine wp_seq ?_
        refine wp_region_L (W0 := w) [] (hW5) ?_
        refine lm (v := strV t) rfl rfl ?_
        refine lm (v := .int .i64 ((p : Nat) : Int)) rfl rfl ?_
        refine lp (v := strV (t.take p)) rfl rfl (run_slH (k2 := .i64) (l := t) (r := (t.take p)) (j := p) rfl Try.underlying9 (by kernel_rfl) (by kernel_rfl) (by omega) rfl) ?_
        refine wpL_c (f := 15) (args := #[strV (t.take p)]) (fun v Tz => v = .tuple #[.slice none 0 0, .int .i64 ((p : Nat) : Int), .int .i64 ((42 : Nat) : Int)] ∧ Tz = []) rfl (by kernel_rfl) (fun _ => (by kernel_rfl)) (fun W hW => Read_bad h1 (by omega) W (hW.sub (fun _ h => by cases h))) (fun _ => by simp only [List.setIfInBounds_toArray, List.set_cons_succ, List.set_cons_zero] <;> rfl) ?_
        rintro _ _ ⟨rfl, rfl⟩
        refine lm (v := .tuple #[.slice none 0 0, .int .i64 ((p : Nat) : Int), .int .i64 42]) rfl rfl ?_
        refine lm (v := .slice none 0 0) rfl rfl ?_
        refine lm (v := .int .i64 ((p : Nat) : Int)) rfl rfl ?_
        refine lm (v := .int .i64 42) rfl rfl ?_
        refine lm (v := .slice none 0 0) rfl rfl ?_
        refine lm (v := .int .i64 ((p : Nat) : Int)) rfl rfl ?_
        refine lm (v := .int .i64 42) rfl rfl ?_
        refine wpL_done (fun W6 hW6 => ?_)
        refine (show Code.wp _ _ _ _ _ from ?_)
        refine wp_seq ?_
        refine wp_seq ?_
        refine wp_region_L (W0 := w) [] (hW6) ?_
        refine lm (v := .int .i64 42) rfl rfl ?_
        refine lm (v := .bool true) rfl rfl ?_
        refine lm (v := .bool true) rfl rfl ?_
        refine lm (v := .int .i64 42) rfl rfl ?_
        refine lm (v := .bool false) rfl rfl ?_
        refine lm (v := .bool false) rfl rfl ?_
        refine lm (v := .int .i64 ((p : Nat) : Int)) rfl rfl ?_
        refine lm (v := .int .i64 ((p : Nat) : Int)) rfl rfl ?_
        refine lp (v := .bool false) rfl rfl (run_bin rfl (vx := (.int .i64 ((p : Nat) : Int))) (vy := (.int .i64 ((p : Nat) : Int))) (by kernel_rfl) (by kernel_rfl) fun w => bn_neq (decide_eq_true rfl) w) ?_
        refine lm (v := .bool false) rfl rfl ?_
        refine lm (v := .bool false) rfl rfl ?_
        refine wpL_done (fun W7 hW7 => ?_)
        refine (show Code.wp _ _ _ _ _ from ?_)
        refine wp_cond_false rfl ?_
        refine wp_skip ?_
        refine (show Code.wp _ _ _ _ _ from ?_)
        refine wp_seq ?_
        refine wp_region_L (W0 := w) [] (hW7) ?_
        refine lm (v := .int .i64 ((p : Nat) : Int)) rfl rfl ?_
        refine lp (v := .int .i64 (((p + 1) : Nat) : Int)) rfl rfl (run_bin rfl (vx := (.int .i64 ((p : Nat) : Int))) (vy := (.int .i64 ((1 : Nat) : Int))) (by kernel_rfl) (by kernel_rfl) fun w => bn_add (z := (p + 1)) rfl (wr_i64 (by omega)) w) ?_
        refine lm (v := .int .i64 (((p + 1) : Nat) : Int)) rfl rfl ?_
        refine wpL_done (fun W8 hW8 => ?_)
        refine (show Code.wp _ _ _ _ _ from ?_)
        refine wp_seq ?_
        refine wp_seq ?_
        refine wp_region_L (W0 := w) [] (hW8) ?_
        refine lm (v := strV t) rfl rfl ?_
        refine lm (v := .int .i64 ((p : Nat) : Int)) rfl rfl ?_
        refine lp (v := .int .u8 ((x.toNat : Nat) : Int)) rfl rfl (run_idxS (j := .i64) (l := t) (k := p) (b := x) rfl Try.underlying9 (by kernel_rfl) (by kernel_rfl) hx) ?_
        refine lp (v := .bool true) rfl rfl (run_bin rfl (vx := (.int .u8 ((x.toNat : Nat) : Int))) (vy := (.int .u8 ((63 : Nat) : Int))) (by kernel_rfl) (by kernel_rfl) fun w => bn_eql (decide_eq_true h63) w) ?_
        refine wpL_done (fun W9 hW9 => ?_)
        refine (show Code.wp _ _ _ _ _ from ?_)
        refine wp_cond_true rfl ?_
        refine wp_region_L (W0 := w) [] (hW9) ?_
        refine lm (v := .int .i64 ((p : Nat) : Int)) rfl rfl ?_
        refine lp (v := .int .i64 (((p + 2) : Nat) : Int)) rfl rfl (run_bin rfl (vx := (.int .i64 ((p : Nat) : Int))) (vy := (.int .i64 ((2 : Nat) : Int))) (by kernel_rfl) (by kernel_rfl) fun w => bn_add (z := (p + 2)) rfl (wr_i64 (by omega)) w) ?_
        refine lm (v := strV t) rfl rfl ?_
        refine lp (v := .int .i64 ((t.length : Nat) : Int)) rfl rfl (run_lenS (l := t) rfl Try.underlying9 (by kernel_rfl)) ?_
        refine lp (v := .int .i64 (((p + 2) : Nat) : Int)) rfl rfl (run_minR (k := .i64) (k2 := .i64) (u := (((p + 2) : Nat) : Int)) (v := ((t.length : Nat) : Int)) rfl (by kernel_rfl) (by kernel_rfl) (by rw [if_neg (by omega)])) ?_
        refine lm (v := .int .i64 (((p + 2) : Nat) : Int)) rfl rfl ?_
        refine wpL_done (fun W10 hW10 => ?_)
        refine (show Code.wp _ _ _ _ _ from ?_)
        refine wp_seq ?_
        refine wp_seq ?_
        refine wp_region_L (W0 := w) [] (hW10) ?_
        refine lm (v := .int .i64 ((er : Nat) : Int)) rfl rfl ?_
        refine lp (v := .bool (decide (er = 41))) rfl rfl (run_bin rfl (vx := (.int .i64 ((er : Nat) : Int))) (vy := (.int .i64 ((41 : Nat) : Int))) (by kernel_rfl) (by kernel_rfl) fun w => bn_eql rfl w) ?_
        refine lm (v := .bool (decide (er = 41))) rfl rfl ?_
        cases hd1 : (decide (er = 41)) with
        | false =>
          have h1 : ¬ (er = 41) := of_decide_eq_false hd1
          clear hd1
          refine ln rfl ?_
          refine ln rfl ?_
          refine ln rfl ?_
          refine ln rfl ?_
          refine lm (v := .bool false) rfl rfl ?_
          refine wpL_done (fun W11 hW11 => ?_)
          refine (show Code.wp _ _ _ _ _ from ?_)
          refine wp_cond_false rfl ?_
          refine wp_skip ?_
          refine (show Code.wp _ _ _ _ _ from ?_)
          refine wp_seq ?_
          refine wp_region_L (W0 := w) [] (hW11) ?_
          refine lm (v := strV t) rfl rfl ?_
          refine lm (v := .int .i64 (((p + 2) : Nat) : Int)) rfl rfl ?_
          refine lp (v := strV (t.take (p + 2))) rfl rfl (run_slH (k2 := .i64) (l := t) (r := (t.take (p + 2))) (j := (p + 2)) rfl Try.underlying9 (by kernel_rfl) (by kernel_rfl) (by omega) rfl) ?_
          refine lm (v := strV o) rfl rfl ?_
          refine lp (v := strV ((t.take (p + 2)) ++ o)) rfl rfl (run_bin rfl (vx := strV (t.take (p + 2))) (vy := strV o) (by kernel_rfl) (by kernel_rfl) fun w => bs_add (c := ((t.take (p + 2)) ++ o)) rfl (by first | omega | (simp; omega)) w) ?_
          refine wpL_c (f := 15) (args := #[strV ((t.take (p + 2)) ++ o)]) (fun v Tz => v = .tuple #[.slice none 0 0, .int .i64 ((p : Nat) : Int), .int .i64 ((er : Nat) : Int)] ∧ Tz = []) rfl (by kernel_rfl) (fun _ => (by kernel_rfl)) (fun W hW => Read_bad h3 (by first | omega | (simp only [List.length_append, List.length_cons, List.length_nil]; omega)) W (hW.sub (fun _ h => by cases h))) (fun _ => by simp only [List.setIfInBounds_toArray, List.set_cons_succ, List.set_cons_zero] <;> rfl) ?_
          rintro _ _ ⟨rfl, rfl⟩
          refine lm (v := .tuple #[.slice none 0 0, .int .i64 ((p : Nat) : Int), .int .i64 ((er : Nat) : Int)]) rfl rfl ?_
          refine lm (v := .slice none 0 0) rfl rfl ?_
          refine lm (v := .int .i64 ((p : Nat) : Int)) rfl rfl ?_
          refine lm (v := .int .i64 ((er : Nat) : Int)) rfl rfl ?_
          refine lm (v := .int .i64 ((p : Nat) : Int)) rfl rfl ?_
          refine lm (v := .int .i64 ((er : Nat) : Int)) rfl rfl ?_
          refine wpL_done (fun W12 hW12 => ?_)
          refine (show Code.wp _ _ _ _ _ from ?_)
          refine wp_seq ?_
          refine wp_region_L (W0 := w) [] (hW12) ?_
          refine lm (v := .int .i64 ((er : Nat) : Int)) rfl rfl ?_
          refine lm (v := .int .i64 ((er : Nat) : Int)) rfl rfl ?_
          refine lp (v := .bool true) rfl rfl (run_bin rfl (vx := (.int .i64 ((er : Nat) : Int))) (vy := (.int .i64 ((er : Nat) : Int))) (by kernel_rfl) (by kernel_rfl) fun w => bn_eql (decide_eq_true rfl) w) ?_
          refine lm (v := .bool true) rfl rfl ?_
          refine lm (v := .int .i64 ((p : Nat) : Int)) rfl rfl ?_
          refine lm (v := .int .i64 ((p : Nat) : Int)) rfl rfl ?_
          refine lp (v := .bool true) rfl rfl (run_bin rfl (vx := (.int .i64 ((p : Nat) : Int))) (vy := (.int .i64 ((p : Nat) : Int))) (by kernel_rfl) (by kernel_rfl) fun w => bn_eql (decide_eq_true rfl) w) ?_
          refine lm (v := .bool true) rfl rfl ?_
          refine lm (v := .bool true) rfl rfl ?_
          refine wpL_done (fun W13 hW13 => ?_)
          refine (show Code.wp _ _ _ _ _ from ?_)
          refine wp_ret ?_
          try simp only [inBlock_ret, then_ret]
          refine bodyPost_ret (v := .bool true) ?_ rfl ?_
          · kernel_rfl
          · exact ⟨rfl, (hW13).1⟩
        | true =>
          have h1 : er = 41 := of_decide_eq_true hd1
          clear hd1
          refine lm (v := .int .i64 (((p + 2) : Nat) : Int)) rfl rfl ?_
          refine lm (v := .int .i64 ((p : Nat) : Int)) rfl rfl ?_
          refine lp (v := .int .i64 (((p + 1) : Nat) : Int)) rfl rfl (run_bin rfl (vx := (.int .i64 ((p : Nat) : Int))) (vy := (.int .i64 ((1 : Nat) : Int))) (by kernel_rfl) (by kernel_rfl) fun w => bn_add (z := (p + 1)) rfl (wr_i64 (by omega)) w) ?_
          refine lp (v := .bool false) rfl rfl (run_bin rfl (vx := (.int .i64 (((p + 2) : Nat) : Int))) (vy := (.int .i64 (((p + 1) : Nat) : Int))) (by kernel_rfl) (by kernel_rfl) fun w => bn_eql (decide_eq_false (by omega)) w) ?_
          refine lm (v := .bool false) rfl rfl ?_
          refine wpL_done (fun W14 hW14 => ?_)
          refine (show Code.wp _ _ _ _ _ from ?_)
          refine wp_cond_false rfl ?_
          refine wp_skip ?_
          refine (show Code.wp _ _ _ _ _ from ?_)
          refine wp_seq ?_
          refine wp_region_L (W0 := w) [] (hW14) ?_
          refine lm (v := strV t) rfl rfl ?_
          refine lm (v := .int .i64 (((p + 2) : Nat) : Int)) rfl rfl ?_
          refine lp (v := strV (t.take (p + 2))) rfl rfl (run_slH (k2 := .i64) (l := t) (r := (t.take (p + 2))) (j := (p + 2)) rfl Try.underlying9 (by kernel_rfl) (by kernel_rfl) (by omega) rfl) ?_
          refine lm (v := strV o) rfl rfl ?_
          refine lp (v := strV ((t.take (p + 2)) ++ o)) rfl rfl (run_bin rfl (vx := strV (t.take (p + 2))) (vy := strV o) (by kernel_rfl) (by kernel_rfl) fun w => bs_add (c := ((t.take (p + 2)) ++ o)) rfl (by first | omega | (simp; omega)) w) ?_
          refine wpL_c (f := 15) (args := #[strV ((t.take (p + 2)) ++ o)]) (fun v Tz => v = .tuple #[.slice none 0 0, .int .i64 ((p : Nat) : Int), .int .i64 ((er : Nat) : Int)] ∧ Tz = []) rfl (by kernel_rfl) (fun _ => (by kernel_rfl)) (fun W hW => Read_bad h3 (by first | omega | (simp only [List.length_append, List.length_cons, List.length_nil]; omega)) W (hW.sub (fun _ h => by cases h))) (fun _ => by simp only [List.setIfInBounds_toArray, List.set_cons_succ, List.set_cons_zero] <;> rfl) ?_
          rintro _ _ ⟨rfl, rfl⟩
          refine lm (v := .tuple #[.slice none 0 0, .int .i64 ((p : Nat) : Int), .int .i64 ((er : Nat) : Int)]) rfl rfl ?_
          refine lm (v := .slice none 0 0) rfl rfl ?_
          refine lm (v := .int .i64 ((p : Nat) : Int)) rfl rfl ?_
          refine lm (v := .int .i64 ((er : Nat) : Int)) rfl rfl ?_
          refine lm (v := .int .i64 ((p : Nat) : Int)) rfl rfl ?_
          refine lm (v := .int .i64 ((er : Nat) : Int)) rfl rfl ?_
          refine wpL_done (fun W15 hW15 => ?_)
          refine (show Code.wp _ _ _ _ _ from ?_)
          refine wp_seq ?_
          refine wp_region_L (W0 := w) [] (hW15) ?_
          refine lm (v := .int .i64 ((er : Nat) : Int)) rfl rfl ?_
          refine lm (v := .int .i64 ((er : Nat) : Int)) rfl rfl ?_
          refine lp (v := .bool true) rfl rfl (run_bin rfl (vx := (.int .i64 ((er : Nat) : Int))) (vy := (.int .i64 ((er : Nat) : Int))) (by kernel_rfl) (by kernel_rfl) fun w => bn_eql (decide_eq_true rfl) w) ?_
          refine lm (v := .bool true) rfl rfl ?_
          refine lm (v := .int .i64 ((p : Nat) : Int)) rfl rfl ?_
          refine lm (v := .int .i64 ((p : Nat) : Int)) rfl rfl ?_
          refine lp (v := .bool true) rfl rfl (run_bin rfl (vx := (.int .i64 ((p : Nat) : Int))) (vy := (.int .i64 ((p : Nat) : Int))) (by kernel_rfl) (by kernel_rfl) fun w => bn_eql (decide_eq_true rfl) w) ?_
          refine lm (v := .bool true) rfl rfl ?_
          refine lm (v := .bool true) rfl rfl ?_
          refine wpL_done (fun W16 hW16 => ?_)
          refine (show Code.wp _ _ _ _ _ from ?_)
          refine wp_ret ?_
          try simp only [inBlock_ret, then_ret]
          refine bodyPost_ret (v := .bool true) ?_ rfl ?_
          · kernel_rfl
          · exact ⟨rfl, (hW16).1⟩
      · rcases h2 with ⟨h, _⟩ | h2
        · exact absurd h h63
        have h3 : readT (t.take (p + 1) ++ o) = .bad p er := h2 (p + 1) o (Nat.le_refl _) (fun h => absurd h h63) (by rw [List.length_append, List.length_take]; omega) (by omega)
        go_enter Try.func8, Try.ntmps8
        refine wp_seq ?_
        refine wp_region_L (W0 := w) [] (KS.start w) ?_
        refine lm (v := .bool false) rfl rfl ?_
        refine wpL_done (fun W1 hW1 => ?_)
        refine (show Code.wp _ _ _ _ _ from ?_)
        refine wp_seq ?_
        refine wp_seq ?_
        refine wp_region_L (W0 := w) [] (hW1) ?_
        refine lv (v := .bool true) rfl rfl (yb_call (f := 10) (args := #[]) (fun _ => by kernel_rfl) fun W hW => awake_any W) ?_
        refine lm (v := .bool false) rfl rfl ?_
        refine wpL_done (fun W2 hW2 => ?_)
        refine (show Code.wp _ _ _ _ _ from ?_)
        refine wp_cond_false rfl ?_
        refine wp_skip ?_
        refine (show Code.wp _ _ _ _ _ from ?_)
        refine wp_seq ?_
        refine wp_seq ?_
        refine wp_region_L (W0 := w) [] (hW2) ?_
        refine lm (v := strV t) rfl rfl ?_
        refine lp (v := .int .i64 ((t.length : Nat) : Int)) rfl rfl (run_lenS (l := t) rfl Try.underlying9 (by kernel_rfl)) ?_
        refine lp (v := .bool false) rfl rfl (run_bin rfl (vx := (.int .i64 ((t.length : Nat) : Int))) (vy := (.int .i64 ((2000 : Nat) : Int))) (by kernel_rfl) (by kernel_rfl) fun w => bn_gtr (decide_eq_false hl) w) ?_
        refine lm (v := .bool false) rfl rfl ?_
        refine lm (v := strV o) rfl rfl ?_
        refine lp (v := .int .i64 ((o.length : Nat) : Int)) rfl rfl (run_lenS (l := o) rfl Try.underlying9 (by kernel_rfl)) ?_
        refine lp (v := .bool false) rfl rfl (run_bin rfl (vx := (.int .i64 ((o.length : Nat) : Int))) (vy := (.int .i64 ((2000 : Nat) : Int))) (by kernel_rfl) (by kernel_rfl) fun w => bn_gtr (decide_eq_false hl2) w) ?_
        refine lm (v := .bool false) rfl rfl ?_
        refine wpL_done (fun W3 hW3 => ?_)
        refine (show Code.wp _ _ _ _ _ from ?_)
        refine wp_cond_false rfl ?_
        refine wp_skip ?_
        refine (show Code.wp _ _ _ _ _ from ?_)
        refine wp_seq ?_
        refine wp_region_L (W0 := w) [] (hW3) ?_
        refine lm (v := strV t) rfl rfl ?_
        refine wpL_c (f := 15) (args := #[strV t]) (fun v Tz => v = .tuple #[.slice none 0 0, .int .i64 ((p : Nat) : Int), .int .i64 ((er : Nat) : Int)] ∧ Tz = []) rfl (by kernel_rfl) (fun _ => (by kernel_rfl)) (fun W hW => Read_bad hr (by first | omega | (simp only [List.length_append, List.length_cons, List.length_nil]; omega)) W (hW.sub (fun _ h => by cases h))) (fun _ => by simp only [List.setIfInBounds_toArray, List.set_cons_succ, List.set_cons_zero] <;> rfl) ?_
        rintro _ _ ⟨rfl, rfl⟩
        refine lm (v := .tuple #[.slice none 0 0, .int .i64 ((p : Nat) : Int), .int .i64 ((er : Nat) : Int)]) rfl rfl ?_
        refine lm (v := .slice none 0 0) rfl rfl ?_
        refine lm (v := .int .i64 ((p : Nat) : Int)) rfl rfl ?_
        refine lm (v := .int .i64 ((er : Nat) : Int)) rfl rfl ?_
        refine lm (v := .slice none 0 0) rfl rfl ?_
        refine lm (v := .int .i64 ((p : Nat) : Int)) rfl rfl ?_
        refine lm (v := .int .i64 ((er : Nat) : Int)) rfl rfl ?_
        refine wpL_done (fun W4 hW4 => ?_)
        refine (show Code.wp _ _ _ _ _ from ?_)
        refine wp_seq ?_
        refine wp_seq ?_
        refine wp_region_L (W0 := w) [] (hW4) ?_
        refine lm (v := .int .i64 ((er : Nat) : Int)) rfl rfl ?_
        refine lp (v := .bool false) rfl rfl (run_bin rfl (vx := (.int .i64 ((er : Nat) : Int))) (vy := (.int .i64 ((0 : Nat) : Int))) (by kernel_rfl) (by kernel_rfl) fun w => bn_eql (decide_eq_false hne) w) ?_
        refine lm (v := .bool false) rfl rfl ?_
        refine lm (v := .int .i64 ((er : Nat) : Int)) rfl rfl ?_
        refine lp (v := .bool false) rfl rfl (run_bin rfl (vx := (.int .i64 ((er : Nat) : Int))) (vy := (.int .i64 ((42 : Nat) : Int))) (by kernel_rfl) (by kernel_rfl) fun w => bn_eql (decide_eq_false h42) w) ?_
        refine lm (v := .bool false) rfl rfl ?_
        refine wpL_done (fun W5 hW5 => ?_)
        refine (show Code.wp _ _ _ _ _ from ?_)
        refine wp_cond_false rfl ?_
        refine wp_skip ?_
        refine (show Code.wp _ _ _ _ _ from ?_)
        refine wp_seq ?_
        refine wp_region_L (W0 := w) [] (hW5) ?_
        refine lm (v := strV t) rfl rfl ?_
        refine lm (v := .int .i64 ((p : Nat) : Int)) rfl rfl ?_
        refine lp (v := strV (t.take p)) rfl rfl (run_slH (k2 := .i64) (l := t) (r := (t.take p)) (j := p) rfl Try.underlying9 (by kernel_rfl) (by kernel_rfl) (by omega) rfl) ?_
        refine wpL_c (f := 15) (args := #[strV (t.take p)]) (fun v Tz => v = .tuple #[.slice none 0 0, .int .i64 ((p : Nat) : Int), .int .i64 ((42 : Nat) : Int)] ∧ Tz = []) rfl (by kernel_rfl) (fun _ => (by kernel_rfl)) (fun W hW => Read_bad h1 (by omega) W (hW.sub (fun _ h => by cases h))) (fun _ => by simp only [List.setIfInBounds_toArray, List.set_cons_succ, List.set_cons_zero] <;> rfl) ?_
        rintro _ _ ⟨rfl, rfl⟩
        refine lm (v := .tuple #[.slice none 0 0, .int .i64 ((p : Nat) : Int), .int .i64 42]) rfl rfl ?_
        refine lm (v := .slice none 0 0) rfl rfl ?_
        refine lm (v := .int .i64 ((p : Nat) : Int)) rfl rfl ?_
        refine lm (v := .int .i64 42) rfl rfl ?_
        refine lm (v := .slice none 0 0) rfl rfl ?_
        refine lm (v := .int .i64 ((p : Nat) : Int)) rfl rfl ?_
        refine lm (v := .int .i64 42) rfl rfl ?_
        refine wpL_done (fun W6 hW6 => ?_)
        refine (show Code.wp _ _ _ _ _ from ?_)
        refine wp_seq ?_
        refine wp_seq ?_
        refine wp_region_L (W0 := w) [] (hW6) ?_
        refine lm (v := .int .i64 42) rfl rfl ?_
        refine lm (v := .bool true) rfl rfl ?_
        refine lm (v := .bool true) rfl rfl ?_
        refine lm (v := .int .i64 42) rfl rfl ?_
        refine lm (v := .bool false) rfl rfl ?_
        refine lm (v := .bool false) rfl rfl ?_
        refine lm (v := .int .i64 ((p : Nat) : Int)) rfl rfl ?_
        refine lm (v := .int .i64 ((p : Nat) : Int)) rfl rfl ?_
        refine lp (v := .bool false) rfl rfl (run_bin rfl (vx := (.int .i64 ((p : Nat) : Int))) (vy := (.int .i64 ((p : Nat) : Int))) (by kernel_rfl) (by kernel_rfl) fun w => bn_neq (decide_eq_true rfl) w) ?_
        refine lm (v := .bool false) rfl rfl ?_
        refine lm (v := .bool false) rfl rfl ?_
        refine wpL_done (fun W7 hW7 => ?_)
        refine (show Code.wp _ _ _ _ _ from ?_)
        refine wp_cond_false rfl ?_
        refine wp_skip ?_
        refine (show Code.wp _ _ _ _ _ from ?_)
        refine wp_seq ?_
        refine wp_region_L (W0 := w) [] (hW7) ?_
        refine lm (v := .int .i64 ((p : Nat) : Int)) rfl rfl ?_
        refine lp (v := .int .i64 (((p + 1) : Nat) : Int)) rfl rfl (run_bin rfl (vx := (.int .i64 ((p : Nat) : Int))) (vy := (.int .i64 ((1 : Nat) : Int))) (by kernel_rfl) (by kernel_rfl) fun w => bn_add (z := (p + 1)) rfl (wr_i64 (by omega)) w) ?_
        refine lm (v := .int .i64 (((p + 1) : Nat) : Int)) rfl rfl ?_
        refine wpL_done (fun W8 hW8 => ?_)
        refine (show Code.wp _ _ _ _ _ from ?_)
        refine wp_seq ?_
        refine wp_seq ?_
        refine wp_region_L (W0 := w) [] (hW8) ?_
        refine lm (v := strV t) rfl rfl ?_
        refine lm (v := .int .i64 ((p : Nat) : Int)) rfl rfl ?_
        refine lp (v := .int .u8 ((x.toNat : Nat) : Int)) rfl rfl (run_idxS (j := .i64) (l := t) (k := p) (b := x) rfl Try.underlying9 (by kernel_rfl) (by kernel_rfl) hx) ?_
        refine lp (v := .bool false) rfl rfl (run_bin rfl (vx := (.int .u8 ((x.toNat : Nat) : Int))) (vy := (.int .u8 ((63 : Nat) : Int))) (by kernel_rfl) (by kernel_rfl) fun w => bn_eql (decide_eq_false h63) w) ?_
        refine wpL_done (fun W9 hW9 => ?_)
        refine (show Code.wp _ _ _ _ _ from ?_)
        refine wp_cond_false rfl ?_
        refine wp_skip ?_
        refine (show Code.wp _ _ _ _ _ from ?_)
        refine wp_seq ?_
        refine wp_seq ?_
        refine wp_region_L (W0 := w) [] (hW9) ?_
        refine lm (v := .int .i64 ((er : Nat) : Int)) rfl rfl ?_
        refine lp (v := .bool (decide (er = 41))) rfl rfl (run_bin rfl (vx := (.int .i64 ((er : Nat) : Int))) (vy := (.int .i64 ((41 : Nat) : Int))) (by kernel_rfl) (by kernel_rfl) fun w => bn_eql rfl w) ?_
        refine lm (v := .bool (decide (er = 41))) rfl rfl ?_
        cases hd1 : (decide (er = 41)) with
        | false =>
          have h1 : ¬ (er = 41) := of_decide_eq_false hd1
          clear hd1
          refine ln rfl ?_
          refine ln rfl ?_
          refine ln rfl ?_
          refine ln rfl ?_
          refine lm (v := .bool false) rfl rfl ?_
          refine wpL_done (fun W10 hW10 => ?_)
          refine (show Code.wp _ _ _ _ _ from ?_)
          refine wp_cond_false rfl ?_
          refine wp_skip ?_
          refine (show Code.wp _ _ _ _ _ from ?_)
          refine wp_seq ?_
          refine wp_region_L (W0 := w) [] (hW10) ?_
          refine lm (v := strV t) rfl rfl ?_
          refine lm (v := .int .i64 (((p + 1) : Nat) : Int)) rfl rfl ?_
          refine lp (v := strV (t.take (p + 1))) rfl rfl (run_slH (k2 := .i64) (l := t) (r := (t.take (p + 1))) (j := (p + 1)) rfl Try.underlying9 (by kernel_rfl) (by kernel_rfl) (by omega) rfl) ?_
          refine lm (v := strV o) rfl rfl ?_
          refine lp (v := strV ((t.take (p + 1)) ++ o)) rfl rfl (run_bin rfl (vx := strV (t.take (p + 1))) (vy := strV o) (by kernel_rfl) (by kernel_rfl) fun w => bs_add (c := ((t.take (p + 1)) ++ o)) rfl (by first | omega | (simp; omega)) w) ?_
          refine wpL_c (f := 15) (args := #[strV ((t.take (p + 1)) ++ o)]) (fun v Tz => v = .tuple #[.slice none 0 0, .int .i64 ((p : Nat) : Int), .int .i64 ((er : Nat) : Int)] ∧ Tz = []) rfl (by kernel_rfl) (fun _ => (by kernel_rfl)) (fun W hW => Read_bad h3 (by first | omega | (simp only [List.length_append, List.length_cons, List.length_nil]; omega)) W (hW.sub (fun _ h => by cases h))) (fun _ => by simp only [List.setIfInBounds_toArray, List.set_cons_succ, List.set_cons_zero] <;> rfl) ?_
          rintro _ _ ⟨rfl, rfl⟩
          refine lm (v := .tuple #[.slice none 0 0, .int .i64 ((p : Nat) : Int), .int .i64 ((er : Nat) : Int)]) rfl rfl ?_
          refine lm (v := .slice none 0 0) rfl rfl ?_
          refine lm (v := .int .i64 ((p : Nat) : Int)) rfl rfl ?_
          refine lm (v := .int .i64 ((er : Nat) : Int)) rfl rfl ?_
          refine lm (v := .int .i64 ((p : Nat) : Int)) rfl rfl ?_
          refine lm (v := .int .i64 ((er : Nat) : Int)) rfl rfl ?_
          refine wpL_done (fun W11 hW11 => ?_)
          refine (show Code.wp _ _ _ _ _ from ?_)
          refine wp_seq ?_
          refine wp_region_L (W0 := w) [] (hW11) ?_
          refine lm (v := .int .i64 ((er : Nat) : Int)) rfl rfl ?_
          refine lm (v := .int .i64 ((er : Nat) : Int)) rfl rfl ?_
          refine lp (v := .bool true) rfl rfl (run_bin rfl (vx := (.int .i64 ((er : Nat) : Int))) (vy := (.int .i64 ((er : Nat) : Int))) (by kernel_rfl) (by kernel_rfl) fun w => bn_eql (decide_eq_true rfl) w) ?_
          refine lm (v := .bool true) rfl rfl ?_
          refine lm (v := .int .i64 ((p : Nat) : Int)) rfl rfl ?_
          refine lm (v := .int .i64 ((p : Nat) : Int)) rfl rfl ?_
          refine lp (v := .bool true) rfl rfl (run_bin rfl (vx := (.int .i64 ((p : Nat) : Int))) (vy := (.int .i64 ((p : Nat) : Int))) (by kernel_rfl) (by kernel_rfl) fun w => bn_eql (decide_eq_true rfl) w) ?_
          refine lm (v := .bool true) rfl rfl ?_
          refine lm (v := .bool true) rfl rfl ?_
          refine wpL_done (fun W12 hW12 => ?_)
          refine (show Code.wp _ _ _ _ _ from ?_)
          refine wp_ret ?_
          try simp only [inBlock_ret, then_ret]
          refine bodyPost_ret (v := .bool true) ?_ rfl ?_
          · kernel_rfl
          · exact ⟨rfl, (hW12).1⟩
        | true =>
          have h1 : er = 41 := of_decide_eq_true hd1
          clear hd1
          refine lm (v := .int .i64 (((p + 1) : Nat) : Int)) rfl rfl ?_
          refine lm (v := .int .i64 ((p : Nat) : Int)) rfl rfl ?_
          refine lp (v := .int .i64 (((p + 1) : Nat) : Int)) rfl rfl (run_bin rfl (vx := (.int .i64 ((p : Nat) : Int))) (vy := (.int .i64 ((1 : Nat) : Int))) (by kernel_rfl) (by kernel_rfl) fun w => bn_add (z := (p + 1)) rfl (wr_i64 (by omega)) w) ?_
          refine lp (v := .bool true) rfl rfl (run_bin rfl (vx := (.int .i64 (((p + 1) : Nat) : Int))) (vy := (.int .i64 (((p + 1) : Nat) : Int))) (by kernel_rfl) (by kernel_rfl) fun w => bn_eql (decide_eq_true rfl) w) ?_
          refine lm (v := .bool true) rfl rfl ?_
          refine wpL_done (fun W13 hW13 => ?_)
          refine (show Code.wp _ _ _ _ _ from ?_)
          refine wp_cond_true rfl ?_
          refine wp_seq ?_
          refine wp_region_L (W0 := w) [] (hW13) ?_
          refine lm (v := .bool true) rfl rfl ?_
          refine wpL_done (fun W14 hW14 => ?_)
          refine (show Code.wp _ _ _ _ _ from ?_)
          refine wp_ret ?_
          try simp only [inBlock_ret, then_ret]
          refine bodyPost_ret (v := .bool true) ?_ rfl ?_
          · kernel_rfl
          · exact ⟨rfl, (hW14).1⟩
end Go.Proofs.Ytppegdbelgobiaa
namespace Go.Proofs.Ytppegdbelgobiaa
open Go Go.RowKit Tw
set_option maxRecDepth 100000 in
set_option maxHeartbeats 4000000 in
theorem LexParts_law (w : World) (a b : List UInt8) : Calls Try.prog 7 #[strV a, strV b] w fun e w' => e = .returned (.bool true) ∧ Below w.heap.size w w' := by
  by_cases hl : 2000 < a.length
  · skip
    go_enter Try.func7, Try.ntmps7
    refine wp_seq ?_
    refine wp_region_L (W0 := w) [] (KS.start w) ?_
    refine lm (v := .bool false) rfl rfl ?_
    refine wpL_done (fun W1 hW1 => ?_)
    refine (show Code.wp _ _ _ _ _ from ?_)
    refine wp_seq ?_
    refine wp_seq ?_
    refine wp_region_L (W0 := w) [] (hW1) ?_
    refine lv (v := .bool true) rfl rfl (yb_call (f := 10) (args := #[]) (fun _ => by kernel_rfl) fun W hW => awake_any W) ?_
    refine lm (v := .bool false) rfl rfl ?_
    refine wpL_done (fun W2 hW2 => ?_)
    refine (show Code.wp _ _ _ _ _ from ?_)
    refine wp_cond_false rfl ?_
    refine wp_skip ?_
    refine (show Code.wp _ _ _ _ _ from ?_)
    refine wp_seq ?_
    refine wp_seq ?_
    refine wp_region_L (W0 := w) [] (hW2) ?_
    refine lm (v := strV a) rfl rfl ?_
    refine lp (v := .int .i64 ((a.length : Nat) : Int)) rfl rfl (run_lenS (l := a) rfl Try.underlying9 (by kernel_rfl)) ?_
    refine lp (v := .bool true) rfl rfl (run_bin rfl (vx := (.int .i64 ((a.length : Nat) : Int))) (vy := (.int .i64 ((2000 : Nat) : Int))) (by kernel_rfl) (by kernel_rfl) fun w => bn_gtr (decide_eq_true hl) w) ?_
    refine lm (v := .bool true) rfl rfl ?_
    refine ln rfl ?_
    refine ln rfl ?_
    refine ln rfl ?_
    refine lm (v := .bool true) rfl rfl ?_
    refine wpL_done (fun W3 hW3 => ?_)
    refine (show Code.wp _ _ _ _ _ from ?_)
    refine wp_cond_true rfl ?_
    refine wp_seq ?_
    refine wp_region_L (W0 := w) [] (hW3) ?_
    refine lm (v := .bool true) rfl rfl ?_
    refine wpL_done (fun W4 hW4 => ?_)
    refine (show Code.wp _ _ _ _ _ from ?_)
    refine wp_ret ?_
    try simp only [inBlock_ret, then_ret]
    refine bodyPost_ret (v := .bool true) ?_ rfl ?_
    · kernel_rfl
    · exact ⟨rfl, (hW4).1⟩
  by_cases hl2 : 2000 < b.length
  · skip
    go_enter Try.func7, Try.ntmps7
    refine wp_seq ?_
    refine wp_region_L (W0 := w) [] (KS.start w) ?_
    refine lm (v := .bool false) rfl rfl ?_
    refine wpL_done (fun W1 hW1 => ?_)
    refine (show Code.wp _ _ _ _ _ from ?_)
    refine wp_seq ?_
    refine wp_seq ?_
    refine wp_region_L (W0 := w) [] (hW1) ?_
    refine lv (v := .bool true) rfl rfl (yb_call (f := 10) (args := #[]) (fun _ => by kernel_rfl) fun W hW => awake_any W) ?_
    refine lm (v := .bool false) rfl rfl ?_
    refine wpL_done (fun W2 hW2 => ?_)
    refine (show Code.wp _ _ _ _ _ from ?_)
    refine wp_cond_false rfl ?_
    refine wp_skip ?_
    refine (show Code.wp _ _ _ _ _ from ?_)
    refine wp_seq ?_
    refine wp_seq ?_
    refine wp_region_L (W0 := w) [] (hW2) ?_
    refine lm (v := strV a) rfl rfl ?_
    refine lp (v := .int .i64 ((a.length : Nat) : Int)) rfl rfl (run_lenS (l := a) rfl Try.underlying9 (by kernel_rfl)) ?_
    refine lp (v := .bool false) rfl rfl (run_bin rfl (vx := (.int .i64 ((a.length : Nat) : Int))) (vy := (.int .i64 ((2000 : Nat) : Int))) (by kernel_rfl) (by kernel_rfl) fun w => bn_gtr (decide_eq_false hl) w) ?_
    refine lm (v := .bool false) rfl rfl ?_
    refine lm (v := strV b) rfl rfl ?_
    refine lp (v := .int .i64 ((b.length : Nat) : Int)) rfl rfl (run_lenS (l := b) rfl Try.underlying9 (by kernel_rfl)) ?_
    refine lp (v := .bool true) rfl rfl (run_bin rfl (vx := (.int .i64 ((b.length : Nat) : Int))) (vy := (.int .i64 ((2000 : Nat) : Int))) (by kernel_rfl) (by kernel_rfl) fun w => bn_gtr (decide_eq_true hl2) w) ?_
    refine lm (v := .bool true) rfl rfl ?_
    refine wpL_done (fun W3 hW3 => ?_)
    refine (show Code.wp _ _ _ _ _ from ?_)
    refine wp_cond_true rfl ?_
    refine wp_seq ?_
    refine wp_region_L (W0 := w) [] (hW3) ?_
    refine lm (v := .bool true) rfl rfl ?_
    refine wpL_done (fun W4 hW4 => ?_)
    refine (show Code.wp _ _ _ _ _ from ?_)
    refine wp_ret ?_
    try simp only [inBlock_ret, then_ret]
    refine bodyPost_ret (v := .bool true) ?_ rfl ?_
    · kernel_rfl
    · exact ⟨rfl, (hW4).1⟩
  cases hr : readT a with
  | bad p er =>
    have hp := read_where hr (by omega)
    have hne : ¬ er = 0 := bad_ne hr
    go_enter Try.func7, Try.ntmps7
    refine wp_seq ?_
    refine wp_region_L (W0 := w) [] (KS.start w) ?_
    refine lm (v := .bool false) rfl rfl ?_
    refine wpL_done (fun W1 hW1 => ?_)
    refine (show Code.wp _ _ _ _ _ from ?_)
    refine wp_seq ?_
    refine wp_seq ?_
    refine wp_region_L (W0 := w) [] (hW1) ?_
    refine lv (v := .bool true) rfl rfl (yb_call (f := 10) (args := #[]) (fun _ => by kernel_rfl) fun W hW => awake_any W) ?_
    refine lm (v := .bool false) rfl rfl ?_
    refine wpL_done (fun W2 hW2 => ?_)
    refine (show Code.wp _ _ _ _ _ from ?_)
    refine wp_cond_false rfl ?_
    refine wp_skip ?_
    refine (show Code.wp _ _ _ _ _ from ?_)
    refine wp_seq ?_
    refine wp_seq ?_
    refine wp_region_L (W0 := w) [] (hW2) ?_
    refine lm (v := strV a) rfl rfl ?_
    refine lp (v := .int .i64 ((a.length : Nat) : Int)) rfl rfl (run_lenS (l := a) rfl Try.underlying9 (by kernel_rfl)) ?_
    refine lp (v := .bool false) rfl rfl (run_bin rfl (vx := (.int .i64 ((a.length : Nat) : Int))) (vy := (.int .i64 ((2000 : Nat) : Int))) (by kernel_rfl) (by kernel_rfl) fun w => bn_gtr (decide_eq_false hl) w) ?_
    refine lm (v := .bool false) rfl rfl ?_
    refine lm (v := strV b) rfl rfl ?_
    refine lp (v := .int .i64 ((b.length : Nat) : Int)) rfl rfl (run_lenS (l := b) rfl Try.underlying9 (by kernel_rfl)) ?_
    refine lp (v := .bool false) rfl rfl (run_bin rfl (vx := (.int .i64 ((b.length : Nat) : Int))) (vy := (.int .i64 ((2000 : Nat) : Int))) (by kernel_rfl) (by kernel_rfl) fun w => bn_gtr (decide_eq_false hl2) w) ?_
    refine lm (v := .bool false) rfl rfl ?_
    refine wpL_done (fun W3 hW3 => ?_)
    refine (show Code.wp _ _ _ _ _ from ?_)
    refine wp_cond_false rfl ?_
    refine wp_skip ?_
    refine (show Code.wp _ _ _ _ _ from ?_)
    refine wp_seq ?_
    refine wp_region_L (W0 := w) [] (hW3) ?_
    refine lm (v := strV a) rfl rfl ?_
    refine wpL_c (f := 15) (args := #[strV a]) (fun v Tz => v = .tuple #[.slice none 0 0, .int .i64 ((p : Nat) : Int), .int .i64 ((er : Nat) : Int)] ∧ Tz = []) rfl (by kernel_rfl) (fun _ => (by kernel_rfl)) (fun W hW => Read_bad hr (by first | omega | (simp only [List.length_append, List.length_cons, List.length_nil]; omega)) W (hW.sub (fun _ h => by cases h))) (fun _ => by simp only [List.setIfInBounds_toArray, List.set_cons_succ, List.set_cons_zero] <;> rfl) ?_
    rintro _ _ ⟨rfl, rfl⟩
    refine lm (v := .tuple #[.slice none 0 0, .int .i64 ((p : Nat) : Int), .int .i64 ((er : Nat) : Int)]) rfl rfl ?_
    refine lm (v := .slice none 0 0) rfl rfl ?_
    refine lm (v := .int .i64 ((p : Nat) : Int)) rfl rfl ?_
    refine lm (v := .int .i64 ((er : Nat) : Int)) rfl rfl ?_
    refine lm (v := .slice none 0 0) rfl rfl ?_
    refine lm (v := .int .i64 ((p : Nat) : Int)) rfl rfl ?_
    refine lm (v := .int .i64 ((er : Nat) : Int)) rfl rfl ?_
    refine wpL_done (fun W4 hW4 => ?_)
    refine (show Code.wp _ _ _ _ _ from ?_)
    refine wp_seq ?_
    refine wp_seq ?_
    refine wp_region_L (W0 := w) [] (hW4) ?_
    refine lm (v := .int .i64 ((er : Nat) : Int)) rfl rfl ?_
    refine lp (v := .bool true) rfl rfl (run_bin rfl (vx := (.int .i64 ((er : Nat) : Int))) (vy := (.int .i64 ((0 : Nat) : Int))) (by kernel_rfl) (by kernel_rfl) fun w => bn_neq (decide_eq_false hne) w) ?_
    refine wpL_done (fun W5 hW5 => ?_)
    refine (show Code.wp _ _ _ _ _ from ?_)
    refine wp_cond_true rfl ?_
    refine wp_seq ?_
    refine wp_region_L (W0 := w) [] (hW5) ?_
    refine lm (v := .bool true) rfl rfl ?_
    refine wpL_done (fun W6 hW6 => ?_)
    refine (show Code.wp _ _ _ _ _ from ?_)
    refine wp_ret ?_
    try simp only [inBlock_ret, then_ret]
    refine bodyPost_ret (v := .bool true) ?_ rfl ?_
    · kernel_rfl
    · exact ⟨rfl, (hW6).1⟩
  | ok l =>
    have hab := read_parts hr (by omega : a.length + b.length < 5000)
    obtain ⟨hA, hn, _⟩ := read_right hr
    have hln := right_lens hA
    cases hb : readT b with
    | bad p er =>
      have hp := read_where hb (by omega)
      have hne : ¬ er = 0 := bad_ne hb
      have hab : readT (a ++ b) = .bad (a.length + p) er := by rw [hab, hb]; rfl
      go_enter Try.func7, Try.ntmps7
      refine wp_seq ?_
      refine wp_region_L (W0 := w) [] (KS.start w) ?_
      refine lm (v := .bool false) rfl rfl ?_
      refine wpL_done (fun W1 hW1 => ?_)
      refine (show Code.wp _ _ _ _ _ from ?_)
      refine wp_seq ?_
      refine wp_seq ?_
      refine wp_region_L (W0 := w) [] (hW1) ?_
      refine lv (v := .bool true) rfl rfl (yb_call (f := 10) (args := #[]) (fun _ => by kernel_rfl) fun W hW => awake_any W) ?_
      refine lm (v := .bool false) rfl rfl ?_
      refine wpL_done (fun W2 hW2 => ?_)
      refine (show Code.wp _ _ _ _ _ from ?_)
      refine wp_cond_false rfl ?_
      refine wp_skip ?_
      refine (show Code.wp _ _ _ _ _ from ?_)
      refine wp_seq ?_
      refine wp_seq ?_
      refine wp_region_L (W0 := w) [] (hW2) ?_
      refine lm (v := strV a) rfl rfl ?_
      refine lp (v := .int .i64 ((a.length : Nat) : Int)) rfl rfl (run_lenS (l := a) rfl Try.underlying9 (by kernel_rfl)) ?_
      refine lp (v := .bool false) rfl rfl (run_bin rfl (vx := (.int .i64 ((a.length : Nat) : Int))) (vy := (.int .i64 ((2000 : Nat) : Int))) (by kernel_rfl) (by kernel_rfl) fun w => bn_gtr (decide_eq_false hl) w) ?_
      refine lm (v := .bool false) rfl rfl ?_
      refine lm (v := strV b) rfl rfl ?_
      refine lp (v := .int .i64 ((b.length : Nat) : Int)) rfl rfl (run_lenS (l := b) rfl Try.underlying9 (by kernel_rfl)) ?_
      refine lp (v := .bool false) rfl rfl (run_bin rfl (vx := (.int .i64 ((b.length : Nat) : Int))) (vy := (.int .i64 ((2000 : Nat) : Int))) (by kernel_rfl) (by kernel_rfl) fun w => bn_gtr (decide_eq_false hl2) w) ?_
      refine lm (v := .bool false) rfl rfl ?_
      refine wpL_done (fun W3 hW3 => ?_)
      refine (show Code.wp _ _ _ _ _ from ?_)
      refine wp_cond_false rfl ?_
      refine wp_skip ?_
      refine (show Code.wp _ _ _ _ _ from ?_)
      refine wp_seq ?_
      refine wp_region_L (W0 := w) [] (hW3) ?_
      refine lm (v := strV a) rfl rfl ?_
      refine wpL_c (f := 15) (args := #[strV a]) (RdK w l) rfl (by kernel_rfl) (fun _ => (by kernel_rfl)) (fun W hW => Read_ok hr (by first | omega | (simp only [List.length_append, List.length_cons, List.length_nil]; omega)) W (hW.sub (fun _ h => by cases h))) (fun _ => by simp only [List.setIfInBounds_toArray, List.set_cons_succ, List.set_cons_zero] <;> rfl) ?_
      rintro _ T1 ⟨p1, c1, rfl, M1⟩
      refine lm (v := .tuple #[.slice p1 l.length c1, .int .i64 0, .int .i64 0]) rfl rfl ?_
      refine lm (v := .slice p1 l.length c1) rfl rfl ?_
      refine lm (v := .int .i64 0) rfl rfl ?_
      refine lm (v := .int .i64 0) rfl rfl ?_
      refine lm (v := .slice p1 l.length c1) rfl rfl ?_
      refine lm (v := .int .i64 0) rfl rfl ?_
      refine lm (v := .int .i64 0) rfl rfl ?_
      refine wpL_done (fun W4 hW4 => ?_)
      have HB3 := Lib.hid ((lv_lvp ((sgo_sgr M1) W4 ((hW4).sub (fun p hp => by first | exact hp | (simp only [List.mem_cons, List.mem_append, List.nil_append, List.not_mem_nil, or_assoc, or_false, false_or, List.cons_append, List.append_assoc] at hp ⊢ <;> grind))))))
      have hbz2 : Below w.heap.size w W4 := (hW4).1
      refine (show Code.wp _ _ _ _ _ from ?_)
      refine wp_seq ?_
      refine wp_seq ?_
      refine wp_region_L (W0 := W4) [] (KS.start W4) ?_
      refine lm (v := .int .i64 0) rfl rfl ?_
      refine lm (v := .bool false) rfl rfl ?_
      refine wpL_done (fun W5 hW5 => ?_)
      refine (show Code.wp _ _ _ _ _ from ?_)
      refine wp_cond_false rfl ?_
      refine wp_skip ?_
      refine (show Code.wp _ _ _ _ _ from ?_)
      refine wp_seq ?_
      refine wp_region_L (W0 := W4) [] (hW5) ?_
      refine lm (v := strV b) rfl rfl ?_
      refine wpL_c (f := 15) (args := #[strV b]) (fun v Tz => v = .tuple #[.slice none 0 0, .int .i64 ((p : Nat) : Int), .int .i64 ((er : Nat) : Int)] ∧ Tz = []) rfl (by kernel_rfl) (fun _ => (by kernel_rfl)) (fun W hW => Read_bad hb (by first | omega | (simp only [List.length_append, List.length_cons, List.length_nil]; omega)) W (hW.sub (fun _ h => by cases h))) (fun _ => by simp only [List.setIfInBounds_toArray, List.set_cons_succ, List.set_cons_zero] <;> rfl) ?_
      rintro _ _ ⟨rfl, rfl⟩
      refine lm (v := .tuple #[.slice none 0 0, .int .i64 ((p : Nat) : Int), .int .i64 ((er : Nat) : Int)]) rfl rfl ?_
      refine lm (v := .slice none 0 0) rfl rfl ?_
      refine lm (v := .int .i64 ((p : Nat) : Int)) rfl rfl ?_
      refine lm (v := .int .i64 ((er : Nat) : Int)) rfl rfl ?_
      refine lm (v := .slice none 0 0) rfl rfl ?_
      refine lm (v := .int .i64 ((p : Nat) : Int)) rfl rfl ?_
      refine lm (v := .int .i64 ((er : Nat) : Int)) rfl rfl ?_
      refine wpL_done (fun W6 hW6 => ?_)
      refine (show Code.wp _ _ _ _ _ from ?_)
      refine wp_seq ?_
      refine wp_region_L (W0 := W4) [] (hW6) ?_
      refine lm (v := strV a) rfl rfl ?_
      refine lm (v := strV b) rfl rfl ?_
      refine lp (v := strV (a ++ b)) rfl rfl (run_bin rfl (vx := strV a) (vy := strV b) (by kernel_rfl) (by kernel_rfl) fun w => bs_add (c := (a ++ b)) rfl (by first | omega | (simp; omega)) w) ?_
      refine wpL_c (f := 15) (args := #[strV (a ++ b)]) (fun v Tz => v = .tuple #[.slice none 0 0, .int .i64 (((a.length + p) : Nat) : Int), .int .i64 ((er : Nat) : Int)] ∧ Tz = []) rfl (by kernel_rfl) (fun _ => (by kernel_rfl)) (fun W hW => Read_bad hab (by first | omega | (simp only [List.length_append, List.length_cons, List.length_nil]; omega)) W (hW.sub (fun _ h => by cases h))) (fun _ => by simp only [List.setIfInBounds_toArray, List.set_cons_succ, List.set_cons_zero] <;> rfl) ?_
      rintro _ _ ⟨rfl, rfl⟩
      refine lm (v := .tuple #[.slice none 0 0, .int .i64 (((a.length + p) : Nat) : Int), .int .i64 ((er : Nat) : Int)]) rfl rfl ?_
      refine lm (v := .slice none 0 0) rfl rfl ?_
      refine lm (v := .int .i64 (((a.length + p) : Nat) : Int)) rfl rfl ?_
      refine lm (v := .int .i64 ((er : Nat) : Int)) rfl rfl ?_
      refine lm (v := .slice none 0 0) rfl rfl ?_
      refine lm (v := .int .i64 (((a.length + p) : Nat) : Int)) rfl rfl ?_
      refine lm (v := .int .i64 ((er : Nat) : Int)) rfl rfl ?_
      refine wpL_done (fun W7 hW7 => ?_)
      refine (show Code.wp _ _ _ _ _ from ?_)
      refine wp_seq ?_
      refine wp_seq ?_
      refine wp_region_L (W0 := W4) [] (hW7) ?_
      refine lm (v := .int .i64 ((er : Nat) : Int)) rfl rfl ?_
      refine lp (v := .bool true) rfl rfl (run_bin rfl (vx := (.int .i64 ((er : Nat) : Int))) (vy := (.int .i64 ((0 : Nat) : Int))) (by kernel_rfl) (by kernel_rfl) fun w => bn_neq (decide_eq_false hne) w) ?_
      refine wpL_done (fun W8 hW8 => ?_)
      refine (show Code.wp _ _ _ _ _ from ?_)
      refine wp_cond_true rfl ?_
      refine wp_seq ?_
      refine wp_region_L (W0 := W4) [] (hW8) ?_
      refine lm (v := .int .i64 ((er : Nat) : Int)) rfl rfl ?_
      refine lm (v := .int .i64 ((er : Nat) : Int)) rfl rfl ?_
      refine lp (v := .bool true) rfl rfl (run_bin rfl (vx := (.int .i64 ((er : Nat) : Int))) (vy := (.int .i64 ((er : Nat) : Int))) (by kernel_rfl) (by kernel_rfl) fun w => bn_eql (decide_eq_true rfl) w) ?_
      refine lm (v := .bool true) rfl rfl ?_
      refine lm (v := .int .i64 (((a.length + p) : Nat) : Int)) rfl rfl ?_
      refine lm (v := strV a) rfl rfl ?_
      refine lp (v := .int .i64 ((a.length : Nat) : Int)) rfl rfl (run_lenS (l := a) rfl Try.underlying9 (by kernel_rfl)) ?_
      refine lm (v := .int .i64 ((p : Nat) : Int)) rfl rfl ?_
      refine lp (v := .int .i64 (((a.length + p) : Nat) : Int)) rfl rfl (run_bin rfl (vx := (.int .i64 ((a.length : Nat) : Int))) (vy := (.int .i64 ((p : Nat) : Int))) (by kernel_rfl) (by kernel_rfl) fun w => bn_add (z := (a.length + p)) rfl (wr_i64 (by omega)) w) ?_
      refine lp (v := .bool true) rfl rfl (run_bin rfl (vx := (.int .i64 (((a.length + p) : Nat) : Int))) (vy := (.int .i64 (((a.length + p) : Nat) : Int))) (by kernel_rfl) (by kernel_rfl) fun w => bn_eql (decide_eq_true rfl) w) ?_
      refine lm (v := .bool true) rfl rfl ?_
      refine lm (v := .bool true) rfl rfl ?_
      refine lm (v := .slice none 0 0) rfl rfl ?_
      refine lm (v := .int .i64 0) rfl rfl ?_
      refine lm (v := .bool true) rfl rfl ?_
      refine lm (v := .bool true) rfl rfl ?_
      refine lm (v := .bool true) rfl rfl ?_
      refine wpL_done (fun W9 hW9 => ?_)
      refine (show Code.wp _ _ _ _ _ from ?_)
      refine wp_ret ?_
      try simp only [inBlock_ret, then_ret]
      refine bodyPost_ret (v := .bool true) ?_ rfl ?_
      · kernel_rfl
      · exact ⟨rfl, (Below.trans hbz2 (Below.mono (hW9).1 hbz2.size))⟩
    | ok m =>
      have hab : readT (a ++ b) = .ok (l ++ m) := by rw [hab, hb]; rfl
      obtain ⟨hA2, hn2, _⟩ := read_right hab
      have hln2 := right_lens hA2
      have hlm : (l ++ m).length = l.length + m.length := List.length_append
      go_enter Try.func7, Try.ntmps7
      refine wp_seq ?_
      refine wp_region_L (W0 := w) [] (KS.start w) ?_
      refine lm (v := .bool false) rfl rfl ?_
      refine wpL_done (fun W1 hW1 => ?_)
      refine (show Code.wp _ _ _ _ _ from ?_)
      refine wp_seq ?_
      refine wp_seq ?_
      refine wp_region_L (W0 := w) [] (hW1) ?_
      refine lv (v := .bool true) rfl rfl (yb_call (f := 10) (args := #[]) (fun _ => by kernel_rfl) fun W hW => awake_any W) ?_
      refine lm (v := .bool false) rfl rfl ?_
      refine wpL_done (fun W2 hW2 => ?_)
      refine (show Code.wp _ _ _ _ _ from ?_)
      refine wp_cond_false rfl ?_
      refine wp_skip ?_
      refine (show Code.wp _ _ _ _ _ from ?_)
      refine wp_seq ?_
      refine wp_seq ?_
      refine wp_region_L (W0 := w) [] (hW2) ?_
      refine lm (v := strV a) rfl rfl ?_
      refine lp (v := .int .i64 ((a.length : Nat) : Int)) rfl rfl (run_lenS (l := a) rfl Try.underlying9 (by kernel_rfl)) ?_
      refine lp (v := .bool false) rfl rfl (run_bin rfl (vx := (.int .i64 ((a.length : Nat) : Int))) (vy := (.int .i64 ((2000 : Nat) : Int))) (by kernel_rfl) (by kernel_rfl) fun w => bn_gtr (decide_eq_false hl) w) ?_
      refine lm (v := .bool false) rfl rfl ?_
      refine lm (v := strV b) rfl rfl ?_
      refine lp (v := .int .i64 ((b.length : Nat) : Int)) rfl rfl (run_lenS (l := b) rfl Try.underlying9 (by kernel_rfl)) ?_
      refine lp (v := .bool false) rfl rfl (run_bin rfl (vx := (.int .i64 ((b.length : Nat) : Int))) (vy := (.int .i64 ((2000 : Nat) : Int))) (by kernel_rfl) (by kernel_rfl) fun w => bn_gtr (decide_eq_false hl2) w) ?_
      refine lm (v := .bool false) rfl rfl ?_
      refine wpL_done (fun W3 hW3 => ?_)
      refine (show Code.wp _ _ _ _ _ from ?_)
      refine wp_cond_false rfl ?_
      refine wp_skip ?_
      refine (show Code.wp _ _ _ _ _ from ?_)
      refine wp_seq ?_
      refine wp_region_L (W0 := w) [] (hW3) ?_
      refine lm (v := strV a) rfl rfl ?_
      refine wpL_c (f := 15) (args := #[strV a]) (RdK w l) rfl (by kernel_rfl) (fun _ => (by kernel_rfl)) (fun W hW => Read_ok hr (by first | omega | (simp only [List.length_append, List.length_cons, List.length_nil]; omega)) W (hW.sub (fun _ h => by cases h))) (fun _ => by simp only [List.setIfInBounds_toArray, List.set_cons_succ, List.set_cons_zero] <;> rfl) ?_
      rintro _ T1 ⟨p1, c1, rfl, M1⟩
      refine lm (v := .tuple #[.slice p1 l.length c1, .int .i64 0, .int .i64 0]) rfl rfl ?_
      refine lm (v := .slice p1 l.length c1) rfl rfl ?_
      refine lm (v := .int .i64 0) rfl rfl ?_
      refine lm (v := .int .i64 0) rfl rfl ?_
      refine lm (v := .slice p1 l.length c1) rfl rfl ?_
      refine lm (v := .int .i64 0) rfl rfl ?_
      refine lm (v := .int .i64 0) rfl rfl ?_
      refine wpL_done (fun W4 hW4 => ?_)
      have HB3 := Lib.hid ((lv_lvp ((sgo_sgr M1) W4 ((hW4).sub (fun p hp => by first | exact hp | (simp only [List.mem_cons, List.mem_append, List.nil_append, List.not_mem_nil, or_assoc, or_false, false_or, List.cons_append, List.append_assoc] at hp ⊢ <;> grind))))))
      have hbz2 : Below w.heap.size w W4 := (hW4).1
      refine (show Code.wp _ _ _ _ _ from ?_)
      refine wp_seq ?_
      refine wp_seq ?_
      refine wp_region_L (W0 := W4) [] (KS.start W4) ?_
      refine lm (v := .int .i64 0) rfl rfl ?_
      refine lm (v := .bool false) rfl rfl ?_
      refine wpL_done (fun W5 hW5 => ?_)
      refine (show Code.wp _ _ _ _ _ from ?_)
      refine wp_cond_false rfl ?_
      refine wp_skip ?_
      refine (show Code.wp _ _ _ _ _ from ?_)
      refine wp_seq ?_
      refine wp_region_L (W0 := W4) [] (hW5) ?_
      refine lm (v := strV b) rfl rfl ?_
      refine wpL_c (f := 15) (args := #[strV b]) (RdK W4 m) rfl (by kernel_rfl) (fun _ => (by kernel_rfl)) (fun W hW => Read_ok hb (by first | omega | (simp only [List.length_append, List.length_cons, List.length_nil]; omega)) W (hW.sub (fun _ h => by cases h))) (fun _ => by simp only [List.setIfInBounds_toArray, List.set_cons_succ, List.set_cons_zero] <;> rfl) ?_
      rintro _ T4 ⟨p4, c4, rfl, M4⟩
      refine lm (v := .tuple #[.slice p4 m.length c4, .int .i64 0, .int .i64 0]) rfl rfl ?_
      refine lm (v := .slice p4 m.length c4) rfl rfl ?_
      refine lm (v := .int .i64 0) rfl rfl ?_
      refine lm (v := .int .i64 0) rfl rfl ?_
      refine lm (v := .slice p4 m.length c4) rfl rfl ?_
      refine lm (v := .int .i64 0) rfl rfl ?_
      refine lm (v := .int .i64 0) rfl rfl ?_
      refine wpL_done (fun W6 hW6 => ?_)
      have HB6 := Lib.hid ((HB3.out.keep ElR.keeps (hW6).1))
      have HB7 := Lib.hid ((lv_lvp ((sgo_sgr M4) W6 ((hW6).sub (fun p hp => by first | exact hp | (simp only [List.mem_cons, List.mem_append, List.nil_append, List.not_mem_nil, or_assoc, or_false, false_or, List.cons_append, List.append_assoc] at hp ⊢ <;> grind))))))
      have hbz5 : Below w.heap.size w W6 := hbz2.trans ((hW6).1.mono hbz2.size)
      refine (show Code.wp _ _ _ _ _ from ?_)
      refine wp_seq ?_
      refine wp_region_L (W0 := W6) [] (KS.start W6) ?_
      refine lm (v := strV a) rfl rfl ?_
      refine lm (v := strV b) rfl rfl ?_
      refine lp (v := strV (a ++ b)) rfl rfl (run_bin rfl (vx := strV a) (vy := strV b) (by kernel_rfl) (by kernel_rfl) fun w => bs_add (c := (a ++ b)) rfl (by first | omega | (simp; omega)) w) ?_
      refine wpL_c (f := 15) (args := #[strV (a ++ b)]) (RdK W6 (l ++ m)) rfl (by kernel_rfl) (fun _ => (by kernel_rfl)) (fun W hW => Read_ok hab (by first | omega | (simp only [List.length_append, List.length_cons, List.length_nil]; omega)) W (hW.sub (fun _ h => by cases h))) (fun _ => by simp only [List.setIfInBounds_toArray, List.set_cons_succ, List.set_cons_zero] <;> rfl) ?_
      rintro _ T8 ⟨p8, c8, rfl, M8⟩
      refine lm (v := .tuple #[.slice p8 ((l ++ m).length) c8, .int .i64 0, .int .i64 0]) rfl rfl ?_
      refine lm (v := .slice p8 ((l ++ m).length) c8) rfl rfl ?_
      refine lm (v := .int .i64 0) rfl rfl ?_
      refine lm (v := .int .i64 0) rfl rfl ?_
      refine lm (v := .slice p8 ((l ++ m).length) c8) rfl rfl ?_
      refine lm (v := .int .i64 0) rfl rfl ?_
      refine lm (v := .int .i64 0) rfl rfl ?_
      refine wpL_done (fun W7 hW7 => ?_)
      have HB10 := Lib.hid ((HB6.out.keep ElR.keeps (hW7).1))
      have HB11 := Lib.hid ((HB7.out.keep ElR.keeps (hW7).1))
      have HB12 := Lib.hid ((lv_lvp ((sgo_sgr M8) W7 ((hW7).sub (fun p hp => by first | exact hp | (simp only [List.mem_cons, List.mem_append, List.nil_append, List.not_mem_nil, or_assoc, or_false, false_or, List.cons_append, List.append_assoc] at hp ⊢ <;> grind))))))
      have hbz9 : Below w.heap.size w W7 := hbz5.trans ((hW7).1.mono hbz5.size)
      refine (show Code.wp _ _ _ _ _ from ?_)
      refine wp_seq ?_
      refine wp_seq ?_
      refine wp_region_L (W0 := W7) [] (KS.start W7) ?_
      refine lm (v := .int .i64 0) rfl rfl ?_
      refine lm (v := .bool false) rfl rfl ?_
      refine wpL_done (fun W8 hW8 => ?_)
      refine (show Code.wp _ _ _ _ _ from ?_)
      refine wp_cond_false rfl ?_
      refine wp_skip ?_
      refine (show Code.wp _ _ _ _ _ from ?_)
      refine wp_seq ?_
      refine wp_region_L (W0 := W7) [] (hW8) ?_
      refine lm (v := .int .i64 0) rfl rfl ?_
      refine lm (v := .bool true) rfl rfl ?_
      refine lm (v := .bool true) rfl rfl ?_
      refine lm (v := .int .i64 0) rfl rfl ?_
      refine lm (v := .bool true) rfl rfl ?_
      refine lm (v := .bool true) rfl rfl ?_
      refine lm (v := .bool true) rfl rfl ?_
      refine lm (v := .slice p8 ((l ++ m).length) c8) rfl rfl ?_
      refine lm (v := .slice p1 l.length c1) rfl rfl ?_
      refine wpL_c (f := 19) (args := #[.slice p1 l.length c1]) (OwnS W7 l) rfl (by kernel_rfl) (fun _ => (by kernel_rfl)) (fun W hW => Own_any l p1 c1 (by omega) hln HB10.out W (hW.sub (fun _ h => by cases h))) (fun _ => by simp only [List.setIfInBounds_toArray, List.set_cons_succ, List.set_cons_zero] <;> rfl) ?_
      rintro v13 _ ⟨xo13, To13, Ko13, rfl, Oo13, Eo13, Do13⟩
      refine lm (v := .slice p4 m.length c4) rfl rfl ?_
      obtain ⟨vs14, hs14, hl14, he14⟩ := mke_read ElR.keeps HB11.out
      have on14 := one_lv (fun W v y h => lv_shape W v y h) he14
      refine wpL_g (AppO W7 37 1 To13 (l.length + m.length) (xo13 ++ vs14)) rfl rfl (app_src el_seg (m := m.length) (c := c4) (news := vs14) rfl (by kernel_rfl) (by kernel_rfl) hs14 Oo13 (fun p hp => by simp only [List.mem_cons, List.mem_append, List.nil_append, List.not_mem_nil, or_assoc, or_false, false_or, hp, or_true, true_or]) (fun p hp => ⟨by simp only [List.mem_cons, List.mem_append, List.nil_append, List.not_mem_nil, or_assoc, or_false, false_or] at hp ⊢ <;> grind, (show Dj To13 Ko13 from (by (try simp only [dj_app_l, dj_app_r, dj_cons_l, dj_cons_r, dj_nil_l, dj_nil_r, dk_app, dk_cons, dk_nil, and_true, true_and, and_assoc]); repeat' (first | trivial | assumption | exact Dj.symm (by assumption) | exact Ne.symm (by assumption) | apply And.intro))) p hp⟩) (by rw [hl14, Nat.mul_one]) on14 (by omega) (by omega) (by omega)) (fun _ => by simp only [List.setIfInBounds_toArray, List.set_cons_succ, List.set_cons_zero] <;> rfl) ?_
      rintro v14 K9 ⟨Kl14, O14, N14, rfl⟩
      obtain ⟨p14, c14, e14⟩ := own_shape O14
      rw [← hlm] at e14
      subst e14
      refine lv (v := .bool true) rfl rfl (yb_call (f := 16) (args := #[.slice p8 ((l ++ m).length) c8, .slice p14 ((l ++ m).length) c14]) (fun _ => by kernel_rfl) fun W hW => (by have z := same_any (l ++ m) (l ++ m) p8 p14 c8 c14 (by omega) hln2 W (HB12.out.keep ElR.keeps hW.1) (lv_lvp ((MkE.mk O14 (MkE.app Eo13 he14) (by simp)) W (hW.sub (fun p hp => by first | exact hp | (simp only [List.mem_cons, List.mem_append, List.nil_append, List.not_mem_nil, or_assoc, or_false, false_or, List.cons_append, List.append_assoc] at hp ⊢ <;> grind))))); rw [decide_eq_true rfl] at z; exact z)) ?_
      refine lm (v := .bool true) rfl rfl ?_
      refine lm (v := .bool true) rfl rfl ?_
      refine wpL_done (fun W9 hW9 => ?_)
      refine (show Code.wp _ _ _ _ _ from ?_)
      refine wp_ret ?_
      try simp only [inBlock_ret, then_ret]
      refine bodyPost_ret (v := .bool true) ?_ rfl ?_
      · kernel_rfl
      · exact ⟨rfl, (Below.trans hbz9 (Below.mono (hW9).1 hbz9.size))⟩
end Go.Proofs.Ytppegdbelgobiaa
/- LexParts holds for every input: the program's own answer is true; each argument reads afterwards as it read before. -/
namespace Go.Proofs.Ytppegdbelgobiaa
open Go.ChangeShapes Go.WideShapes Go.ChangeAt Go.RowKit Tw
set_option maxRecDepth 100000 in
theorem lexParts_lifted (os : Os) (started : os.Started) (H : Type) (enc : TypeId × Value → H) :
    ReturnsInHanded {} Try.checked os 7 .any (Rows.lexPartsSpec.pre6 enc Try.prog Try.f7 Rows.lexPartsRow.domain false) (Rows.lexPartsSpec.post enc Try.prog Try.f7 false true false false) := by
  refine returnsInHanded_of_change (C := Try.checked) own started (by kernel_rfl) Try.func7
    (ChangeSpec.witness6 (enc := enc) (C := Try.checked) false ⟨#[], #[.string ByteArray.empty, .string ByteArray.empty], []⟩ 8 (by kernel_rfl) (by kernel_rfl) (by kernel_rfl) (by kernel_rfl)) ?_
  intro W base args ds gs before hval0 hW _ _
  have hval : ∀ (j : Nat) t v, Try.f7.params[j]? = some t → args[j]? = some v → Value.okWide Try.prog W .any base t v := hval0
  have hW2 := hW
  obtain ⟨p, q, hA0, hV, rfl, hfz, hnd⟩ := hW2
  have hA : DataW.TrodAll enc Try.prog W 0 (fun _ => true) true Try.f7.params.toList args.toList ds p := hA0
  rw [Try.params7] at hA hval
  obtain ⟨v0, vs0, d0, ds0, p0, q0, hargs, rfl, rfl, h0, r0⟩ := trodAll_cons hA
  obtain ⟨v1, vs1, d1, ds1, p1, q1, rfl, rfl, rfl, h1, r1⟩ := trodAll_cons r0
  obtain ⟨rfl, rfl, rfl⟩ := trodAll_nil r1
  obtain rfl : args = #[v0, v1] := by cases args; simp_all
  obtain ⟨rfl, rfl⟩ := trodVars_none hV
  obtain ⟨s0, rfl, rfl, rfl, w0⟩ := ChangeMaps.open_string Try.underlying9 (hval 0 9 v0 rfl rfl) h0
  obtain ⟨s1, rfl, rfl, rfl, w1⟩ := ChangeMaps.open_string Try.underlying9 (hval 1 9 v1 rfl rfl) h1
  clear hA0 hval0
  simp only [List.append_nil] at hW
  refine (LexParts_law W s0.data.toList s1.data.toList).mono fun e W' ⟨he, bel⟩ => ?_
  subst he
  exact ⟨_, rfl, _, _, _, [], [], [], hW, (trodAll_cons_mk (shut_bool Try.underlying4 _) trodAll_mk0), (trodAll_cons_mk (ChangeMaps.shut_string Try.underlying9 w0) (trodAll_cons_mk (ChangeMaps.shut_string Try.underlying9 w1) trodAll_mk0)), rfl, bel.frame _, fun h => by cases h⟩
theorem lexParts_proved : Rows.LexPartsSaid :=
  OpenClaim.holds_of_wide 7 Try.f7 rfl rfl rfl rfl rfl rfl rfl ⟨rfl, rfl, rfl, rfl, rfl⟩ rfl rfl rfl rfl rfl (by kernel_rfl) Try.func7 (by kernel_rfl)
    (of_decide_eq_true (by kernel_rfl)) (by unfold Func.isWrapper; first | (rw [if_pos (by decide +kernel)]; kernel_rfl) | (rw [if_neg (by decide +kernel)]; exact ⟨rfl, rfl⟩))
    (fun os started H enc _ => lexParts_lifted os started H enc)
#print axioms lexParts_proved
end Go.Proofs.Ytppegdbelgobiaa

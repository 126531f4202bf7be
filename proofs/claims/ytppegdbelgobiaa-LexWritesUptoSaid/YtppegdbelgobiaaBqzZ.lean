import Derived.Test.YtppegdbelgobiaaG04
import Derived.Test.YtppegdbelgobiaaG01
import Derived.Test.YtppegdbelgobiaaG00
import Derived.Deep.Strs
import Derived.JoinedCond
import Derived.Deep.Slices
/- LexWritesUpto: the law holds for every input; no condition but the row's own. -/
set_option linter.unusedVariables false
set_option linter.unusedSimpArgs false
set_option linter.unusedSectionVars false
namespace Go.Proofs.Ytppegdbelgobiaa
open Go Go.RowKit Tw
theorem last_q {t : List UInt8} {p e : Nat} {x : UInt8} (h : readT t = .bad p e) (hx : t[p]? = some x) (h63 : x.toNat = 63) (hl : t.length < p + 2) (hs : t.length ≤ 2000) : e = 41 := by
  have hp := (List.getElem?_eq_some_iff.1 hx).1
  unfold readT at h
  rw [if_neg (by omega)] at h
  match hr : runS 0 t ⟨[], .out⟩, h with
  | .bad p' e', h =>
    cases h
    obtain ⟨a, y, b, s1, rfl, h1, h2⟩ := run_split t 0 hr
    rw [Nat.zero_add] at h2
    have hc := run_count a 0 h1
    rw [List.length_append, List.length_cons] at hs hl
    obtain ⟨_, ⟨rfl, hn⟩ | ⟨es, cs, c, hm⟩⟩ := step_bad h2
    · have hy : y = x := by simpa using hx
      subst hy
      have hin : ∀ {segs : List Sgm} {es : List Elt} {cs : List Cmp} {c : Cmp}, inside a.length y segs es cs c ≠ .bad a.length e := by
        intro segs es cs c hb
        rw [ins_63 (r := 63) (n := 1) (.inl ⟨h63.symm, rfl, by omega⟩) rfl] at hb
        cases hb
      obtain ⟨segs, md⟩ := s1
      have hc : segs.length ≤ [].length + a.length := hc
      simp only [List.length_nil] at hc
      cases md with
      | out =>
        simp only [step] at h2
        split at h2
        · cases h2
        · split at h2
          · omega
          · exact absurd h2 hin
      | ins es cs c => exact absurd h2 hin
      | rel q es cs c => exact hn.elim
    · obtain ⟨segs, md⟩ := s1
      cases hm
      obtain ⟨a', z, s0, rfl, rfl, _⟩ := run_rel h1
      rw [List.length_append, List.length_singleton] at hl
      omega
  | .ok ⟨segs, .ins es cs c⟩, h => cases h; omega
  | .ok ⟨segs, .rel q es cs c⟩, h => cases h; rfl
theorem run_ne : ∀ (l : List UInt8) (i : Nat) {s : Sta} {p e : Nat}, runS i l s = .bad p e → e ≠ 0 := by
  intro l i s p e h
  obtain ⟨a, x, b, s1, _, _, h3⟩ := run_split l i h
  exact step_ne h3
theorem bad_ne {l : List UInt8} {p e : Nat} (h : readT l = .bad p e) : ¬ e = 0 := by
  unfold readT at h
  split at h
  · cases h; decide
  · match hr : runS 0 l ⟨[], .out⟩, h with
    | .bad p' e', h => cases h; exact run_ne _ _ hr
    | .ok ⟨segs, .ins es cs c⟩, h => cases h; decide
    | .ok ⟨segs, .rel q es cs c⟩, h => cases h; decide
set_option maxRecDepth 100000 in
set_option maxHeartbeats 4000000 in
theorem LexBegins_law (w : World) (t o : List UInt8) : Calls Try.prog 8 #[strV t, strV o] w fun e w' => e = .returned (.bool true) ∧ Below w.heap.size w w' := by
  by_cases hl : 2000 < t.length
  · skip
    go_enter Try.func8, Try.ntmps8
    refine wp_seq ?_
    refine wp_region_L (W0 := w) [] (KS.start w) ?_
    refine lm (v := .bool false) rfl rfl ?_
    refine wpL_done (fun W1 hW1 => ?_)
    refine (show Code.wp _ _ _ _ _ from ?_)
    refine wp_seq ?_
    refine wp_seq ?_
    refine wp_region_L (W0 := w) [] (hW1) ?_
    refine lv (v := .bool true) rfl rfl (yb_call (f := 10) (args := #[]) (fun _ => by kernel_rfl) fun W hW => awake_any W) ?_
    refine lm (v := .bool false) rfl rfl ?_
    refine wpL_done (fun W2 hW2 => ?_)
    refine (show Code.wp _ _ _ _ _ from ?_)
    refine wp_cond_false rfl ?_
    refine wp_skip ?_
    refine (show Code.wp _ _ _ _ _ from ?_)
    refine wp_seq ?_
    refine wp_seq ?_
    refine wp_region_L (W0 := w) [] (hW2) ?_
    refine lm (v := strV t) rfl rfl ?_
    refine lp (v := .int .i64 ((t.length : Nat) : Int)) rfl rfl (run_lenS (l := t) rfl Try.underlying9 (by kernel_rfl)) ?_
    refine lp (v := .bool true) rfl rfl (run_bin rfl (vx := (.int .i64 ((t.length : Nat) : Int))) (vy := (.int .i64 ((2000 : Nat) : Int))) (by kernel_rfl) (by kernel_rfl) fun w => bn_gtr (decide_eq_true hl) w) ?_
    refine lm (v := .bool true) rfl rfl ?_
    refine ln rfl ?_
    refine ln rfl ?_
    refine ln rfl ?_
    refine lm (v := .bool true) rfl rfl ?_
    refine wpL_done (fun W3 hW3 => ?_)
    refine (show Code.wp _ _ _ _ _ from ?_)
    refine wp_cond_true rfl ?_
    refine wp_seq ?_
    refine wp_region_L (W0 := w) [] (hW3) ?_
    refine lm (v := .bool true) rfl rfl ?_
    refine wpL_done (fun W4 hW4 => ?_)
    refine (show Code.wp _ _ _ _ _ from ?_)
    refine wp_ret ?_
    try simp only [inBlock_ret, then_ret]
    refine bodyPost_ret (v := .bool true) ?_ rfl ?_
    · kernel_rfl
    · exact ⟨rfl, (hW4).1⟩
  by_cases hl2 : 2000 < o.length
  · skip
    go_enter Try.func8, Try.ntmps8
    refine wp_seq ?_
    refine wp_region_L (W0 := w) [] (KS.start w) ?_
    refine lm (v := .bool false) rfl rfl ?_
    refine wpL_done (fun W1 hW1 => ?_)
    refine (show Code.wp _ _ _ _ _ from ?_)
    refine wp_seq ?_
    refine wp_seq ?_
    refine wp_region_L (W0 := w) [] (hW1) ?_
    refine lv (v := .bool true) rfl rfl (yb_call (f := 10) (args := #[]) (fun _ => by kernel_rfl) fun W hW => awake_any W) ?_
    refine lm (v := .bool false) rfl rfl ?_
    refine wpL_done (fun W2 hW2 => ?_)
    refine (show Code.wp _ _ _ _ _ from ?_)
    refine wp_cond_false rfl ?_
    refine wp_skip ?_
    refine (show Code.wp _ _ _ _ _ from ?_)
    refine wp_seq ?_
    refine wp_seq ?_
    refine wp_region_L (W0 := w) [] (hW2) ?_
    refine lm (v := strV t) rfl rfl ?_
    refine lp (v := .int .i64 ((t.length : Nat) : Int)) rfl rfl (run_lenS (l := t) rfl Try.underlying9 (by kernel_rfl)) ?_
    refine lp (v := .bool false) rfl rfl (run_bin rfl (vx := (.int .i64 ((t.length : Nat) : Int))) (vy := (.int .i64 ((2000 : Nat) : Int))) (by kernel_rfl) (by kernel_rfl) fun w => bn_gtr (decide_eq_false hl) w) ?_
    refine lm (v := .bool false) rfl rfl ?_
    refine lm (v := strV o) rfl rfl ?_
    refine lp (v := .int .i64 ((o.length : Nat) : Int)) rfl rfl (run_lenS (l := o) rfl Try.underlying9 (by kernel_rfl)) ?_
    refine lp (v := .bool true) rfl rfl (run_bin rfl (vx := (.int .i64 ((o.length : Nat) : Int))) (vy := (.int .i64 ((2000 : Nat) : Int))) (by kernel_rfl) (by kernel_rfl) fun w => bn_gtr (decide_eq_true hl2) w) ?_
    refine lm (v := .bool true) rfl rfl ?_
    refine wpL_done (fun W3 hW3 => ?_)
    refine (show Code.wp _ _ _ _ _ from ?_)
    refine wp_cond_true rfl ?_
    refine wp_seq ?_
    refine wp_region_L (W0 := w) [] (hW3) ?_
    refine lm (v := .bool true) rfl rfl ?_
    refine wpL_done (fun W4 hW4 => ?_)
    refine (show Code.wp _ _ _ _ _ from ?_)
    refine wp_ret ?_
    try simp only [inBlock_ret, then_ret]
    refine bodyPost_ret (v := .bool true) ?_ rfl ?_
    · kernel_rfl
    · exact ⟨rfl, (hW4).1⟩
  cases hr : readT t with
  | ok A0 =>
    go_enter Try.func8, Try.ntmps8
    refine wp_seq ?_
    refine wp_region_L (W0 := w) [] (KS.start w) ?_
    refine lm (v := .bool false) rfl rfl ?_
    refine wpL_done (fun W1 hW1 => ?_)
    refine (show Code.wp _ _ _ _ _ from ?_)
    refine wp_seq ?_
    refine wp_seq ?_
    refine wp_region_L (W0 := w) [] (hW1) ?_
    refine lv (v := .bool true) rfl rfl (yb_call (f := 10) (args := #[]) (fun _ => by kernel_rfl) fun W hW => awake_any W) ?_
    refine lm (v := .bool false) rfl rfl ?_
    refine wpL_done (fun W2 hW2 => ?_)
    refine (show Code.wp _ _ _ _ _ from ?_)
    refine wp_cond_false rfl ?_
    refine wp_skip ?_
    refine (show Code.wp _ _ _ _ _ from ?_)
    refine wp_seq ?_
    refine wp_seq ?_
    refine wp_region_L (W0 := w) [] (hW2) ?_
    refine lm (v := strV t) rfl rfl ?_
    refine lp (v := .int .i64 ((t.length : Nat) : Int)) rfl rfl (run_lenS (l := t) rfl Try.underlying9 (by kernel_rfl)) ?_
    refine lp (v := .bool false) rfl rfl (run_bin rfl (vx := (.int .i64 ((t.length : Nat) : Int))) (vy := (.int .i64 ((2000 : Nat) : Int))) (by kernel_rfl) (by kernel_rfl) fun w => bn_gtr (decide_eq_false hl) w) ?_
    refine lm (v := .bool false) rfl rfl ?_
    refine lm (v := strV o) rfl rfl ?_
    refine lp (v := .int .i64 ((o.length : Nat) : Int)) rfl rfl (run_lenS (l := o) rfl Try.underlying9 (by kernel_rfl)) ?_
    refine lp (v := .bool false) rfl rfl (run_bin rfl (vx := (.int .i64 ((o.length : Nat) : Int))) (vy := (.int .i64 ((2000 : Nat) : Int))) (by kernel_rfl) (by kernel_rfl) fun w => bn_gtr (decide_eq_false hl2) w) ?_
    refine lm (v := .bool false) rfl rfl ?_
    refine wpL_done (fun W3 hW3 => ?_)
    refine (show Code.wp _ _ _ _ _ from ?_)
    refine wp_cond_false rfl ?_
    refine wp_skip ?_
    refine (show Code.wp _ _ _ _ _ from ?_)
    refine wp_seq ?_
    refine wp_region_L (W0 := w) [] (hW3) ?_
    refine lm (v := strV t) rfl rfl ?_
    refine wpL_c (f := 15) (args := #[strV t]) (RdK w A0) rfl (by kernel_rfl) (fun _ => (by kernel_rfl)) (fun W hW => Read_ok hr (by first | omega | (simp only [List.length_append, List.length_cons, List.length_nil]; omega)) W (hW.sub (fun _ h => by cases h))) (fun _ => by simp only [List.setIfInBounds_toArray, List.set_cons_succ, List.set_cons_zero] <;> rfl) ?_
    rintro _ T1 ⟨p1, c1, rfl, M1⟩
    refine lm (v := .tuple #[.slice p1 A0.length c1, .int .i64 0, .int .i64 0]) rfl rfl ?_
    refine lm (v := .slice p1 A0.length c1) rfl rfl ?_
    refine lm (v := .int .i64 0) rfl rfl ?_
    refine lm (v := .int .i64 0) rfl rfl ?_
    refine lm (v := .slice p1 A0.length c1) rfl rfl ?_
    refine lm (v := .int .i64 0) rfl rfl ?_
    refine lm (v := .int .i64 0) rfl rfl ?_
    refine wpL_done (fun W4 hW4 => ?_)
    have HB3 := Lib.hid ((lv_lvp ((sgo_sgr M1) W4 ((hW4).sub (fun p hp => by first | exact hp | (simp only [List.mem_cons, List.mem_append, List.nil_append, List.not_mem_nil, or_assoc, or_false, false_or, List.cons_append, List.append_assoc] at hp ⊢ <;> grind))))))
    have hbz2 : Below w.heap.size w W4 := (hW4).1
    refine (show Code.wp _ _ _ _ _ from ?_)
    refine wp_seq ?_
    refine wp_seq ?_
    refine wp_region_L (W0 := W4) [] (KS.start W4) ?_
    refine lm (v := .int .i64 0) rfl rfl ?_
    refine lm (v := .bool true) rfl rfl ?_
    refine lm (v := .bool true) rfl rfl ?_
    refine ln rfl ?_
    refine ln rfl ?_
    refine lm (v := .bool true) rfl rfl ?_
    refine wpL_done (fun W5 hW5 => ?_)
    refine (show Code.wp _ _ _ _ _ from ?_)
    refine wp_cond_true rfl ?_
    refine wp_seq ?_
    refine wp_region_L (W0 := W4) [] (hW5) ?_
    refine lm (v := .bool true) rfl rfl ?_
    refine wpL_done (fun W6 hW6 => ?_)
    refine (show Code.wp _ _ _ _ _ from ?_)
    refine wp_ret ?_
    try simp only [inBlock_ret, then_ret]
    refine bodyPost_ret (v := .bool true) ?_ rfl ?_
    · kernel_rfl
    · exact ⟨rfl, (Below.trans hbz2 (Below.mono (hW6).1 hbz2.size))⟩
  | bad p er =>
    have hp := read_where hr (by omega)
    have hne : ¬ er = 0 := bad_ne hr
    by_cases h42 : er = 42
    · skip
      go_enter Try.func8, Try.ntmps8
      refine wp_seq ?_
      refine wp_region_L (W0 := w) [] (KS.start w) ?_
      refine lm (v := .bool false) rfl rfl ?_
      refine wpL_done (fun W1 hW1 => ?_)
      refine (show Code.wp _ _ _ _ _ from ?_)
      refine wp_seq ?_
      refine wp_seq ?_
      refine wp_region_L (W0 := w) [] (hW1) ?_
      refine lv (v := .bool true) rfl rfl (yb_call (f := 10) (args := #[]) (fun _ => by kernel_rfl) fun W hW => awake_any W) ?_
      refine lm (v := .bool false) rfl rfl ?_
      refine wpL_done (fun W2 hW2 => ?_)
      refine (show Code.wp _ _ _ _ _ from ?_)
      refine wp_cond_false rfl ?_
      refine wp_skip ?_
      refine (show Code.wp _ _ _ _ _ from ?_)
      refine wp_seq ?_
      refine wp_seq ?_
      refine wp_region_L (W0 := w) [] (hW2) ?_
      refine lm (v := strV t) rfl rfl ?_
      refine lp (v := .int .i64 ((t.length : Nat) : Int)) rfl rfl (run_lenS (l := t) rfl Try.underlying9 (by kernel_rfl)) ?_
      refine lp (v := .bool false) rfl rfl (run_bin rfl (vx := (.int .i64 ((t.length : Nat) : Int))) (vy := (.int .i64 ((2000 : Nat) : Int))) (by kernel_rfl) (by kernel_rfl) fun w => bn_gtr (decide_eq_false hl) w) ?_
      refine lm (v := .bool false) rfl rfl ?_
      refine lm (v := strV o) rfl rfl ?_
      refine lp (v := .int .i64 ((o.length : Nat) : Int)) rfl rfl (run_lenS (l := o) rfl Try.underlying9 (by kernel_rfl)) ?_
      refine lp (v := .bool false) rfl rfl (run_bin rfl (vx := (.int .i64 ((o.length : Nat) : Int))) (vy := (.int .i64 ((2000 : Nat) : Int))) (by kernel_rfl) (by kernel_rfl) fun w => bn_gtr (decide_eq_false hl2) w) ?_
      refine lm (v := .bool false) rfl rfl ?_
      refine wpL_done (fun W3 hW3 => ?_)
      refine (show Code.wp _ _ _ _ _ from ?_)
      refine wp_cond_false rfl ?_
      refine wp_skip ?_
      refine (show Code.wp _ _ _ _ _ from ?_)
      refine wp_seq ?_
      refine wp_region_L (W0 := w) [] (hW3) ?_
      refine lm (v := strV t) rfl rfl ?_
      refine wpL_c (f := 15) (args := #[strV t]) (fun v Tz => v = .tuple #[.slice none 0 0, .int .i64 ((p : Nat) : Int), .int .i64 ((er : Nat) : Int)] ∧ Tz = []) rfl (by kernel_rfl) (fun _ => (by kernel_rfl)) (fun W hW => Read_bad hr (by first | omega | (simp only [List.length_append, List.length_cons, List.length_nil]; omega)) W (hW.sub (fun _ h => by cases h))) (fun _ => by simp only [List.setIfInBounds_toArray, List.set_cons_succ, List.set_cons_zero] <;> rfl) ?_
      rintro _ _ ⟨rfl, rfl⟩
      refine lm (v := .tuple #[.slice none 0 0, .int .i64 ((p : Nat) : Int), .int .i64 ((er : Nat) : Int)]) rfl rfl ?_
      refine lm (v := .slice none 0 0) rfl rfl ?_
      refine lm (v := .int .i64 ((p : Nat) : Int)) rfl rfl ?_
      refine lm (v := .int .i64 ((er : Nat) : Int)) rfl rfl ?_
      refine lm (v := .slice none 0 0) rfl rfl ?_
      refine lm (v := .int .i64 ((p : Nat) : Int)) rfl rfl ?_
      refine lm (v := .int .i64 ((er : Nat) : Int)) rfl rfl ?_
      refine wpL_done (fun W4 hW4 => ?_)
      refine (show Code.wp _ _ _ _ _ from ?_)
      refine wp_seq ?_
      refine wp_seq ?_
      refine wp_region_L (W0 := w) [] (hW4) ?_
      refine lm (v := .int .i64 ((er : Nat) : Int)) rfl rfl ?_
      refine lp (v := .bool false) rfl rfl (run_bin rfl (vx := (.int .i64 ((er : Nat) : Int))) (vy := (.int .i64 ((0 : Nat) : Int))) (by kernel_rfl) (by kernel_rfl) fun w => bn_eql (decide_eq_false hne) w) ?_
      refine lm (v := .bool false) rfl rfl ?_
      refine lm (v := .int .i64 ((er : Nat) : Int)) rfl rfl ?_
      refine lp (v := .bool true) rfl rfl (run_bin rfl (vx := (.int .i64 ((er : Nat) : Int))) (vy := (.int .i64 ((42 : Nat) : Int))) (by kernel_rfl) (by kernel_rfl) fun w => bn_eql (decide_eq_true h42) w) ?_
      refine lm (v := .bool true) rfl rfl ?_
      refine wpL_done (fun W5 hW5 => ?_)
      refine (show Code.wp _ _ _ _ _ from ?_)
      refine wp_cond_true rfl ?_
      refine wp_seq ?_
      refine wp_region_L (W0 := w) [] (hW5) ?_
      refine lm (v := .bool true) rfl rfl ?_
      refine wpL_done (fun W6 hW6 => ?_)
      refine (show Code.wp _ _ _ _ _ from ?_)
      refine wp_ret ?_
      try simp only [inBlock_ret, then_ret]
      refine bodyPost_ret (v := .bool true) ?_ rfl ?_
      · kernel_rfl
      · exact ⟨rfl, (hW6).1⟩
    obtain ⟨x, hx, h1, h2⟩ := read_first hr (by omega) h42
    have hpl := (List.getElem?_eq_some_iff.1 hx).1
    have h1 : ∃ A1, readT (t.take p) = .ok A1 ∨ readT (t.take p) = .bad p 42 := by
      rcases h1 with ⟨A1, h⟩ | h
      · exact ⟨A1, .inl h⟩
      · exact ⟨[], .inr h⟩
    obtain ⟨A1, h1⟩ := h1
    have ltp : (t.take p).length = p := by rw [List.length_take]; omega
    have lt2 : (t.take (p + 2)).length ≤ t.length := by rw [List.length_take]; omega
    have lt1 : (t.take (p + 1)).length ≤ t.length := by rw [List.length_take]; omega
    rcases h1 with h1 | h1
    · skip
      by_cases h63 : x.toNat = 63
      · rcases h2 with ⟨_, he, hend⟩ | h2
        · skip
          go_enter Try.func8, Try.ntmps8
          refine wp_seq ?_
          refine wp_region_L (W0 := w) [] (KS.start w) ?_
          refine lm (v := .bool false) rfl rfl ?_
          refine wpL_done (fun W1 hW1 => ?_)
          refine (show Code.wp _ _ _ _ _ from ?_)
          refine wp_seq ?_
          refine wp_seq ?_
          refine wp_region_L (W0 := w) [] (hW1) ?_
          refine lv (v := .bool true) rfl rfl (yb_call (f := 10) (args := #[]) (fun _ => by kernel_rfl) fun W hW => awake_any W) ?_
          refine lm (v := .bool false) rfl rfl ?_
          refine wpL_done (fun W2 hW2 => ?_)
          refine (show Code.wp _ _ _ _ _ from ?_)
          refine wp_cond_false rfl ?_
          refine wp_skip ?_
          refine (show Code.wp _ _ _ _ _ from ?_)
          refine wp_seq ?_
          refine wp_seq ?_
          refine wp_region_L (W0 := w) [] (hW2) ?_
          refine lm (v := strV t) rfl rfl ?_
          refine lp (v := .int .i64 ((t.length : Nat) : Int)) rfl rfl (run_lenS (l := t) rfl Try.underlying9 (by kernel_rfl)) ?_
          refine lp (v := .bool false) rfl rfl (run_bin rfl (vx := (.int .i64 ((t.length : Nat) : Int))) (vy := (.int .i64 ((2000 : Nat) : Int))) (by kernel_rfl) (by kernel_rfl) fun w => bn_gtr (decide_eq_false hl) w) ?_
          refine lm (v := .bool false) rfl rfl ?_
          refine lm (v := strV o) rfl rfl ?_
          refine lp (v := .int .i64 ((o.length : Nat) : Int)) rfl rfl (run_lenS (l := o) rfl Try.underlying9 (by kernel_rfl)) ?_
          refine lp (v := .bool false) rfl rfl (run_bin rfl (vx := (.int .i64 ((o.length : Nat) : Int))) (vy := (.int .i64 ((2000 : Nat) : Int))) (by kernel_rfl) (by kernel_rfl) fun w => bn_gtr (decide_eq_false hl2) w) ?_
          refine lm (v := .bool false) rfl rfl ?_
          refine wpL_done (fun W3 hW3 => ?_)
          refine (show Code.wp _ _ _ _ _ from ?_)
          refine wp_cond_false rfl ?_
          refine wp_skip ?_
          refine (show Code.wp _ _ _ _ _ from ?_)
          refine wp_seq ?_
          refine wp_region_L (W0 := w) [] (hW3) ?_
          refine lm (v := strV t) rfl rfl ?_
          refine wpL_c (f := 15) (args := #[strV t]) (fun v Tz => v = .tuple #[.slice none 0 0, .int .i64 ((p : Nat) : Int), .int .i64 ((er : Nat) : Int)] ∧ Tz = []) rfl (by kernel_rfl) (fun _ => (by kernel_rfl)) (fun W hW => Read_bad hr (by first | omega | (simp only [List.length_append, List.length_cons, List.length_nil]; omega)) W (hW.sub (fun _ h => by cases h))) (fun _ => by simp only [List.setIfInBounds_toArray, List.set_cons_succ, List.set_cons_zero] <;> rfl) ?_
          rintro _ _ ⟨rfl, rfl⟩
          refine lm (v := .tuple #[.slice none 0 0, .int .i64 ((p : Nat) : Int), .int .i64 ((er : Nat) : Int)]) rfl rfl ?_
          refine lm (v := .slice none 0 0) rfl rfl ?_
          refine lm (v := .int .i64 ((p : Nat) : Int)) rfl rfl ?_
          refine lm (v := .int .i64 ((er : Nat) : Int)) rfl rfl ?_
          refine lm (v := .slice none 0 0) rfl rfl ?_
          refine lm (v := .int .i64 ((p : Nat) : Int)) rfl rfl ?_
          refine lm (v := .int .i64 ((er : Nat) : Int)) rfl rfl ?_
          refine wpL_done (fun W4 hW4 => ?_)
          refine (show Code.wp _ _ _ _ _ from ?_)
          refine wp_seq ?_
          refine wp_seq ?_
          refine wp_region_L (W0 := w) [] (hW4) ?_
          refine lm (v := .int .i64 ((er : Nat) : Int)) rfl rfl ?_
          refine lp (v := .bool false) rfl rfl (run_bin rfl (vx := (.int .i64 ((er : Nat) : Int))) (vy := (.int .i64 ((0 : Nat) : Int))) (by kernel_rfl) (by kernel_rfl) fun w => bn_eql (decide_eq_false hne) w) ?_
          refine lm (v := .bool false) rfl rfl ?_
          refine lm (v := .int .i64 ((er : Nat) : Int)) rfl rfl ?_
          refine lp (v := .bool false) rfl rfl (run_bin rfl (vx := (.int .i64 ((er : Nat) : Int))) (vy := (.int .i64 ((42 : Nat) : Int))) (by kernel_rfl) (by kernel_rfl) fun w => bn_eql (decide_eq_false h42) w) ?_
          refine lm (v := .bool false) rfl rfl ?_
          refine wpL_done (fun W5 hW5 => ?_)
          refine (show Code.wp _ _ _ _ _ from ?_)
          refine wp_cond_false rfl ?_
          refine wp_skip ?_
          refine (show Code.wp _ _ _ _ _ from ?_)
          refine wp_seq ?_
          refine wp_region_L (W0 := w) [] (hW5) ?_
          refine lm (v := strV t) rfl rfl ?_
          refine lm (v := .int .i64 ((p : Nat) : Int)) rfl rfl ?_
          refine lp (v := strV (t.take p)) rfl rfl (run_slH (k2 := .i64) (l := t) (r := (t.take p)) (j := p) rfl Try.underlying9 (by kernel_rfl) (by kernel_rfl) (by omega) rfl) ?_
          refine wpL_c (f := 15) (args := #[strV (t.take p)]) (RdK w A1) rfl (by kernel_rfl) (fun _ => (by kernel_rfl)) (fun W hW => Read_ok h1 (by omega) W (hW.sub (fun _ h => by cases h))) (fun _ => by simp only [List.setIfInBounds_toArray, List.set_cons_succ, List.set_cons_zero] <;> rfl) ?_
          rintro _ T2 ⟨p2, c2, rfl, M2⟩
          refine lm (v := .tuple #[.slice p2 A1.length c2, .int .i64 0, .int .i64 0]) rfl rfl ?_
          refine lm (v := .slice p2 A1.length c2) rfl rfl ?_
          refine lm (v := .int .i64 0) rfl rfl ?_
          refine lm (v := .int .i64 0) rfl rfl ?_
          refine lm (v := .slice p2 A1.length c2) rfl rfl ?_
          refine lm (v := .int .i64 0) rfl rfl ?_
          refine lm (v := .int .i64 0) rfl rfl ?_
          refine wpL_done (fun W6 hW6 => ?_)
          have HB4 := Lib.hid ((lv_lvp ((sgo_sgr M2) W6 ((hW6).sub (fun p hp => by first | exact hp | (simp only [List.mem_cons, List.mem_append, List.nil_append, List.not_mem_nil, or_assoc, or_false, false_or, List.cons_append, List.append_assoc] at hp ⊢ <;> grind))))))
          have hbz3 : Below w.heap.size w W6 := (hW6).1
          refine (show Code.wp _ _ _ _ _ from ?_)
          refine wp_seq ?_
          refine wp_seq ?_
          refine wp_region_L (W0 := W6) [] (KS.start W6) ?_
          refine lm (v := .int .i64 0) rfl rfl ?_
          refine lm (v := .bool false) rfl rfl ?_
          refine lm (v := .bool false) rfl rfl ?_
          refine ln rfl ?_
          refine ln rfl ?_
          refine ln rfl ?_
          refine ln rfl ?_
          refine ln rfl ?_
          refine ln rfl ?_
          refine ln rfl ?_
          refine lm (v := .bool false) rfl rfl ?_
          refine wpL_done (fun W7 hW7 => ?_)
          refine (show Code.wp _ _ _ _ _ from ?_)
          refine wp_cond_false rfl ?_
          refine wp_skip ?_
          refine (show Code.wp _ _ _ _ _ from ?_)
          refine wp_seq ?_
          refine wp_region_L (W0 := W6) [] (hW7) ?_
          refine lm (v := .int .i64 ((p : Nat) : Int)) rfl rfl ?_
          refine lp (v := .int .i64 (((p + 1) : Nat) : Int)) rfl rfl (run_bin rfl (vx := (.int .i64 ((p : Nat) : Int))) (vy := (.int .i64 ((1 : Nat) : Int))) (by kernel_rfl) (by kernel_rfl) fun w => bn_add (z := (p + 1)) rfl (wr_i64 (by omega)) w) ?_
          refine lm (v := .int .i64 (((p + 1) : Nat) : Int)) rfl rfl ?_
          refine wpL_done (fun W8 hW8 => ?_)
          refine (show Code.wp _ _ _ _ _ from ?_)
          refine wp_seq ?_
          refine wp_seq ?_
          refine wp_region_L (W0 := W6) [] (hW8) ?_
          refine lm (v := strV t) rfl rfl ?_
          refine lm (v := .int .i64 ((p : Nat) : Int)) rfl rfl ?_
          refine lp (v := .int .u8 ((x.toNat : Nat) : Int)) rfl rfl (run_idxS (j := .i64) (l := t) (k := p) (b := x) rfl Try.underlying9 (by kernel_rfl) (by kernel_rfl) hx) ?_
          refine lp (v := .bool true) rfl rfl (run_bin rfl (vx := (.int .u8 ((x.toNat : Nat) : Int))) (vy := (.int .u8 ((63 : Nat) : Int))) (by kernel_rfl) (by kernel_rfl) fun w => bn_eql (decide_eq_true h63) w) ?_
          refine wpL_done (fun W9 hW9 => ?_)
          refine (show Code.wp _ _ _ _ _ from ?_)
          refine wp_cond_true rfl ?_
          refine wp_region_L (W0 := W6) [] (hW9) ?_
          refine lm (v := .int .i64 ((p : Nat) : Int)) rfl rfl ?_
          refine lp (v := .int .i64 (((p + 2) : Nat) : Int)) rfl rfl (run_bin rfl (vx := (.int .i64 ((p : Nat) : Int))) (vy := (.int .i64 ((2 : Nat) : Int))) (by kernel_rfl) (by kernel_rfl) fun w => bn_add (z := (p + 2)) rfl (wr_i64 (by omega)) w) ?_
          refine lm (v := strV t) rfl rfl ?_
          refine lp (v := .int .i64 ((t.length : Nat) : Int)) rfl rfl (run_lenS (l := t) rfl Try.underlying9 (by kernel_rfl)) ?_
          refine lp (v := .int .i64 ((t.length : Nat) : Int)) rfl rfl (run_minR (k := .i64) (k2 := .i64) (u := (((p + 2) : Nat) : Int)) (v := ((t.length : Nat) : Int)) rfl (by kernel_rfl) (by kernel_rfl) (by rw [if_pos (by omega)])) ?_
          refine lm (v := .int .i64 ((t.length : Nat) : Int)) rfl rfl ?_
          refine wpL_done (fun W10 hW10 => ?_)
          refine (show Code.wp _ _ _ _ _ from ?_)
          refine wp_seq ?_
          refine wp_seq ?_
          refine wp_region_L (W0 := W6) [] (hW10) ?_
          refine lm (v := .int .i64 ((er : Nat) : Int)) rfl rfl ?_
          refine lp (v := .bool true) rfl rfl (run_bin rfl (vx := (.int .i64 ((er : Nat) : Int))) (vy := (.int .i64 ((41 : Nat) : Int))) (by kernel_rfl) (by kernel_rfl) fun w => bn_eql (decide_eq_true he) w) ?_
          refine lm (v := .bool true) rfl rfl ?_
          refine lm (v := .int .i64 ((t.length : Nat) : Int)) rfl rfl ?_
          refine lm (v := .int .i64 ((p : Nat) : Int)) rfl rfl ?_
          refine lp (v := .int .i64 (((p + 1) : Nat) : Int)) rfl rfl (run_bin rfl (vx := (.int .i64 ((p : Nat) : Int))) (vy := (.int .i64 ((1 : Nat) : Int))) (by kernel_rfl) (by kernel_rfl) fun w => bn_add (z := (p + 1)) rfl (wr_i64 (by omega)) w) ?_
          refine lp (v := .bool true) rfl rfl (run_bin rfl (vx := (.int .i64 ((t.length : Nat) : Int))) (vy := (.int .i64 (((p + 1) : Nat) : Int))) (by kernel_rfl) (by kernel_rfl) fun w => bn_eql (decide_eq_true hend.symm) w) ?_
          refine lm (v := .bool true) rfl rfl ?_
          refine wpL_done (fun W11 hW11 => ?_)
          refine (show Code.wp _ _ _ _ _ from ?_)
          refine wp_cond_true rfl ?_
          refine wp_seq ?_
          refine wp_region_L (W0 := W6) [] (hW11) ?_
          refine lm (v := .bool true) rfl rfl ?_
          refine wpL_done (fun W12 hW12 => ?_)
          refine (show Code.wp _ _ _ _ _ from ?_)
          refine wp_ret ?_
          try simp only [inBlock_ret, then_ret]
          refine bodyPost_ret (v := .bool true) ?_ rfl ?_
          · kernel_rfl
          · exact ⟨rfl, (Below.trans hbz3 (Below.mono (hW12).1 hbz3.size))⟩
        by_cases hend : t.length < p + 2
        · by_cases he : er = 41
          · skip
            go_enter Try.func8, Try.ntmps8
            refine wp_seq ?_
            refine wp_region_L (W0 := w) [] (KS.start w) ?_
            refine lm (v := .bool false) rfl rfl ?_
            refine wpL_done (fun W1 hW1 => ?_)
            refine (show Code.wp _ _ _ _ _ from ?_)
            refine wp_seq ?_
            refine wp_seq ?_
            refine wp_region_L (W0 := w) [] (hW1) ?_
            refine lv (v := .bool true) rfl rfl (yb_call (f := 10) (args := #[]) (fun _ => by kernel_rfl) fun W hW => awake_any W) ?_
            refine lm (v := .bool false) rfl rfl ?_
            refine wpL_done (fun W2 hW2 => ?_)
            refine (show Code.wp _ _ _ _ _ from ?_)
            refine wp_cond_false rfl ?_
            refine wp_skip ?_
            refine (show Code.wp _ _ _ _ _ from ?_)
            refine wp_seq ?_
            refine wp_seq ?_
            refine wp_region_L (W0 := w) [] (hW2) ?_
            refine lm (v := strV t) rfl rfl ?_
            refine lp (v := .int .i64 ((t.length : Nat) : Int)) rfl rfl (run_lenS (l := t) rfl Try.underlying9 (by kernel_rfl)) ?_
            refine lp (v := .bool false) rfl rfl (run_bin rfl (vx := (.int .i64 ((t.length : Nat) : Int))) (vy := (.int .i64 ((2000 : Nat) : Int))) (by kernel_rfl) (by kernel_rfl) fun w => bn_gtr (decide_eq_false hl) w) ?_
            refine lm (v := .bool false) rfl rfl ?_
            refine lm (v := strV o) rfl rfl ?_
            refine lp (v := .int .i64 ((o.length : Nat) : Int)) rfl rfl (run_lenS (l := o) rfl Try.underlying9 (by kernel_rfl)) ?_
            refine lp (v := .bool false) rfl rfl (run_bin rfl (vx := (.int .i64 ((o.length : Nat) : Int))) (vy := (.int .i64 ((2000 : Nat) : Int))) (by kernel_rfl) (by kernel_rfl) fun w => bn_gtr (decide_eq_false hl2) w) ?_
            refine lm (v := .bool false) rfl rfl ?_
            refine wpL_done (fun W3 hW3 => ?_)
            refine (show Code.wp _ _ _ _ _ from ?_)
            refine wp_cond_false rfl ?_
            refine wp_skip ?_
            refine (show Code.wp _ _ _ _ _ from ?_)
            refine wp_seq ?_
            refine wp_region_L (W0 := w) [] (hW3) ?_
            refine lm (v := strV t) rfl rfl ?_
            refine wpL_c (f := 15) (args := #[strV t]) (fun v Tz => v = .tuple #[.slice none 0 0, .int .i64 ((p : Nat) : Int), .int .i64 ((er : Nat) : Int)] ∧ Tz = []) rfl (by kernel_rfl) (fun _ => (by kernel_rfl)) (fun W hW => Read_bad hr (by first | omega | (simp only [List.length_append, List.length_cons, List.length_nil]; omega)) W (hW.sub (fun _ h => by cases h))) (fun _ => by simp only [List.setIfInBounds_toArray, List.set_cons_succ, List.set_cons_zero] <;> rfl) ?_
            rintro _ _ ⟨rfl, rfl⟩
            refine lm (v := .tuple #[.slice none 0 0, .int .i64 ((p : Nat) : Int), .int .i64 ((er : Nat) : Int)]) rfl rfl ?_
            refine lm (v := .slice none 0 0) rfl rfl ?_
            refine lm (v := .int .i64 ((p : Nat) : Int)) rfl rfl ?_
            refine lm (v := .int .i64 ((er : Nat) : Int)) rfl rfl ?_
            refine lm (v := .slice none 0 0) rfl rfl ?_
            refine lm (v := .int .i64 ((p : Nat) : Int)) rfl rfl ?_
            refine lm (v := .int .i64 ((er : Nat) : Int)) rfl rfl ?_
            refine wpL_done (fun W4 hW4 => ?_)
            refine (show Code.wp _ _ _ _ _ from ?_)
            refine wp_seq ?_
            refine wp_seq ?_
            refine wp_region_L (W0 := w) [] (hW4) ?_
            refine lm (v := .int .i64 ((er : Nat) : Int)) rfl rfl ?_
            refine lp (v := .bool false) rfl rfl (run_bin rfl (vx := (.int .i64 ((er : Nat) : Int))) (vy := (.int .i64 ((0 : Nat) : Int))) (by kernel_rfl) (by kernel_rfl) fun w => bn_eql (decide_eq_false hne) w) ?_
            refine lm (v := .bool false) rfl rfl ?_
            refine lm (v := .int .i64 ((er : Nat) : Int)) rfl rfl ?_
            refine lp (v := .bool false) rfl rfl (run_bin rfl (vx := (.int .i64 ((er : Nat) : Int))) (vy := (.int .i64 ((42 : Nat) : Int))) (by kernel_rfl) (by kernel_rfl) fun w => bn_eql (decide_eq_false h42) w) ?_
            refine lm (v := .bool false) rfl rfl ?_
            refine wpL_done (fun W5 hW5 => ?_)
            refine (show Code.wp _ _ _ _ _ from ?_)
            refine wp_cond_false rfl ?_
            refine wp_skip ?_
            refine (show Code.wp _ _ _ _ _ from ?_)
            refine wp_seq ?_
            refine wp_region_L (W0 := w) [] (hW5) ?_
            refine lm (v := strV t) rfl rfl ?_
            refine lm (v := .int .i64 ((p : Nat) : Int)) rfl rfl ?_
            refine lp (v := strV (t.take p)) rfl rfl (run_slH (k2 := .i64) (l := t) (r := (t.take p)) (j := p) rfl Try.underlying9 (by kernel_rfl) (by kernel_rfl) (by omega) rfl) ?_
            refine wpL_c (f := 15) (args := #[strV (t.take p)]) (RdK w A1) rfl (by kernel_rfl) (fun _ => (by kernel_rfl)) (fun W hW => Read_ok h1 (by omega) W (hW.sub (fun _ h => by cases h))) (fun _ => by simp only [List.setIfInBounds_toArray, List.set_cons_succ, List.set_cons_zero] <;> rfl) ?_
            rintro _ T2 ⟨p2, c2, rfl, M2⟩
            refine lm (v := .tuple #[.slice p2 A1.length c2, .int .i64 0, .int .i64 0]) rfl rfl ?_
            refine lm (v := .slice p2 A1.length c2) rfl rfl ?_
            refine lm (v := .int .i64 0) rfl rfl ?_
            refine lm (v := .int .i64 0) rfl rfl ?_
            refine lm (v := .slice p2 A1.length c2) rfl rfl ?_
            refine lm (v := .int .i64 0) rfl rfl ?_
            refine lm (v := .int .i64 0) rfl rfl ?_
            refine wpL_done (fun W6 hW6 => ?_)
            have HB4 := Lib.hid ((lv_lvp ((sgo_sgr M2) W6 ((hW6).sub (fun p hp => by first | exact hp | (simp only [List.mem_cons, List.mem_append, List.nil_append, List.not_mem_nil, or_assoc, or_false, false_or, List.cons_append, List.append_assoc] at hp ⊢ <;> grind))))))
            have hbz3 : Below w.heap.size w W6 := (hW6).1
            refine (show Code.wp _ _ _ _ _ from ?_)
            refine wp_seq ?_
            refine wp_seq ?_
            refine wp_region_L (W0 := W6) [] (KS.start W6) ?_
            refine lm (v := .int .i64 0) rfl rfl ?_
            refine lm (v := .bool false) rfl rfl ?_
            refine lm (v := .bool false) rfl rfl ?_
            refine ln rfl ?_
            refine ln rfl ?_
            refine ln rfl ?_
            refine ln rfl ?_
            refine ln rfl ?_
            refine ln rfl ?_
            refine ln rfl ?_
            refine lm (v := .bool false) rfl rfl ?_
            refine wpL_done (fun W7 hW7 => ?_)
            refine (show Code.wp _ _ _ _ _ from ?_)
            refine wp_cond_false rfl ?_
            refine wp_skip ?_
            refine (show Code.wp _ _ _ _ _ from ?_)
            refine wp_seq ?_
            refine wp_region_L (W0 := W6) [] (hW7) ?_
            refine lm (v := .int .i64 ((p : Nat) : Int)) rfl rfl ?_
            refine lp (v := .int .i64 (((p + 1) : Nat) : Int)) rfl rfl (run_bin rfl (vx := (.int .i64 ((p : Nat) : Int))) (vy := (.int .i64 ((1 : Nat) : Int))) (by kernel_rfl) (by kernel_rfl) fun w => bn_add (z := (p + 1)) rfl (wr_i64 (by omega)) w) ?_
            refine lm (v := .int .i64 (((p + 1) : Nat) : Int)) rfl rfl ?_
            refine wpL_done (fun W8 hW8 => ?_)
            refine (show Code.wp _ _ _ _ _ from ?_)
            refine wp_seq ?_
            refine wp_seq ?_
            refine wp_region_L (W0 := W6) [] (hW8) ?_
            refine lm (v := strV t) rfl rfl ?_
            refine lm (v := .int .i64 ((p : Nat) : Int)) rfl rfl ?_
            refine lp (v := .int .u8 ((x.toNat : Nat) : Int)) rfl rfl (run_idxS (j := .i64) (l := t) (k := p) (b := x) rfl Try.underlying9 (by kernel_rfl) (by kernel_rfl) hx) ?_
            refine lp (v := .bool true) rfl rfl (run_bin rfl (vx := (.int .u8 ((x.toNat : Nat) : Int))) (vy := (.int .u8 ((63 : Nat) : Int))) (by kernel_rfl) (by kernel_rfl) fun w => bn_eql (decide_eq_true h63) w) ?_
            refine wpL_done (fun W9 hW9 => ?_)
            refine (show Code.wp _ _ _ _ _ from ?_)
            refine wp_cond_true rfl ?_
            refine wp_region_L (W0 := W6) [] (hW9) ?_
            refine lm (v := .int .i64 ((p : Nat) : Int)) rfl rfl ?_
            refine lp (v := .int .i64 (((p + 2) : Nat) : Int)) rfl rfl (run_bin rfl (vx := (.int .i64 ((p : Nat) : Int))) (vy := (.int .i64 ((2 : Nat) : Int))) (by kernel_rfl) (by kernel_rfl) fun w => bn_add (z := (p + 2)) rfl (wr_i64 (by omega)) w) ?_
            refine lm (v := strV t) rfl rfl ?_
            refine lp (v := .int .i64 ((t.length : Nat) : Int)) rfl rfl (run_lenS (l := t) rfl Try.underlying9 (by kernel_rfl)) ?_
            refine lp (v := .int .i64 ((t.length : Nat) : Int)) rfl rfl (run_minR (k := .i64) (k2 := .i64) (u := (((p + 2) : Nat) : Int)) (v := ((t.length : Nat) : Int)) rfl (by kernel_rfl) (by kernel_rfl) (by rw [if_pos (by omega)])) ?_
            refine lm (v := .int .i64 ((t.length : Nat) : Int)) rfl rfl ?_
            refine wpL_done (fun W10 hW10 => ?_)
            refine (show Code.wp _ _ _ _ _ from ?_)
            refine wp_seq ?_
            refine wp_seq ?_
            refine wp_region_L (W0 := W6) [] (hW10) ?_
            refine lm (v := .int .i64 ((er : Nat) : Int)) rfl rfl ?_
            refine lp (v := .bool true) rfl rfl (run_bin rfl (vx := (.int .i64 ((er : Nat) : Int))) (vy := (.int .i64 ((41 : Nat) : Int))) (by kernel_rfl) (by kernel_rfl) fun w => bn_eql (decide_eq_true he) w) ?_
            refine lm (v := .bool true) rfl rfl ?_
            refine lm (v := .int .i64 ((t.length : Nat) : Int)) rfl rfl ?_
            refine lm (v := .int .i64 ((p : Nat) : Int)) rfl rfl ?_
            refine lp (v := .int .i64 (((p + 1) : Nat) : Int)) rfl rfl (run_bin rfl (vx := (.int .i64 ((p : Nat) : Int))) (vy := (.int .i64 ((1 : Nat) : Int))) (by kernel_rfl) (by kernel_rfl) fun w => bn_add (z := (p + 1)) rfl (wr_i64 (by omega)) w) ?_
            refine lp (v := .bool true) rfl rfl (run_bin rfl (vx := (.int .i64 ((t.length : Nat) : Int))) (vy := (.int .i64 (((p + 1) : Nat) : Int))) (by kernel_rfl) (by kernel_rfl) fun w => bn_eql (decide_eq_true (by omega)) w) ?_
            refine lm (v := .bool true) rfl rfl ?_
            refine wpL_done (fun W11 hW11 => ?_)
            refine (show Code.wp _ _ _ _ _ from ?_)
            refine wp_cond_true rfl ?_
            refine wp_seq ?_
            refine wp_region_L (W0 := W6) [] (hW11) ?_
            refine lm (v := .bool true) rfl rfl ?_
            refine wpL_done (fun W12 hW12 => ?_)
            refine (show Code.wp _ _ _ _ _ from ?_)
            refine wp_ret ?_
            try simp only [inBlock_ret, then_ret]
            refine bodyPost_ret (v := .bool true) ?_ rfl ?_
            · kernel_rfl
            · exact ⟨rfl, (Below.trans hbz3 (Below.mono (hW12).1 hbz3.size))⟩
          exact absurd (last_q hr hx h63 (by omega) (by omega)) he
        have h3 : readT (t.take (p + 2) ++ o) = .bad p er := h2 (p + 2) o (by omega) (fun _ => by omega) (by rw [List.length_append, List.length_take]; omega) (by omega)
        go_enter Try.func8, Try.ntmps8
        refine wp_seq ?_
        refine wp_region_L (W0 := w) [] (KS.start w) ?_
        refine lm (v := .bool false) rfl rfl ?_
        refine wpL_done (fun W1 hW1 => ?_)
        refine (show Code.wp _ _ _ _ _ from ?_)
        refine wp_seq ?_
        refine wp_seq ?_
        refine wp_region_L (W0 := w) [] (hW1) ?_
        refine lv (v := .bool true) rfl rfl (yb_call (f := 10) (args := #[]) (fun _ => by kernel_rfl) fun W hW => awake_any W) ?_
        refine lm (v := .bool false) rfl rfl ?_
        refine wpL_done (fun W2 hW2 => ?_)
        refine (show Code.wp _ _ _ _ _ from ?_)
        refine wp_cond_false rfl ?_
        refine wp_skip ?_
        refine (show Code.wp _ _ _ _ _ from ?_)
        refine wp_seq ?_
        refine wp_seq ?_
        refine wp_region_L (W0 := w) [] (hW2) ?_
        refine lm (v := strV t) rfl rfl ?_
        refine lp (v := .int .i64 ((t.length : Nat) : Int)) rfl rfl (run_lenS (l := t) rfl Try.underlying9 (by kernel_rfl)) ?_
        refine lp (v := .bool false) rfl rfl (run_bin rfl (vx := (.int .i64 ((t.length : Nat) : Int))) (vy := (.int .i64 ((2000 : Nat) : Int))) (by kernel_rfl) (by kernel_rfl) fun w => bn_gtr (decide_eq_false hl) w) ?_
        refine lm (v := .bool false) rfl rfl ?_
        refine lm (v := strV o) rfl rfl ?_
        refine lp (v := .int .i64 ((o.length : Nat) : Int)) rfl rfl (run_lenS (l := o) rfl Try.underlying9 (by kernel_rfl)) ?_
        refine lp (v := .bool false) rfl rfl (run_bin rfl (vx := (.int .i64 ((o.length : Nat) : Int))) (vy := (.int .i64 ((2000 : Nat) : Int))) (by kernel_rfl) (by kernel_rfl) fun w => bn_gtr (decide_eq_false hl2) w) ?_
        refine lm (v := .bool false) rfl rfl ?_
        refine wpL_done (fun W3 hW3 => ?_)
        refine (show Code.wp _ _ _ _ _ from ?_)
        refine wp_cond_false rfl ?_
        refine wp_skip ?_
        refine (show Code.wp _ _ _ _ _ from ?_)
        refine wp_seq ?_
        refine wp_region_L (W0 := w) [] (hW3) ?_
        refine lm (v := strV t) rfl rfl ?_
        refine wpL_c (f := 15) (args := #[strV t]) (fun v Tz => v = .tuple #[.slice none 0 0, .int .i64 ((p : Nat) : Int), .int .i64 ((er : Nat) : Int)] ∧ Tz = []) rfl (by kernel_rfl) (fun _ => (by kernel_rfl)) (fun W hW => Read_bad hr (by first | omega | (simp only [List.length_append, List.length_cons, List.length_nil]; omega)) W (hW.sub (fun _ h => by cases h))) (fun _ => by simp only [List.setIfInBounds_toArray, List.set_cons_succ, List.set_cons_zero] <;> rfl) ?_
        rintro _ _ ⟨rfl, rfl⟩
        refine lm (v := .tuple #[.slice none 0 0, .int .i64 ((p : Nat) : Int), .int .i64 ((er : Nat) : Int)]) rfl rfl ?_
        refine lm (v := .slice none 0 0) rfl rfl ?_
        refine lm (v := .int .i64 ((p : Nat) : Int)) rfl rfl ?_
        refine lm (v := .int .i64 ((er : Nat) : Int)) rfl rfl ?_
        refine lm (v := .slice none 0 0) rfl rfl ?_
        refine lm (v := .int .i64 ((p : Nat) : Int)) rfl rfl ?_
        refine lm (v := .int .i64 ((er : Nat) : Int)) rfl rfl ?_
        refine wpL_done (fun W4 hW4 => ?_)
        refine (show Code.wp _ _ _ _ _ from ?_)
        refine wp_seq ?_
        refine wp_seq ?_
        refine wp_region_L (W0 := w) [] (hW4) ?_
        refine lm (v := .int .i64 ((er : Nat) : Int)) rfl rfl ?_
        refine lp (v := .bool false) rfl rfl (run_bin rfl (vx := (.int .i64 ((er : Nat) : Int))) (vy := (.int .i64 ((0 : Nat) : Int))) (by kernel_rfl) (by kernel_rfl) fun w => bn_eql (decide_eq_false hne) w) ?_
        refine lm (v := .bool false) rfl rfl ?_
        refine lm (v := .int .i64 ((er : Nat) : Int)) rfl rfl ?_
        refine lp (v := .bool false) rfl rfl (run_bin rfl (vx := (.int .i64 ((er : Nat) : Int))) (vy := (.int .i64 ((42 : Nat) : Int))) (by kernel_rfl) (by kernel_rfl) fun w => bn_eql (decide_eq_false h42) w) ?_
        refine lm (v := .bool false) rfl rfl ?_
        refine wpL_done (fun W5 hW5 => ?_)
        refine (show Code.wp _ _ _ _ _ from ?_)
        refine wp_cond_false rfl ?_
        refine wp_skip ?_
        refine (show Code.wp _ _ _ _ _ from ?_)
        refine wp_seq ?_
        refine wp_region_L (W0 := w) [] (hW5) ?_
        refine lm (v := strV t) rfl rfl ?_
        refine lm (v := .int .i64 ((p : Nat) : Int)) rfl rfl ?_
        refine lp (v := strV (t.take p)) rfl rfl (run_slH (k2 := .i64) (l := t) (r := (t.take p)) (j := p) rfl Try.underlying9 (by kernel_rfl) (by kernel_rfl) (by omega) rfl) ?_
        refine wpL_c (f := 15) (args := #[strV (t.take p)]) (RdK w A1) rfl (by kernel_rfl) (fun _ => (by kernel_rfl)) (fun W hW => Read_ok h1 (by omega) W (hW.sub (fun _ h => by cases h))) (fun _ => by simp only [List.setIfInBounds_toArray, List.set_cons_succ, List.set_cons_zero] <;> rfl) ?_
        rintro _ T2 ⟨p2, c2, rfl, M2⟩
        refine lm (v := .tuple #[.slice p2 A1.length c2, .int .i64 0, .int .i64 0]) rfl rfl ?_
        refine lm (v := .slice p2 A1.length c2) rfl rfl ?_
        refine lm (v := .int .i64 0) rfl rfl ?_
        refine lm (v := .int .i64 0) rfl rfl ?_
        refine lm (v := .slice p2 A1.length c2) rfl rfl ?_
        refine lm (v := .int .i64 0) rfl rfl ?_
        refine lm (v := .int .i64 0) rfl rfl ?_
        refine wpL_done (fun W6 hW6 => ?_)
        have HB4 := Lib.hid ((lv_lvp ((sgo_sgr M2) W6 ((hW6).sub (fun p hp => by first | exact hp | (simp only [List.mem_cons, List.mem_append, List.nil_append, List.not_mem_nil, or_assoc, or_false, false_or, List.cons_append, List.append_assoc] at hp ⊢ <;> grind))))))
        have hbz3 : Below w.heap.size w W6 := (hW6).1
        refine (show Code.wp _ _ _ _ _ from ?_)
        refine wp_seq ?_
        refine wp_seq ?_
        refine wp_region_L (W0 := W6) [] (KS.start W6) ?_
        refine lm (v := .int .i64 0) rfl rfl ?_
        refine lm (v := .bool false) rfl rfl ?_
        refine lm (v := .bool false) rfl rfl ?_
        refine ln rfl ?_
        refine ln rfl ?_
        refine ln rfl ?_
        refine ln rfl ?_
        refine ln rfl ?_
        refine ln rfl ?_
        refine ln rfl ?_
        refine lm (v := .bool false) rfl rfl ?_
        refine wpL_done (fun W7 hW7 => ?_)
        refine (show Code.wp _ _ _ _ _ from ?_)
        refine wp_cond_false rfl ?_
        refine wp_skip ?_
        refine (show Code.wp _ _ _ _ _ from ?_)
        refine wp_seq ?_
        refine wp_region_L (W0 := W6) [] (hW7) ?_
        refine lm (v := .int .i64 ((p : Nat) : Int)) rfl rfl ?_
        refine lp (v := .int .i64 (((p + 1) : Nat) : Int)) rfl rfl (run_bin rfl (vx := (.int .i64 ((p : Nat) : Int))) (vy := (.int .i64 ((1 : Nat) : Int))) (by kernel_rfl) (by kernel_rfl) fun w => bn_add (z := (p + 1)) rfl (wr_i64 (by omega)) w) ?_
        refine lm (v := .int .i64 (((p + 1) : Nat) : Int)) rfl rfl ?_
        refine wpL_done (fun W8 hW8 => ?_)
        refine (show Code.wp _ _ _ _ _ from ?_)
        refine wp_seq ?_
        refine wp_seq ?_
        refine wp_region_L (W0 := W6) [] (hW8) ?_
        refine lm (v := strV t) rfl rfl ?_
        refine lm (v := .int .i64 ((p : Nat) : Int)) rfl rfl ?_
        refine lp (v := .int .u8 ((x.toNat : Nat) : Int)) rfl rfl (run_idxS (j := .i64) (l := t) (k := p) (b := x) rfl Try.underlying9 (by kernel_rfl) (by kernel_rfl) hx) ?_
        refine lp (v := .bool true) rfl rfl (run_bin rfl (vx := (.int .u8 ((x.toNat : Nat) : Int))) (vy := (.int .u8 ((63 : Nat) : Int))) (by kernel_rfl) (by kernel_rfl) fun w => bn_eql (decide_eq_true h63) w) ?_
        refine wpL_done (fun W9 hW9 => ?_)
        refine (show Code.wp _ _ _ _ _ from ?_)
        refine wp_cond_true rfl ?_
        refine wp_region_L (W0 := W6) [] (hW9) ?_
        refine lm (v := .int .i64 ((p : Nat) : Int)) rfl rfl ?_
        refine lp (v := .int .i64 (((p + 2) : Nat) : Int)) rfl rfl (run_bin rfl (vx := (.int .i64 ((p : Nat) : Int))) (vy := (.int .i64 ((2 : Nat) : Int))) (by kernel_rfl) (by kernel_rfl) fun w => bn_add (z := (p + 2)) rfl (wr_i64 (by omega)) w) ?_
        refine lm (v := strV t) rfl rfl ?_
        refine lp (v := .int .i64 ((t.length : Nat) : Int)) rfl rfl (run_lenS (l := t) rfl Try.underlying9 (by kernel_rfl)) ?_
        refine lp (v := .int .i64 (((p + 2) : Nat) : Int)) rfl rfl (run_minR (k := .i64) (k2 := .i64) (u := (((p + 2) : Nat) : Int)) (v := ((t.length : Nat) : Int)) rfl (by kernel_rfl) (by kernel_rfl) (by rw [if_neg (by omega)])) ?_
        refine lm (v := .int .i64 (((p + 2) : Nat) : Int)) rfl rfl ?_
        refine wpL_done (fun W10 hW10 => ?_)
        refine (show Code.wp _ _ _ _ _ from ?_)
        refine wp_seq ?_
        refine wp_seq ?_
        refine wp_region_L (W0 := W6) [] (hW10) ?_
        refine lm (v := .int .i64 ((er : Nat) : Int)) rfl rfl ?_
        refine lp (v := .bool (decide (er = 41))) rfl rfl (run_bin rfl (vx := (.int .i64 ((er : Nat) : Int))) (vy := (.int .i64 ((41 : Nat) : Int))) (by kernel_rfl) (by kernel_rfl) fun w => bn_eql rfl w) ?_
        refine lm (v := .bool (decide (er = 41))) rfl rfl ?_
        cases hd1 : (decide (er = 41)) with
        | false =>
          have h1 : ¬ (er = 41) := of_decide_eq_false hd1
          clear hd1
          refine ln rfl ?_
          refine ln rfl ?_
          refine ln rfl ?_
          refine ln rfl ?_
          refine lm (v := .bool false) rfl rfl ?_
          refine wpL_done (fun W11 hW11 => ?_)
          refine (show Code.wp _ _ _ _ _ from ?_)
          refine wp_cond_false rfl ?_
          refine wp_skip ?_
          refine (show Code.wp _ _ _ _ _ from ?_)
          refine wp_seq ?_
          refine wp_region_L (W0 := W6) [] (hW11) ?_
          refine lm (v := strV t) rfl rfl ?_
          refine lm (v := .int .i64 (((p + 2) : Nat) : Int)) rfl rfl ?_
          refine lp (v := strV (t.take (p + 2))) rfl rfl (run_slH (k2 := .i64) (l := t) (r := (t.take (p + 2))) (j := (p + 2)) rfl Try.underlying9 (by kernel_rfl) (by kernel_rfl) (by omega) rfl) ?_
          refine lm (v := strV o) rfl rfl ?_
          refine lp (v := strV ((t.take (p + 2)) ++ o)) rfl rfl (run_bin rfl (vx := strV (t.take (p + 2))) (vy := strV o) (by kernel_rfl) (by kernel_rfl) fun w => bs_add (c := ((t.take (p + 2)) ++ o)) rfl (by first | omega | (simp; omega)) w) ?_
          refine wpL_c (f := 15) (args := #[strV ((t.take (p + 2)) ++ o)]) (fun v Tz => v = .tuple #[.slice none 0 0, .int .i64 ((p : Nat) : Int), .int .i64 ((er : Nat) : Int)] ∧ Tz = []) rfl (by kernel_rfl) (fun _ => (by kernel_rfl)) (fun W hW => Read_bad h3 (by first | omega | (simp only [List.length_append, List.length_cons, List.length_nil]; omega)) W (hW.sub (fun _ h => by cases h))) (fun _ => by simp only [List.setIfInBounds_toArray, List.set_cons_succ, List.set_cons_zero] <;> rfl) ?_
          rintro _ _ ⟨rfl, rfl⟩
          refine lm (v := .tuple #[.slice none 0 0, .int .i64 ((p : Nat) : Int), .int .i64 ((er : Nat) : Int)]) rfl rfl ?_
          refine lm (v := .slice none 0 0) rfl rfl ?_
          refine lm (v := .int .i64 ((p : Nat) : Int)) rfl rfl ?_
          refine lm (v := .int .i64 ((er : Nat) : Int)) rfl rfl ?_
          refine lm (v := .int .i64 ((p : Nat) : Int)) rfl rfl ?_
          refine lm (v := .int .i64 ((er : Nat) : Int)) rfl rfl ?_
          refine wpL_done (fun W12 hW12 => ?_)
          refine (show Code.wp _ _ _ _ _ from ?_)
          refine wp_seq ?_
          refine wp_region_L (W0 := W6) [] (hW12) ?_
          refine lm (v := .int .i64 ((er : Nat) : Int)) rfl rfl ?_
          refine lm (v := .int .i64 ((er : Nat) : Int)) rfl rfl ?_
          refine lp (v := .bool true) rfl rfl (run_bin rfl (vx := (.int .i64 ((er : Nat) : Int))) (vy := (.int .i64 ((er : Nat) : Int))) (by kernel_rfl) (by kernel_rfl) fun w => bn_eql (decide_eq_true rfl) w) ?_
          refine lm (v := .bool true) rfl rfl ?_
          refine lm (v := .int .i64 ((p : Nat) : Int)) rfl rfl ?_
          refine lm (v := .int .i64 ((p : Nat) : Int)) rfl rfl ?_
          refine lp (v := .bool true) rfl rfl (run_bin rfl (vx := (.int .i64 ((p : Nat) : Int))) (vy := (.int .i64 ((p : Nat) : Int))) (by kernel_rfl) (by kernel_rfl) fun w => bn_eql (decide_eq_true rfl) w) ?_
          refine lm (v := .bool true) rfl rfl ?_
          refine lm (v := .bool true) rfl rfl ?_
          refine wpL_done (fun W13 hW13 => ?_)
          refine (show Code.wp _ _ _ _ _ from ?_)
          refine wp_ret ?_
          try simp only [inBlock_ret, then_ret]
          refine bodyPost_ret (v := .bool true) ?_ rfl ?_
          · kernel_rfl
          · exact ⟨rfl, (Below.trans hbz3 (Below.mono (hW13).1 hbz3.size))⟩
        | true =>
          have h1 : er = 41 := of_decide_eq_true hd1
          clear hd1
          refine lm (v := .int .i64 (((p + 2) : Nat) : Int)) rfl rfl ?_
          refine lm (v := .int .i64 ((p : Nat) : Int)) rfl rfl ?_
          refine lp (v := .int .i64 (((p + 1) : Nat) : Int)) rfl rfl (run_bin rfl (vx := (.int .i64 ((p : Nat) : Int))) (vy := (.int .i64 ((1 : Nat) : Int))) (by kernel_rfl) (by kernel_rfl) fun w => bn_add (z := (p + 1)) rfl (wr_i64 (by omega)) w) ?_
          refine lp (v := .bool false) rfl rfl (run_bin rfl (vx := (.int .i64 (((p + 2) : Nat) : Int))) (vy := (.int .i64 (((p + 1) : Nat) : Int))) (by kernel_rfl) (by kernel_rfl) fun w => bn_eql (decide_eq_false (by omega)) w) ?_
          refine lm (v := .bool false) rfl rfl ?_
          refine wpL_done (fun W14 hW14 => ?_)
          refine (show Code.wp _ _ _ _ _ from ?_)
          refine wp_cond_false rfl ?_
          refine wp_skip ?_
          refine (show Code.wp _ _ _ _ _ from ?_)
          refine wp_seq ?_
          refine wp_region_L (W0 := W6) [] (hW14) ?_
          refine lm (v := strV t) rfl rfl ?_
          refine lm (v := .int .i64 (((p + 2) : Nat) : Int)) rfl rfl ?_
          refine lp (v := strV (t.take (p + 2))) rfl rfl (run_slH (k2 := .i64) (l := t) (r := (t.take (p + 2))) (j := (p + 2)) rfl Try.underlying9 (by kernel_rfl) (by kernel_rfl) (by omega) rfl) ?_
          refine lm (v := strV o) rfl rfl ?_
          refine lp (v := strV ((t.take (p + 2)) ++ o)) rfl rfl (run_bin rfl (vx := strV (t.take (p + 2))) (vy := strV o) (by kernel_rfl) (by kernel_rfl) fun w => bs_add (c := ((t.take (p + 2)) ++ o)) rfl (by first | omega | (simp; omega)) w) ?_
          refine wpL_c (f := 15) (args := #[strV ((t.take (p + 2)) ++ o)]) (fun v Tz => v = .tuple #[.slice none 0 0, .int .i64 ((p : Nat) : Int), .int .i64 ((er : Nat) : Int)] ∧ Tz = []) rfl (by kernel_rfl) (fun _ => (by kernel_rfl)) (fun W hW => Read_bad h3 (by first | omega | (simp only [List.length_append, List.length_cons, List.length_nil]; omega)) W (hW.sub (fun _ h => by cases h))) (fun _ => by simp only [List.setIfInBounds_toArray, List.set_cons_succ, List.set_cons_zero] <;> rfl) ?_
          rintro _ _ ⟨rfl, rfl⟩
          refine lm (v := .tuple #[.slice none 0 0, .int .i64 ((p : Nat) : Int), .int .i64 ((er : Nat) : Int)]) rfl rfl ?_
          refine lm (v := .slice none 0 0) rfl rfl ?_
          refine lm (v := .int .i64 ((p : Nat) : Int)) rfl rfl ?_
          refine lm (v := .int .i64 ((er : Nat) : Int)) rfl rfl ?_
          refine lm (v := .int .i64 ((p : Nat) : Int)) rfl rfl ?_
          refine lm (v := .int .i64 ((er : Nat) : Int)) rfl rfl ?_
          refine wpL_done (fun W15 hW15 => ?_)
          refine (show Code.wp _ _ _ _ _ from ?_)
          refine wp_seq ?_
          refine wp_region_L (W0 := W6) [] (hW15) ?_
          refine lm (v := .int .i64 ((er : Nat) : Int)) rfl rfl ?_
          refine lm (v := .int .i64 ((er : Nat) : Int)) rfl rfl ?_
          refine lp (v := .bool true) rfl rfl (run_bin rfl (vx := (.int .i64 ((er : Nat) : Int))) (vy := (.int .i64 ((er : Nat) : Int))) (by kernel_rfl) (by kernel_rfl) fun w => bn_eql (decide_eq_true rfl) w) ?_
          refine lm (v := .bool true) rfl rfl ?_
          refine lm (v := .int .i64 ((p : Nat) : Int)) rfl rfl ?_
          refine lm (v := .int .i64 ((p : Nat) : Int)) rfl rfl ?_
          refine lp (v := .bool true) rfl rfl (run_bin rfl (vx := (.int .i64 ((p : Nat) : Int))) (vy := (.int .i64 ((p : Nat) : Int))) (by kernel_rfl) (by kernel_rfl) fun w => bn_eql (decide_eq_true rfl) w) ?_
          refine lm (v := .bool true) rfl rfl ?_
          refine lm (v := .bool true) rfl rfl ?_
          refine wpL_done (fun W16 hW16 => ?_)
          refine (show Code.wp _ _ _ _ _ from ?_)
          refine wp_ret ?_
          try simp only [inBlock_ret, then_ret]
          refine bodyPost_ret (v := .bool true) ?_ rfl ?_
          · kernel_rfl
          · exact ⟨rfl, (Below.trans hbz3 (Below.mono (hW16).1 hbz3.size))⟩
      · rcases h2 with ⟨h, _⟩ | h2
        · exact absurd h h63
        have h3 : readT (t.take (p + 1) ++ o) = .bad p er := h2 (p + 1) o (Nat.le_refl _) (fun h => absurd h h63) (by rw [List.length_append, List.length_take]; omega) (by omega)
        go_enter Try.func8, Try.ntmps8
        refine wp_seq ?_
        refine wp_region_L (W0 := w) [] (KS.start w) ?_
        refine lm (v := .bool false) rfl rfl ?_
        refine wpL_done (fun W1 hW1 => ?_)
        refine (show Code.wp _ _ _ _ _ from ?_)
        refine wp_seq ?_
        refine wp_seq ?_
        refine wp_region_L (W0 := w) [] (hW1) ?_
        refine lv (v := .bool true) rfl rfl (yb_call (f := 10) (args := #[]) (fun _ => by kernel_rfl) fun W hW => awake_any W) ?_
        refine lm (v := .bool false) rfl rfl ?_
        refine wpL_done (fun W2 hW2 => ?_)
        refine (show Code.wp _ _ _ _ _ from ?_)
        refine wp_cond_false rfl ?_
        refine wp_skip ?_
        refine (show Code.wp _ _ _ _ _ from ?_)
        refine wp_seq ?_
        refine wp_seq ?_
        refine wp_region_L (W0 := w) [] (hW2) ?_
        refine lm (v := strV t) rfl rfl ?_
        refine lp (v := .int .i64 ((t.length : Nat) : Int)) rfl rfl (run_lenS (l := t) rfl Try.underlying9 (by kernel_rfl)) ?_
        refine lp (v := .bool false) rfl rfl (run_bin rfl (vx := (.int .i64 ((t.length : Nat) : Int))) (vy := (.int .i64 ((2000 : Nat) : Int))) (by kernel_rfl) (by kernel_rfl) fun w => bn_gtr (decide_eq_false hl) w) ?_
        refine lm (v := .bool false) rfl rfl ?_
        refine lm (v := strV o) rfl rfl ?_
        refine lp (v := .int .i64 ((o.length : Nat) : Int)) rfl rfl (run_lenS (l := o) rfl Try.underlying9 (by kernel_rfl)) ?_
        refine lp (v := .bool false) rfl rfl (run_bin rfl (vx := (.int .i64 ((o.length : Nat) : Int))) (vy := (.int .i64 ((2000 : Nat) : Int))) (by kernel_rfl) (by kernel_rfl) fun w => bn_gtr (decide_eq_false hl2) w) ?_
        refine lm (v := .bool false) rfl rfl ?_
        refine wpL_done (fun W3 hW3 => ?_)
        refine (show Code.wp _ _ _ _ _ from ?_)
        refine wp_cond_false rfl ?_
        refine wp_skip ?_
        refine (show Code.wp _ _ _ _ _ from ?_)
        refine wp_seq ?_
        refine wp_region_L (W0 := w) [] (hW3) ?_
        refine lm (v := strV t) rfl rfl ?_
        refine wpL_c (f := 15) (args := #[strV t]) (fun v Tz => v = .tuple #[.slice none 0 0, .int .i64 ((p : Nat) : Int), .int .i64 ((er : Nat) : Int)] ∧ Tz = []) rfl (by kernel_rfl) (fun _ => (by kernel_rfl)) (fun W hW => Read_bad hr (by first | omega | (simp only [List.length_append, List.length_cons, List.length_nil]; omega)) W (hW.sub (fun _ h => by cases h))) (fun _ => by simp only [List.setIfInBounds_toArray, List.set_cons_succ, List.set_cons_zero] <;> rfl) ?_
        rintro _ _ ⟨rfl, rfl⟩
        refine lm (v := .tuple #[.slice none 0 0, .int .i64 ((p : Nat) : Int), .int .i64 ((er : Nat) : Int)]) rfl rfl ?_
        refine lm (v := .slice none 0 0) rfl rfl ?_
        refine lm (v := .int .i64 ((p : Nat) : Int)) rfl rfl ?_
        refine lm (v := .int .i64 ((er : Nat) : Int)) rfl rfl ?_
        refine lm (v := .slice none 0 0) rfl rfl ?_
        refine lm (v := .int .i64 ((p : Nat) : Int)) rfl rfl ?_
        refine lm (v := .int .i64 ((er : Nat) : Int)) rfl rfl ?_
        refine wpL_done (fun W4 hW4 => ?_)
        refine (show Code.wp _ _ _ _ _ from ?_)
        refine wp_seq ?_
        refine wp_seq ?_
        refine wp_region_L (W0 := w) [] (hW4) ?_
        refine lm (v := .int .i64 ((er : Nat) : Int)) rfl rfl ?_
        refine lp (v := .bool false) rfl rfl (run_bin rfl (vx := (.int .i64 ((er : Nat) : Int))) (vy := (.int .i64 ((0 : Nat) : Int))) (by kernel_rfl) (by kernel_rfl) fun w => bn_eql (decide_eq_false hne) w) ?_
        refine lm (v := .bool false) rfl rfl ?_
        refine lm (v := .int .i64 ((er : Nat) : Int)) rfl rfl ?_
        refine lp (v := .bool false) rfl rfl (run_bin rfl (vx := (.int .i64 ((er : Nat) : Int))) (vy := (.int .i64 ((42 : Nat) : Int))) (by kernel_rfl) (by kernel_rfl) fun w => bn_eql (decide_eq_false h42) w) ?_
        refine lm (v := .bool false) rfl rfl ?_
        refine wpL_done (fun W5 hW5 => ?_)
        refine (show Code.wp _ _ _ _ _ from ?_)
        refine wp_cond_false rfl ?_
        refine wp_skip ?_
        refine (show Code.wp _ _ _ _ _ from ?_)
        refine wp_seq ?_
        refine wp_region_L (W0 := w) [] (hW5) ?_
        refine lm (v := strV t) rfl rfl ?_
        refine lm (v := .int .i64 ((p : Nat) : Int)) rfl rfl ?_
        refine lp (v := strV (t.take p)) rfl rfl (run_slH (k2 := .i64) (l := t) (r := (t.take p)) (j := p) rfl Try.underlying9 (by kernel_rfl) (by kernel_rfl) (by omega) rfl) ?_
        refine wpL_c (f := 15) (args := #[strV (t.take p)]) (RdK w A1) rfl (by kernel_rfl) (fun _ => (by kernel_rfl)) (fun W hW => Read_ok h1 (by omega) W (hW.sub (fun _ h => by cases h))) (fun _ => by simp only [List.setIfInBounds_toArray, List.set_cons_succ, List.set_cons_zero] <;> rfl) ?_
        rintro _ T2 ⟨p2, c2, rfl, M2⟩
        refine lm (v := .tuple #[.slice p2 A1.length c2, .int .i64 0, .int .i64 0]) rfl rfl ?_
        refine lm (v := .slice p2 A1.length c2) rfl rfl ?_
        refine lm (v := .int .i64 0) rfl rfl ?_
        refine lm (v := .int .i64 0) rfl rfl ?_
        refine lm (v := .slice p2 A1.length c2) rfl rfl ?_
        refine lm (v := .int .i64 0) rfl rfl ?_
        refine lm (v := .int .i64 0) rfl rfl ?_
        refine wpL_done (fun W6 hW6 => ?_)
        have HB4 := Lib.hid ((lv_lvp ((sgo_sgr M2) W6 ((hW6).sub (fun p hp => by first | exact hp | (simp only [List.mem_cons, List.mem_append, List.nil_append, List.not_mem_nil, or_assoc, or_false, false_or, List.cons_append, List.append_assoc] at hp ⊢ <;> grind))))))
        have hbz3 : Below w.heap.size w W6 := (hW6).1
        refine (show Code.wp _ _ _ _ _ from ?_)
        refine wp_seq ?_
        refine wp_seq ?_
        refine wp_region_L (W0 := W6) [] (KS.start W6) ?_
        refine lm (v := .int .i64 0) rfl rfl ?_
        refine lm (v := .bool false) rfl rfl ?_
        refine lm (v := .bool false) rfl rfl ?_
        refine ln rfl ?_
        refine ln rfl ?_
        refine ln rfl ?_
        refine ln rfl ?_
        refine ln rfl ?_
        refine ln rfl ?_
        refine ln rfl ?_
        refine lm (v := .bool false) rfl rfl ?_
        refine wpL_done (fun W7 hW7 => ?_)
        refine (show Code.wp _ _ _ _ _ from ?_)
        refine wp_cond_false rfl ?_
        refine wp_skip ?_
        refine (show Code.wp _ _ _ _ _ from ?_)
        refine wp_seq ?_
        refine wp_region_L (W0 := W6) [] (hW7) ?_
        refine lm (v := .int .i64 ((p : Nat) : Int)) rfl rfl ?_
        refine lp (v := .int .i64 (((p + 1) : Nat) : Int)) rfl rfl (run_bin rfl (vx := (.int .i64 ((p : Nat) : Int))) (vy := (.int .i64 ((1 : Nat) : Int))) (by kernel_rfl) (by kernel_rfl) fun w => bn_add (z := (p + 1)) rfl (wr_i64 (by omega)) w) ?_
        refine lm (v := .int .i64 (((p + 1) : Nat) : Int)) rfl rfl ?_
        refine wpL_done (fun W8 hW8 => ?_)
        refine (show Code.wp _ _ _ _ _ from ?_)
        refine wp_seq ?_
        refine wp_seq ?_
        refine wp_region_L (W0 := W6) [] (hW8) ?_
        refine lm (v := strV t) rfl rfl ?_
        refine lm (v := .int .i64 ((p : Nat) : Int)) rfl rfl ?_
        refine lp (v := .int .u8 ((x.toNat : Nat) : Int)) rfl rfl (run_idxS (j := .i64) (l := t) (k := p) (b := x) rfl Try.underlying9 (by kernel_rfl) (by kernel_rfl) hx) ?_
        refine lp (v := .bool false) rfl rfl (run_bin rfl (vx := (.int .u8 ((x.toNat : Nat) : Int))) (vy := (.int .u8 ((63 : Nat) : Int))) (by kernel_rfl) (by kernel_rfl) fun w => bn_eql (decide_eq_false h63) w) ?_
        refine wpL_done (fun W9 hW9 => ?_)
        refine (show Code.wp _ _ _ _ _ from ?_)
        refine wp_cond_false rfl ?_
        refine wp_skip ?_
        refine (show Code.wp _ _ _ _ _ from ?_)
        refine wp_seq ?_
        refine wp_seq ?_
        refine wp_region_L (W0 := W6) [] (hW9) ?_
        refine lm (v := .int .i64 ((er : Nat) : Int)) rfl rfl ?_
        refine lp (v := .bool (decide (er = 41))) rfl rfl (run_bin rfl (vx := (.int .i64 ((er : Nat) : Int))) (vy := (.int .i64 ((41 : Nat) : Int))) (by kernel_rfl) (by kernel_rfl) fun w => bn_eql rfl w) ?_
        refine lm (v := .bool (decide (er = 41))) rfl rfl ?_
        cases hd1 : (decide (er = 41)) with
        | false =>
          have h1 : ¬ (er = 41) := of_decide_eq_false hd1
          clear hd1
          refine ln rfl ?_
          refine ln rfl ?_
          refine ln rfl ?_
          refine ln rfl ?_
          refine lm (v := .bool false) rfl rfl ?_
          refine wpL_done (fun W10 hW10 => ?_)
          refine (show Code.wp _ _ _ _ _ from ?_)
          refine wp_cond_false rfl ?_
          refine wp_skip ?_
          refine (show Code.wp _ _ _ _ _ from ?_)
          refine wp_seq ?_
          refine wp_region_L (W0 := W6) [] (hW10) ?_
          refine lm (v := strV t) rfl rfl ?_
          refine lm (v := .int .i64 (((p + 1) : Nat) : Int)) rfl rfl ?_
          refine lp (v := strV (t.take (p + 1))) rfl rfl (run_slH (k2 := .i64) (l := t) (r := (t.take (p + 1))) (j := (p + 1)) rfl Try.underlying9 (by kernel_rfl) (by kernel_rfl) (by omega) rfl) ?_
          refine lm (v := strV o) rfl rfl ?_
          refine lp (v := strV ((t.take (p + 1)) ++ o)) rfl rfl (run_bin rfl (vx := strV (t.take (p + 1))) (vy := strV o) (by kernel_rfl) (by kernel_rfl) fun w => bs_add (c := ((t.take (p + 1)) ++ o)) rfl (by first | omega | (simp; omega)) w) ?_
          refine wpL_c (f := 15) (args := #[strV ((t.take (p + 1)) ++ o)]) (fun v Tz => v = .tuple #[.slice none 0 0, .int .i64 ((p : Nat) : Int), .int .i64 ((er : Nat) : Int)] ∧ Tz = []) rfl (by kernel_rfl) (fun _ => (by kernel_rfl)) (fun W hW => Read_bad h3 (by first | omega | (simp only [List.length_append, List.length_cons, List.length_nil]; omega)) W (hW.sub (fun _ h => by cases h))) (fun _ => by simp only [List.setIfInBounds_toArray, List.set_cons_succ, List.set_cons_zero] <;> rfl) ?_
          rintro _ _ ⟨rfl, rfl⟩
          refine lm (v := .tuple #[.slice none 0 0, .int .i64 ((p : Nat) : Int), .int .i64 ((er : Nat) : Int)]) rfl rfl ?_
          refine lm (v := .slice none 0 0) rfl rfl ?_
          refine lm (v := .int .i64 ((p : Nat) : Int)) rfl rfl ?_
          refine lm (v := .int .i64 ((er : Nat) : Int)) rfl rfl ?_
          refine lm (v := .int .i64 ((p : Nat) : Int)) rfl rfl ?_
          refine lm (v := .int .i64 ((er : Nat) : Int)) rfl rfl ?_
          refine wpL_done (fun W11 hW11 => ?_)
          refine (show Code.wp _ _ _ _ _ from ?_)
          refine wp_seq ?_
          refine wp_region_L (W0 := W6) [] (hW11) ?_
          refine lm (v := .int .i64 ((er : Nat) : Int)) rfl rfl ?_
          refine lm (v := .int .i64 ((er : Nat) : Int)) rfl rfl ?_
          refine lp (v := .bool true) rfl rfl (run_bin rfl (vx := (.int .i64 ((er : Nat) : Int))) (vy := (.int .i64 ((er : Nat) : Int))) (by kernel_rfl) (by kernel_rfl) fun w => bn_eql (decide_eq_true rfl) w) ?_
          refine lm (v := .bool true) rfl rfl ?_
          refine lm (v := .int .i64 ((p : Nat) : Int)) rfl rfl ?_
          refine lm (v := .int .i64 ((p : Nat) : Int)) rfl rfl ?_
          refine lp (v := .bool true) rfl rfl (run_bin rfl (vx := (.int .i64 ((p : Nat) : Int))) (vy := (.int .i64 ((p : Nat) : Int))) (by kernel_rfl) (by kernel_rfl) fun w => bn_eql (decide_eq_true rfl) w) ?_
          refine lm (v := .bool true) rfl rfl ?_
          refine lm (v := .bool true) rfl rfl ?_
          refine wpL_done (fun W12 hW12 => ?_)
          refine (show Code.wp _ _ _ _ _ from ?_)
          refine wp_ret ?_
          try simp only [inBlock_ret, then_ret]
          refine bodyPost_ret (v := .bool true) ?_ rfl ?_
          · kernel_rfl
          · exact ⟨rfl, (Below.trans hbz3 (Below.mono (hW12).1 hbz3.size))⟩
        | true =>
          have h1 : er = 41 := of_decide_eq_true hd1
          clear hd1
          refine lm (v := .int .i64 (((p + 1) : Nat) : Int)) rfl rfl ?_
          refine lm (v := .int .i64 ((p : Nat) : Int)) rfl rfl ?_
          refine lp (v := .int .i64 (((p + 1) : Nat) : Int)) rfl rfl (run_bin rfl (vx := (.int .i64 ((p : Nat) : Int))) (vy := (.int .i64 ((1 : Nat) : Int))) (by kernel_rfl) (by kernel_rfl) fun w => bn_add (z := (p + 1)) rfl (wr_i64 (by omega)) w) ?_
          refine lp (v := .bool true) rfl rfl (run_bin rfl (vx := (.int .i64 (((p + 1) : Nat) : Int))) (vy := (.int .i64 (((p + 1) : Nat) : Int))) (by kernel_rfl) (by kernel_rfl) fun w => bn_eql (decide_eq_true rfl) w) ?_
          refine lm (v := .bool true) rfl rfl ?_
          refine wpL_done (fun W13 hW13 => ?_)
          refine (show Code.wp _ _ _ _ _ from ?_)
          refine wp_cond_true rfl ?_
          refine wp_seq ?_
          refine wp_region_L (W0 := W6) [] (hW13) ?_
          refine lm (v := .bool true) rfl rfl ?_
          refine wpL_done (fun W14 hW14 => ?_)
          refine (show Code.wp _ _ _ _ _ from ?_)
          refine wp_ret ?_
          try simp only [inBlock_ret, then_ret]
          refine bodyPost_ret (v := .bool true) ?_ rfl ?_
          · kernel_rfl
          · exact ⟨rfl, (Below.trans hbz3 (Below.mono (hW14).1 hbz3.size))⟩
    · skip
      by_cases h63 : x.toNat = 63
      · rcases h2 with ⟨_, he, hend⟩ | h2
        · skip
          go_enter Try.func8, Try.ntmps8
          refine wp_seq ?_
          refine wp_region_L (W0 := w) [] (KS.start w) ?_
          refine lm (v := .bool false) rfl rfl ?_
          refine wpL_done (fun W1 hW1 => ?_)
          refine (show Code.wp _ _ _ _ _ from ?_)
          refine wp_seq ?_
          refine wp_seq ?_
          refine wp_region_L (W0 := w) [] (hW1) ?_
          refine lv (v := .bool true) rfl rfl (yb_call (f := 10) (args := #[]) (fun _ => by kernel_rfl) fun W hW => awake_any W) ?_
          refine lm (v := .bool false) rfl rfl ?_
          refine wpL_done (fun W2 hW2 => ?_)
          refine (show Code.wp _ _ _ _ _ from ?_)
          refine wp_cond_false rfl ?_
          refine wp_skip ?_
          refine (show Code.wp _ _ _ _ _ from ?_)
          refine wp_seq ?_
          refine wp_seq ?_
          refine wp_region_L (W0 := w) [] (hW2) ?_
          refine lm (v := strV t) rfl rfl ?_
          refine lp (v := .int .i64 ((t.length : Nat) : Int)) rfl rfl (run_lenS (l := t) rfl Try.underlying9 (by kernel_rfl)) ?_
          refine lp (v := .bool false) rfl rfl (run_bin rfl (vx := (.int .i64 ((t.length : Nat) : Int))) (vy := (.int .i64 ((2000 : Nat) : Int))) (by kernel_rfl) (by kernel_rfl) fun w => bn_gtr (decide_eq_false hl) w) ?_
          refine lm (v := .bool false) rfl rfl ?_
          refine lm (v := strV o) rfl rfl ?_
          refine lp (v := .int .i64 ((o.length : Nat) : Int)) rfl rfl (run_lenS (l := o) rfl Try.underlying9 (by kernel_rfl)) ?_
          refine lp (v := .bool false) rfl rfl (run_bin rfl (vx := (.int .i64 ((o.length : Nat) : Int))) (vy := (.int .i64 ((2000 : Nat) : Int))) (by kernel_rfl) (by kernel_rfl) fun w => bn_gtr (decide_eq_false hl2) w) ?_
          refine lm (v := .bool false) rfl rfl ?_
          refine wpL_done (fun W3 hW3 => ?_)
          refine (show Code.wp _ _ _ _ _ from ?_)
          refine wp_cond_false rfl ?_
          refine wp_skip ?_
          refine (show Code.wp _ _ _ _ _ from ?_)
          refine wp_seq ?_
          refine wp_region_L (W0 := w) [] (hW3) ?_
          refine lm (v := strV t) rfl rfl ?_
          refine wpL_c (f := 15) (args := #[strV t]) (fun v Tz => v = .tuple #[.slice none 0 0, .int .i64 ((p : Nat) : Int), .int .i64 ((er : Nat) : Int)] ∧ Tz = []) rfl (by kernel_rfl) (fun _ => (by kernel_rfl)) (fun W hW => Read_bad hr (by first | omega | (simp only [List.length_append, List.length_cons, List.length_nil]; omega)) W (hW.sub (fun _ h => by cases h))) (fun _ => by simp only [List.setIfInBounds_toArray, List.set_cons_succ, List.set_cons_zero] <;> rfl) ?_
          rintro _ _ ⟨rfl, rfl⟩
          refine lm (v := .tuple #[.slice none 0 0, .int .i64 ((p : Nat) : Int), .int .i64 ((er : Nat) : Int)]) rfl rfl ?_
          refine lm (v := .slice none 0 0) rfl rfl ?_
          refine lm (v := .int .i64 ((p : Nat) : Int)) rfl rfl ?_
          refine lm (v := .int .i64 ((er : Nat) : Int)) rfl rfl ?_
          refine lm (v := .slice none 0 0) rfl rfl ?_
          refine lm (v := .int .i64 ((p : Nat) : Int)) rfl rfl ?_
          refine lm (v := .int .i64 ((er : Nat) : Int)) rfl rfl ?_
          refine wpL_done (fun W4 hW4 => ?_)
          refine (show Code.wp _ _ _ _ _ from ?_)
          refine wp_seq ?_
          refine wp_seq ?_
          refine wp_region_L (W0 := w) [] (hW4) ?_
          refine lm (v := .int .i64 ((er : Nat) : Int)) rfl rfl ?_
          refine lp (v := .bool false) rfl rfl (run_bin rfl (vx := (.int .i64 ((er : Nat) : Int))) (vy := (.int .i64 ((0 : Nat) : Int))) (by kernel_rfl) (by kernel_rfl) fun w => bn_eql (decide_eq_false hne) w) ?_
          refine lm (v := .bool false) rfl rfl ?_
          refine lm (v := .int .i64 ((er : Nat) : Int)) rfl rfl ?_
          refine lp (v := .bool false) rfl rfl (run_bin rfl (vx := (.int .i64 ((er : Nat) : Int))) (vy := (.int .i64 ((42 : Nat) : Int))) (by kernel_rfl) (by kernel_rfl) fun w => bn_eql (decide_eq_false h42) w) ?_
          refine lm (v := .bool false) rfl rfl ?_
          refine wpL_done (fun W5 hW5 => ?_)
          refine (show Code.wp _ _ _ _ _ from ?_)
          refine wp_cond_false rfl ?_
          refine wp_skip ?_
          refine (show Code.wp _ _ _ _ _ from ?_)
          refine wp_seq ?_
          refine wp_region_L (W0 := w) [] (hW5) ?_
          refine lm (v := strV t) rfl rfl ?_
          refine lm (v := .int .i64 ((p : Nat) : Int)) rfl rfl ?_
          refine lp (v := strV (t.take p)) rfl rfl (run_slH (k2 := .i64) (l := t) (r := (t.take p)) (j := p) rfl Try.underlying9 (by kernel_rfl) (by kernel_rfl) (by omega) rfl) ?_
          refine wpL_c (f := 15) (args := #[strV (t.take p)]) (fun v Tz => v = .tuple #[.slice none 0 0, .int .i64 ((p : Nat) : Int), .int .i64 ((42 : Nat) : Int)] ∧ Tz = []) rfl (by kernel_rfl) (fun _ => (by kernel_rfl)) (fun W hW => Read_bad h1 (by omega) W (hW.sub (fun _ h => by cases h))) (fun _ => by simp only [List.setIfInBounds_toArray, List.set_cons_succ, List.set_cons_zero] <;> rfl) ?_
          rintro _ _ ⟨rfl, rfl⟩
          refine lm (v := .tuple #[.slice none 0 0, .int .i64 ((p : Nat) : Int), .int .i64 42]) rfl rfl ?_
          refine lm (v := .slice none 0 0) rfl rfl ?_
          refine lm (v := .int .i64 ((p : Nat) : Int)) rfl rfl ?_
          refine lm (v := .int .i64 42) rfl rfl ?_
          refine lm (v := .slice none 0 0) rfl rfl ?_
          refine lm (v := .int .i64 ((p : Nat) : Int)) rfl rfl ?_
          refine lm (v := .int .i64 42) rfl rfl ?_
          refine wpL_done (fun W6 hW6 => ?_)
          refine (show Code.wp _ _ _ _ _ from ?_)
          refine wp_seq ?_
          refine wp_seq ?_
          refine wp_region_L (W0 := w) [] (hW6) ?_
          refine lm (v := .int .i64 42) rfl rfl ?_
          refine lm (v := .bool true) rfl rfl ?_
          refine lm (v := .bool true) rfl rfl ?_
          refine lm (v := .int .i64 42) rfl rfl ?_
          refine lm (v := .bool false) rfl rfl ?_
          refine lm (v := .bool false) rfl rfl ?_
          refine lm (v := .int .i64 ((p : Nat) : Int)) rfl rfl ?_
          refine lm (v := .int .i64 ((p : Nat) : Int)) rfl rfl ?_
          refine lp (v := .bool false) rfl rfl (run_bin rfl (vx := (.int .i64 ((p : Nat) : Int))) (vy := (.int .i64 ((p : Nat) : Int))) (by kernel_rfl) (by kernel_rfl) fun w => bn_neq (decide_eq_true rfl) w) ?_
          refine lm (v := .bool false) rfl rfl ?_
          refine lm (v := .bool false) rfl rfl ?_
          refine wpL_done (fun W7 hW7 => ?_)
          refine (show Code.wp _ _ _ _ _ from ?_)
          refine wp_cond_false rfl ?_
          refine wp_skip ?_
          refine (show Code.wp _ _ _ _ _ from ?_)
          refine wp_seq ?_
          refine wp_region_L (W0 := w) [] (hW7) ?_
          refine lm (v := .int .i64 ((p : Nat) : Int)) rfl rfl ?_
          refine lp (v := .int .i64 (((p + 1) : Nat) : Int)) rfl rfl (run_bin rfl (vx := (.int .i64 ((p : Nat) : Int))) (vy := (.int .i64 ((1 : Nat) : Int))) (by kernel_rfl) (by kernel_rfl) fun w => bn_add (z := (p + 1)) rfl (wr_i64 (by omega)) w) ?_
          refine lm (v := .int .i64 (((p + 1) : Nat) : Int)) rfl rfl ?_
          refine wpL_done (fun W8 hW8 => ?_)
          refine (show Code.wp _ _ _ _ _ from ?_)
          refine wp_seq ?_
          refine wp_seq ?_
          refine wp_region_L (W0 := w) [] (hW8) ?_
          refine lm (v := strV t) rfl rfl ?_
          refine lm (v := .int .i64 ((p : Nat) : Int)) rfl rfl ?_
          refine lp (v := .int .u8 ((x.toNat : Nat) : Int)) rfl rfl (run_idxS (j := .i64) (l := t) (k := p) (b := x) rfl Try.underlying9 (by kernel_rfl) (by kernel_rfl) hx) ?_
          refine lp (v := .bool true) rfl rfl (run_bin rfl (vx := (.int .u8 ((x.toNat : Nat) : Int))) (vy := (.int .u8 ((63 : Nat) : Int))) (by kernel_rfl) (by kernel_rfl) fun w => bn_eql (decide_eq_true h63) w) ?_
          refine wpL_done (fun W9 hW9 => ?_)
          refine (show Code.wp _ _ _ _ _ from ?_)
          refine wp_cond_true rfl ?_
          refine wp_region_L (W0 := w) [] (hW9) ?_
          refine lm (v := .int .i64 ((p : Nat) : Int)) rfl rfl ?_
          refine lp (v := .int .i64 (((p + 2) : Nat) : Int)) rfl rfl (run_bin rfl (vx := (.int .i64 ((p : Nat) : Int))) (vy := (.int .i64 ((2 : Nat) : Int))) (by kernel_rfl) (by kernel_rfl) fun w => bn_add (z := (p + 2)) rfl (wr_i64 (by omega)) w) ?_
          refine lm (v := strV t) rfl rfl ?_
          refine lp (v := .int .i64 ((t.length : Nat) : Int)) rfl rfl (run_lenS (l := t) rfl Try.underlying9 (by kernel_rfl)) ?_
          refine lp (v := .int .i64 ((t.length : Nat) : Int)) rfl rfl (run_minR (k := .i64) (k2 := .i64) (u := (((p + 2) : Nat) : Int)) (v := ((t.length : Nat) : Int)) rfl (by kernel_rfl) (by kernel_rfl) (by rw [if_pos (by omega)])) ?_
          refine lm (v := .int .i64 ((t.length : Nat) : Int)) rfl rfl ?_
          refine wpL_done (fun W10 hW10 => ?_)
          refine (show Code.wp _ _ _ _ _ from ?_)
          refine wp_seq ?_
          refine wp_seq ?_
          refine wp_region_L (W0 := w) [] (hW10) ?_
          refine lm (v := .int .i64 ((er : Nat) : Int)) rfl rfl ?_
          refine lp (v := .bool true) rfl rfl (run_bin rfl (vx := (.int .i64 ((er : Nat) : Int))) (vy := (.int .i64 ((41 : Nat) : Int))) (by kernel_rfl) (by kernel_rfl) fun w => bn_eql (decide_eq_true he) w) ?_
          refine lm (v := .bool true) rfl rfl ?_
          refine lm (v := .int .i64 ((t.length : Nat) : Int)) rfl rfl ?_
          refine lm (v := .int .i64 ((p : Nat) : Int)) rfl rfl ?_
          refine lp (v := .int .i64 (((p + 1) : Nat) : Int)) rfl rfl (run_bin rfl (vx := (.int .i64 ((p : Nat) : Int))) (vy := (.int .i64 ((1 : Nat) : Int))) (by kernel_rfl) (by kernel_rfl) fun w => bn_add (z := (p + 1)) rfl (wr_i64 (by omega)) w) ?_
          refine lp (v := .bool true) rfl rfl (run_bin rfl (vx := (.int .i64 ((t.length : Nat) : Int))) (vy := (.int .i64 (((p + 1) : Nat) : Int))) (by kernel_rfl) (by kernel_rfl) fun w => bn_eql (decide_eq_true hend.symm) w) ?_
          refine lm (v := .bool true) rfl rfl ?_
          refine wpL_done (fun W11 hW11 => ?_)
          refine (show Code.wp _ _ _ _ _ from ?_)
          refine wp_cond_true rfl ?_
          refine wp_seq ?_
          refine wp_region_L (W0 := w) [] (hW11) ?_
          refine lm (v := .bool true) rfl rfl ?_
          refine wpL_done (fun W12 hW12 => ?_)
          refine (show Code.wp _ _ _ _ _ from ?_)
          refine wp_ret ?_
          try simp only [inBlock_ret, then_ret]
          refine bodyPost_ret (v := .bool true) ?_ rfl ?_
          · kernel_rfl
          · exact ⟨rfl, (hW12).1⟩
        by_cases hend : t.length < p + 2
        · by_cases he : er = 41
          · skip
            go_enter Try.func8, Try.ntmps8
            refine wp_seq ?_
            refine wp_region_L (W0 := w) [] (KS.start w) ?_
            refine lm (v := .bool false) rfl rfl ?_
            refine wpL_done (fun W1 hW1 => ?_)
            refine (show Code.wp _ _ _ _ _ from ?_)
            refine wp_seq ?_
            refine wp_seq ?_
            refine wp_region_L (W0 := w) [] (hW1) ?_
            refine lv (v := .bool true) rfl rfl (yb_call (f := 10) (args := #[]) (fun _ => by kernel_rfl) fun W hW => awake_any W) ?_
            refine lm (v := .bool false) rfl rfl ?_
            refine wpL_done (fun W2 hW2 => ?_)
            refine (show Code.wp _ _ _ _ _ from ?_)
            refine wp_cond_false rfl ?_
            refine wp_skip ?_
            refine (show Code.wp _ _ _ _ _ from ?_)
            refine wp_seq ?_
            refine wp_seq ?_
            refine wp_region_L (W0 := w) [] (hW2) ?_
            refine lm (v := strV t) rfl rfl ?_
            refine lp (v := .int .i64 ((t.length : Nat) : Int)) rfl rfl (run_lenS (l := t) rfl Try.underlying9 (by kernel_rfl)) ?_
            refine lp (v := .bool false) rfl rfl (run_bin rfl (vx := (.int .i64 ((t.length : Nat) : Int))) (vy := (.int .i64 ((2000 : Nat) : Int))) (by kernel_rfl) (by kernel_rfl) fun w => bn_gtr (decide_eq_false hl) w) ?_
            refine lm (v := .bool false) rfl rfl ?_
            refine lm (v := strV o) rfl rfl ?_
            refine lp (v := .int .i64 ((o.length : Nat) : Int)) rfl rfl (run_lenS (l := o) rfl Try.underlying9 (by kernel_rfl)) ?_
            refine lp (v := .bool false) rfl rfl (run_bin rfl (vx := (.int .i64 ((o.length : Nat) : Int))) (vy := (.int .i64 ((2000 : Nat) : Int))) (by kernel_rfl) (by kernel_rfl) fun w => bn_gtr (decide_eq_false hl2) w) ?_
            refine lm (v := .bool false) rfl rfl ?_
            refine wpL_done (fun W3 hW3 => ?_)
            refine (show Code.wp _ _ _ _ _ from ?_)
            refine wp_cond_false rfl ?_
            refine wp_skip ?_
            refine (show Code.wp _ _ _ _ _ from ?_)
            refine wp_seq ?_
            refine wp_region_L (W0 := w) [] (hW3) ?_
            refine lm (v := strV t) rfl rfl ?_
            refine wpL_c (f := 15) (args := #[strV t]) (fun v Tz => v = .tuple #[.slice none 0 0, .int .i64 ((p : Nat) : Int), .int .i64 ((er : Nat) : Int)] ∧ Tz = []) rfl (by kernel_rfl) (fun _ => (by kernel_rfl)) (fun W hW => Read_bad hr (by first | omega | (simp only [List.length_append, List.length_cons, List.length_nil]; omega)) W (hW.sub (fun _ h => by cases h))) (fun _ => by simp only [List.setIfInBounds_toArray, List.set_cons_succ, List.set_cons_zero] <;> rfl) ?_
            rintro _ _ ⟨rfl, rfl⟩
            refine lm (v := .tuple #[.slice none 0 0, .int .i64 ((p : Nat) : Int), .int .i64 ((er : Nat) : Int)]) rfl rfl ?_
            refine lm (v := .slice none 0 0) rfl rfl ?_
            refine lm (v := .int .i64 ((p : Nat) : Int)) rfl rfl ?_
            refine lm (v := .int .i64 ((er : Nat) : Int)) rfl rfl ?_
            refine lm (v := .slice none 0 0) rfl rfl ?_
            refine lm (v := .int .i64 ((p : Nat) : Int)) rfl rfl ?_
            refine lm (v := .int .i64 ((er : Nat) : Int)) rfl rfl ?_
            refine wpL_done (fun W4 hW4 => ?_)
            refine (show Code.wp _ _ _ _ _ from ?_)
            refine wp_seq ?_
            refine wp_seq ?_
            refine wp_region_L (W0 := w) [] (hW4) ?_
            refine lm (v := .int .i64 ((er : Nat) : Int)) rfl rfl ?_
            refine lp (v := .bool false) rfl rfl (run_bin rfl (vx := (.int .i64 ((er : Nat) : Int))) (vy := (.int .i64 ((0 : Nat) : Int))) (by kernel_rfl) (by kernel_rfl) fun w => bn_eql (decide_eq_false hne) w) ?_
            refine lm (v := .bool false) rfl rfl ?_
            refine lm (v := .int .i64 ((er : Nat) : Int)) rfl rfl ?_
            refine lp (v := .bool false) rfl rfl (run_bin rfl (vx := (.int .i64 ((er : Nat) : Int))) (vy := (.int .i64 ((42 : Nat) : Int))) (by kernel_rfl) (by kernel_rfl) fun w => bn_eql (decide_eq_false h42) w) ?_
            refine lm (v := .bool false) rfl rfl ?_
            refine wpL_done (fun W5 hW5 => ?_)
            refine (show Code.wp _ _ _ _ _ from ?_)
            refine wp_cond_false rfl ?_
            refine wp_skip ?_
            refine (show Code.wp _ _ _ _ _ from ?_)
            refine wp_seq ?_
            refine wp_region_L (W0 := w) [] (hW5) ?_
            refine lm (v := strV t) rfl rfl ?_
            refine lm (v := .int .i64 ((p : Nat) : Int)) rfl rfl ?_
            refine lp (v := strV (t.take p)) rfl rfl (run_slH (k2 := .i64) (l := t) (r := (t.take p)) (j := p) rfl Try.underlying9 (by kernel_rfl) (by kernel_rfl) (by omega) rfl) ?_
            refine wpL_c (f := 15) (args := #[strV (t.take p)]) (fun v Tz => v = .tuple #[.slice none 0 0, .int .i64 ((p : Nat) : Int), .int .i64 ((42 : Nat) : Int)] ∧ Tz = []) rfl (by kernel_rfl) (fun _ => (by kernel_rfl)) (fun W hW => Read_bad h1 (by omega) W (hW.sub (fun _ h => by cases h))) (fun _ => by simp only [List.setIfInBounds_toArray, List.set_cons_succ, List.set_cons_zero] <;> rfl) ?_
            rintro _ _ ⟨rfl, rfl⟩
            refine lm (v := .tuple #[.slice none 0 0, .int .i64 ((p : Nat) : Int), .int .i64 42]) rfl rfl ?_
            refine lm (v := .slice none 0 0) rfl rfl ?_
            refine lm (v := .int .i64 ((p : Nat) : Int)) rfl rfl ?_
            refine lm (v := .int .i64 42) rfl rfl ?_
            refine lm (v := .slice none 0 0) rfl rfl ?_
            refine lm (v := .int .i64 ((p : Nat) : Int)) rfl rfl ?_
            refine lm (v := .int .i64 42) rfl rfl ?_
            refine wpL_done (fun W6 hW6 => ?_)
            refine (show Code.wp _ _ _ _ _ from ?_)
            refine wp_seq ?_
            refine wp_seq ?_
            refine wp_region_L (W0 := w) [] (hW6) ?_
            refine lm (v := .int .i64 42) rfl rfl ?_
            refine lm (v := .bool true) rfl rfl ?_
            refine lm (v := .bool true) rfl rfl ?_
            refine lm (v := .int .i64 42) rfl rfl ?_
            refine lm (v := .bool false) rfl rfl ?_
            refine lm (v := .bool false) rfl rfl ?_
            refine lm (v := .int .i64 ((p : Nat) : Int)) rfl rfl ?_
            refine lm (v := .int .i64 ((p : Nat) : Int)) rfl rfl ?_
            refine lp (v := .bool false) rfl rfl (run_bin rfl (vx := (.int .i64 ((p : Nat) : Int))) (vy := (.int .i64 ((p : Nat) : Int))) (by kernel_rfl) (by kernel_rfl) fun w => bn_neq (decide_eq_true rfl) w) ?_
            refine lm (v := .bool false) rfl rfl ?_
            refine lm (v := .bool false) rfl rfl ?_
            refine wpL_done (fun W7 hW7 => ?_)
            refine (show Code.wp _ _ _ _ _ from ?_)
            refine wp_cond_false rfl ?_
            refine wp_skip ?_
            refine (show Code.wp _ _ _ _ _ from ?_)
            refine wp_seq ?_
            refine wp_region_L (W0 := w) [] (hW7) ?_
            refine lm (v := .int .i64 ((p : Nat) : Int)) rfl rfl ?_
            refine lp (v := .int .i64 (((p + 1) : Nat) : Int)) rfl rfl (run_bin rfl (vx := (.int .i64 ((p : Nat) : Int))) (vy := (.int .i64 ((1 : Nat) : Int))) (by kernel_rfl) (by kernel_rfl) fun w => bn_add (z := (p + 1)) rfl (wr_i64 (by omega)) w) ?_
            refine lm (v := .int .i64 (((p + 1) : Nat) : Int)) rfl rfl ?_
            refine wpL_done (fun W8 hW8 => ?_)
            refine (show Code.wp _ _ _ _ _ from ?_)
            refine wp_seq ?_
            refine wp_seq ?_
            refine wp_region_L (W0 := w) [] (hW8) ?_
            refine lm (v := strV t) rfl rfl ?_
            refine lm (v := .int .i64 ((p : Nat) : Int)) rfl rfl ?_
            refine lp (v := .int .u8 ((x.toNat : Nat) : Int)) rfl rfl (run_idxS (j := .i64) (l := t) (k := p) (b := x) rfl Try.underlying9 (by kernel_rfl) (by kernel_rfl) hx) ?_
            refine lp (v := .bool true) rfl rfl (run_bin rfl (vx := (.int .u8 ((x.toNat : Nat) : Int))) (vy := (.int .u8 ((63 : Nat) : Int))) (by kernel_rfl) (by kernel_rfl) fun w => bn_eql (decide_eq_true h63) w) ?_
            refine wpL_done (fun W9 hW9 => ?_)
            refine (show Code.wp _ _ _ _ _ from ?_)
            refine wp_cond_true rfl ?_
            refine wp_region_L (W0 := w) [] (hW9) ?_
            refine lm (v := .int .i64 ((p : Nat) : Int)) rfl rfl ?_
            refine lp (v := .int .i64 (((p + 2) : Nat) : Int)) rfl rfl (run_bin rfl (vx := (.int .i64 ((p : Nat) : Int))) (vy := (.int .i64 ((2 : Nat) : Int))) (by kernel_rfl) (by kernel_rfl) fun w => bn_add (z := (p + 2)) rfl (wr_i64 (by omega)) w) ?_
            refine lm (v := strV t) rfl rfl ?_
            refine lp (v := .int .i64 ((t.length : Nat) : Int)) rfl rfl (run_lenS (l := t) rfl Try.underlying9 (by kernel_rfl)) ?_
            refine lp (v := .int .i64 ((t.length : Nat) : Int)) rfl rfl (run_minR (k := .i64) (k2 := .i64) (u := (((p + 2) : Nat) : Int)) (v := ((t.length : Nat) : Int)) rfl (by kernel_rfl) (by kernel_rfl) (by rw [if_pos (by omega)])) ?_
            refine lm (v := .int .i64 ((t.length : Nat) : Int)) rfl rfl ?_
            refine wpL_done (fun W10 hW10 => ?_)
            refine (show Code.wp _ _ _ _ _ from ?_)
            refine wp_seq ?_
            refine wp_seq ?_
            refine wp_region_L (W0 := w) [] (hW10) ?_
            refine lm (v := .int .i64 ((er : Nat) : Int)) rfl rfl ?_
            refine lp (v := .bool true) rfl rfl (run_bin rfl (vx := (.int .i64 ((er : Nat) : Int))) (vy := (.int .i64 ((41 : Nat) : Int))) (by kernel_rfl) (by kernel_rfl) fun w => bn_eql (decide_eq_true he) w) ?_
            refine lm (v := .bool true) rfl rfl ?_
            refine lm (v := .int .i64 ((t.length : Nat) : Int)) rfl rfl ?_
            refine lm (v := .int .i64 ((p : Nat) : Int)) rfl rfl ?_
            refine lp (v := .int .i64 (((p + 1) : Nat) : Int)) rfl rfl (run_bin rfl (vx := (.int .i64 ((p : Nat) : Int))) (vy := (.int .i64 ((1 : Nat) : Int))) (by kernel_rfl) (by kernel_rfl) fun w => bn_add (z := (p + 1)) rfl (wr_i64 (by omega)) w) ?_
            refine lp (v := .bool true) rfl rfl (run_bin rfl (vx := (.int .i64 ((t.length : Nat) : Int))) (vy := (.int .i64 (((p + 1) : Nat) : Int))) (by kernel_rfl) (by kernel_rfl) fun w => bn_eql (decide_eq_true (by omega)) w) ?_
            refine lm (v := .bool true) rfl rfl ?_
            refine wpL_done (fun W11 hW11 => ?_)
            refine (show Code.wp _ _ _ _ _ from ?_)
            refine wp_cond_true rfl ?_
            refine wp_seq ?_
            refine wp_region_L (W0 := w) [] (hW11) ?_
            refine lm (v := .bool true) rfl rfl ?_
            refine wpL_done (fun W12 hW12 => ?_)
            refine (show Code.wp _ _ _ _ _ from ?_)
            refine wp_ret ?_
            try simp only [inBlock_ret, then_ret]
            refine bodyPost_ret (v := .bool true) ?_ rfl ?_
            · kernel_rfl
            · exact ⟨rfl, (hW12).1⟩
          exact absurd (last_q hr hx h63 (by omega) (by omega)) he
        have h3 : readT (t.take (p + 2) ++ o) = .bad p er := h2 (p + 2) o (by omega) (fun _ => by omega) (by rw [List.length_append, List.length_take]; omega) (by omega)
        go_enter Try.func8, Try.ntmps8
        refine wp_seq ?_
        refine wp_region_L (W0 := w) [] (KS.start w) ?_
        refine lm (v := .bool false) rfl rfl ?_
        refine wpL_done (fun W1 hW1 => ?_)
        refine (show Code.wp _ _ _ _ _ from ?_)
        refine wp_seq ?_
        refine wp_seq ?_
        refine wp_region_L (W0 := w) [] (hW1) ?_
        refine lv (v := .bool true) rfl rfl (yb_call (f := 10) (args := #[]) (fun _ => by kernel_rfl) fun W hW => awake_any W) ?_
        refine lm (v := .bool false) rfl rfl ?_
        refine wpL_done (fun W2 hW2 => ?_)
        refine (show Code.wp _ _ _ _ _ from ?_)
        refine wp_cond_false rfl ?_
        refine wp_skip ?_
        refine (show Code.wp _ _ _ _ _ from ?_)
        refine wp_seq ?_
        refine wp_seq ?_
        refine wp_region_L (W0 := w) [] (hW2) ?_
        refine lm (v := strV t) rfl rfl ?_
        refine lp (v := .int .i64 ((t.length : Nat) : Int)) rfl rfl (run_lenS (l := t) rfl Try.underlying9 (by kernel_rfl)) ?_
        refine lp (v := .bool false) rfl rfl (run_bin rfl (vx := (.int .i64 ((t.length : Nat) : Int))) (vy := (.int .i64 ((2000 : Nat) : Int))) (by kernel_rfl) (by kernel_rfl) fun w => bn_gtr (decide_eq_false hl) w) ?_
        refine lm (v := .bool false) rfl rfl ?_
        refine lm (v := strV o) rfl rfl ?_
        refine lp (v := .int .i64 ((o.length : Nat) : Int)) rfl rfl (run_lenS (l := o) rfl Try.underlying9 (by kernel_rfl)) ?_
        refine lp (v := .bool false) rfl rfl (run_bin rfl (vx := (.int .i64 ((o.length : Nat) : Int))) (vy := (.int .i64 ((2000 : Nat) : Int))) (by kernel_rfl) (by kernel_rfl) fun w => bn_gtr (decide_eq_false hl2) w) ?_
        refine lm (v := .bool false) rfl rfl ?_
        refine wpL_done (fun W3 hW3 => ?_)
        refine (show Code.wp _ _ _ _ _ from ?_)
        refine wp_cond_false rfl ?_
        refine wp_skip ?_
        refine (show Code.wp _ _ _ _ _ from ?_)
        refine wp_seq ?_
        refine wp_region_L (W0 := w) [] (hW3) ?_
        refine lm (v := strV t) rfl rfl ?_
        refine wpL_c (f := 15) (args := #[strV t]) (fun v Tz => v = .tuple #[.slice none 0 0, .int .i64 ((p : Nat) : Int), .int .i64 ((er : Nat) : Int)] ∧ Tz = []) rfl (by kernel_rfl) (fun _ => (by kernel_rfl)) (fun W hW => Read_bad hr (by first | omega | (simp only [List.length_append, List.length_cons, List.length_nil]; omega)) W (hW.sub (fun _ h => by cases h))) (fun _ => by simp only [List.setIfInBounds_toArray, List.set_cons_succ, List.set_cons_zero] <;> rfl) ?_
        rintro _ _ ⟨rfl, rfl⟩
        refine lm (v := .tuple #[.slice none 0 0, .int .i64 ((p : Nat) : Int), .int .i64 ((er : Nat) : Int)]) rfl rfl ?_
        refine lm (v := .slice none 0 0) rfl rfl ?_
        refine lm (v := .int .i64 ((p : Nat) : Int)) rfl rfl ?_
        refine lm (v := .int .i64 ((er : Nat) : Int)) rfl rfl ?_
        refine lm (v := .slice none 0 0) rfl rfl ?_
        refine lm (v := .int .i64 ((p : Nat) : Int)) rfl rfl ?_
        refine lm (v := .int .i64 ((er : Nat) : Int)) rfl rfl ?_
        refine wpL_done (fun W4 hW4 => ?_)
        refine (show Code.wp _ _ _ _ _ from ?_)
        refine wp_seq ?_
        refine wp_seq ?_
        refine wp_region_L (W0 := w) [] (hW4) ?_
        refine lm (v := .int .i64 ((er : Nat) : Int)) rfl rfl ?_
        refine lp (v := .bool false) rfl rfl (run_bin rfl (vx := (.int .i64 ((er : Nat) : Int))) (vy := (.int .i64 ((0 : Nat) : Int))) (by kernel_rfl) (by kernel_rfl) fun w => bn_eql (decide_eq_false hne) w) ?_
        refine lm (v := .bool false) rfl rfl ?_
        refine lm (v := .int .i64 ((er : Nat) : Int)) rfl rfl ?_
        refine lp (v := .bool false) rfl rfl (run_bin rfl (vx := (.int .i64 ((er : Nat) : Int))) (vy := (.int .i64 ((42 : Nat) : Int))) (by kernel_rfl) (by kernel_rfl) fun w => bn_eql (decide_eq_false h42) w) ?_
        refine lm (v := .bool false) rfl rfl ?_
        refine wpL_done (fun W5 hW5 => ?_)
        refine (show Code.wp _ _ _ _ _ from ?_)
        refine wp_cond_false rfl ?_
        refine wp_skip ?_
        refine (show Code.wp _ _ _ _ _ from ?_)
        refine wp_seq ?_
        refine wp_region_L (W0 := w) [] (hW5) ?_
        refine lm (v := strV t) rfl rfl ?_
        refine lm (v := .int .i64 ((p : Nat) : Int)) rfl rfl ?_
        refine lp (v := strV (t.take p)) rfl rfl (run_slH (k2 := .i64) (l := t) (r := (t.take p)) (j := p) rfl Try.underlying9 (by kernel_rfl) (by kernel_rfl) (by omega) rfl) ?_
        refine wpL_c (f := 15) (args := #[strV (t.take p)]) (fun v Tz => v = .tuple #[.slice none 0 0, .int .i64 ((p : Nat) : Int), .int .i64 ((42 : Nat) : Int)] ∧ Tz = []) rfl (by kernel_rfl) (fun _ => (by kernel_rfl)) (fun W hW => Read_bad h1 (by omega) W (hW.sub (fun _ h => by cases h))) (fun _ => by simp only [List.setIfInBounds_toArray, List.set_cons_succ, List.set_cons_zero] <;> rfl) ?_
        rintro _ _ ⟨rfl, rfl⟩
        refine lm (v := .tuple #[.slice none 0 0, .int .i64 ((p : Nat) : Int), .int .i64 42]) rfl rfl ?_
        refine lm (v := .slice none 0 0) rfl rfl ?_
        refine lm (v := .int .i64 ((p : Nat) : Int)) rfl rfl ?_
        refine lm (v := .int .i64 42) rfl rfl ?_
        refine lm (v := .slice none 0 0) rfl rfl ?_
        refine lm (v := .int .i64 ((p : Nat) : Int)) rfl rfl ?_
        refine lm (v := .int .i64 42) rfl rfl ?_
        refine wpL_done (fun W6 hW6 => ?_)
        refine (show Code.wp _ _ _ _ _ from ?_)
        refine wp_seq ?_
        refine wp_seq ?_
        refine wp_region_L (W0 := w) [] (hW6) ?_
        refine lm (v := .int .i64 42) rfl rfl ?_
        refine lm (v := .bool true) rfl rfl ?_
        refine lm (v := .bool true) rfl rfl ?_
        refine lm (v := .int .i64 42) rfl rfl ?_
        refine lm (v := .bool false) rfl rfl ?_
        refine lm (v := .bool false) rfl rfl ?_
        refine lm (v := .int .i64 ((p : Nat) : Int)) rfl rfl ?_
        refine lm (v := .int .i64 ((p : Nat) : Int)) rfl rfl ?_
        refine lp (v := .bool false) rfl rfl (run_bin rfl (vx := (.int .i64 ((p : Nat) : Int))) (vy := (.int .i64 ((p : Nat) : Int))) (by kernel_rfl) (by kernel_rfl) fun w => bn_neq (decide_eq_true rfl) w) ?_
        refine lm (v := .bool false) rfl rfl ?_
        refine lm (v := .bool false) rfl rfl ?_
        refine wpL_done (fun W7 hW7 => ?_)
        refine (show Code.wp _ _ _ _ _ from ?_)
        refine wp_cond_false rfl ?_
        refine wp_skip ?_
        refine (show Code.wp _ _ _ _ _ from ?_)
        refine wp_seq ?_
        refine wp_region_L (W0 := w) [] (hW7) ?_
        refine lm (v := .int .i64 ((p : Nat) : Int)) rfl rfl ?_
        refine lp (v := .int .i64 (((p + 1) : Nat) : Int)) rfl rfl (run_bin rfl (vx := (.int .i64 ((p : Nat) : Int))) (vy := (.int .i64 ((1 : Nat) : Int))) (by kernel_rfl) (by kernel_rfl) fun w => bn_add (z := (p + 1)) rfl (wr_i64 (by omega)) w) ?_
        refine lm (v := .int .i64 (((p + 1) : Nat) : Int)) rfl rfl ?_
        refine wpL_done (fun W8 hW8 => ?_)
        refine (show Code.wp _ _ _ _ _ from ?_)
        refine wp_seq ?_
        refine wp_seq ?_
        refine wp_region_L (W0 := w) [] (hW8) ?_
        refine lm (v := strV t) rfl rfl ?_
        refine lm (v := .int .i64 ((p : Nat) : Int)) rfl rfl ?_
        refine lp (v := .int .u8 ((x.toNat : Nat) : Int)) rfl rfl (run_idxS (j := .i64) (l := t) (k := p) (b := x) rfl Try.underlying9 (by kernel_rfl) (by kernel_rfl) hx) ?_
        refine lp (v := .bool true) rfl rfl (run_bin rfl (vx := (.int .u8 ((x.toNat : Nat) : Int))) (vy := (.int .u8 ((63 : Nat) : Int))) (by kernel_rfl) (by kernel_rfl) fun w => bn_eql (decide_eq_true h63) w) ?_
        refine wpL_done (fun W9 hW9 => ?_)
        refine (show Code.wp _ _ _ _ _ from ?_)
        refine wp_cond_true rfl ?_
        refine wp_region_L (W0 := w) [] (hW9) ?_
        refine lm (v := .int .i64 ((p : Nat) : Int)) rfl rfl ?_
        refine lp (v := .int .i64 (((p + 2) : Nat) : Int)) rfl rfl (run_bin rfl (vx := (.int .i64 ((p : Nat) : Int))) (vy := (.int .i64 ((2 : Nat) : Int))) (by kernel_rfl) (by kernel_rfl) fun w => bn_add (z := (p + 2)) rfl (wr_i64 (by omega)) w) ?_
        refine lm (v := strV t) rfl rfl ?_
        refine lp (v := .int .i64 ((t.length : Nat) : Int)) rfl rfl (run_lenS (l := t) rfl Try.underlying9 (by kernel_rfl)) ?_
        refine lp (v := .int .i64 (((p + 2) : Nat) : Int)) rfl rfl (run_minR (k := .i64) (k2 := .i64) (u := (((p + 2) : Nat) : Int)) (v := ((t.length : Nat) : Int)) rfl (by kernel_rfl) (by kernel_rfl) (by rw [if_neg (by omega)])) ?_
        refine lm (v := .int .i64 (((p + 2) : Nat) : Int)) rfl rfl ?_
        refine wpL_done (fun W10 hW10 => ?_)
        refine (show Code.wp _ _ _ _ _ from ?_)
        refine wp_seq ?_
        refine wp_seq ?_
        refine wp_region_L (W0 := w) [] (hW10) ?_
        refine lm (v := .int .i64 ((er : Nat) : Int)) rfl rfl ?_
        refine lp (v := .bool (decide (er = 41))) rfl rfl (run_bin rfl (vx := (.int .i64 ((er : Nat) : Int))) (vy := (.int .i64 ((41 : Nat) : Int))) (by kernel_rfl) (by kernel_rfl) fun w => bn_eql rfl w) ?_
        refine lm (v := .bool (decide (er = 41))) rfl rfl ?_
        cases hd1 : (decide (er = 41)) with
        | false =>
          have h1 : ¬ (er = 41) := of_decide_eq_false hd1
          clear hd1
          refine ln rfl ?_
          refine ln rfl ?_
          refine ln rfl ?_
          refine ln rfl ?_
          refine lm (v := .bool false) rfl rfl ?_
          refine wpL_done (fun W11 hW11 => ?_)
          refine (show Code.wp _ _ _ _ _ from ?_)
          refine wp_cond_false rfl ?_
          refine wp_skip ?_
          refine (show Code.wp _ _ _ _ _ from ?_)
          refine wp_seq ?_
          refine wp_region_L (W0 := w) [] (hW11) ?_
          refine lm (v := strV t) rfl rfl ?_
          refine lm (v := .int .i64 (((p + 2) : Nat) : Int)) rfl rfl ?_
          refine lp (v := strV (t.take (p + 2))) rfl rfl (run_slH (k2 := .i64) (l := t) (r := (t.take (p + 2))) (j := (p + 2)) rfl Try.underlying9 (by kernel_rfl) (by kernel_rfl) (by omega) rfl) ?_
          refine lm (v := strV o) rfl rfl ?_
          refine lp (v := strV ((t.take (p + 2)) ++ o)) rfl rfl (run_bin rfl (vx := strV (t.take (p + 2))) (vy := strV o) (by kernel_rfl) (by kernel_rfl) fun w => bs_add (c := ((t.take (p + 2)) ++ o)) rfl (by first | omega | (simp; omega)) w) ?_
          refine wpL_c (f := 15) (args := #[strV ((t.take (p + 2)) ++ o)]) (fun v Tz => v = .tuple #[.slice none 0 0, .int .i64 ((p : Nat) : Int), .int .i64 ((er : Nat) : Int)] ∧ Tz = []) rfl (by kernel_rfl) (fun _ => (by kernel_rfl)) (fun W hW => Read_bad h3 (by first | omega | (simp only [List.length_append, List.length_cons, List.length_nil]; omega)) W (hW.sub (fun _ h => by cases h))) (fun _ => by simp only [List.setIfInBounds_toArray, List.set_cons_succ, List.set_cons_zero] <;> rfl) ?_
          rintro _ _ ⟨rfl, rfl⟩
          refine lm (v := .tuple #[.slice none 0 0, .int .i64 ((p : Nat) : Int), .int .i64 ((er : Nat) : Int)]) rfl rfl ?_
          refine lm (v := .slice none 0 0) rfl rfl ?_
          refine lm (v := .int .i64 ((p : Nat) : Int)) rfl rfl ?_
          refine lm (v := .int .i64 ((er : Nat) : Int)) rfl rfl ?_
          refine lm (v := .int .i64 ((p : Nat) : Int)) rfl rfl ?_
          refine lm (v := .int .i64 ((er : Nat) : Int)) rfl rfl ?_
          refine wpL_done (fun W12 hW12 => ?_)
          refine (show Code.wp _ _ _ _ _ from ?_)
          refine wp_seq ?_
          refine wp_region_L (W0 := w) [] (hW12) ?_
          refine lm (v := .int .i64 ((er : Nat) : Int)) rfl rfl ?_
          refine lm (v := .int .i64 ((er : Nat) : Int)) rfl rfl ?_
          refine lp (v := .bool true) rfl rfl (run_bin rfl (vx := (.int .i64 ((er : Nat) : Int))) (vy := (.int .i64 ((er : Nat) : Int))) (by kernel_rfl) (by kernel_rfl) fun w => bn_eql (decide_eq_true rfl) w) ?_
          refine lm (v := .bool true) rfl rfl ?_
          refine lm (v := .int .i64 ((p : Nat) : Int)) rfl rfl ?_
          refine lm (v := .int .i64 ((p : Nat) : Int)) rfl rfl ?_
          refine lp (v := .bool true) rfl rfl (run_bin rfl (vx := (.int .i64 ((p : Nat) : Int))) (vy := (.int .i64 ((p : Nat) : Int))) (by kernel_rfl) (by kernel_rfl) fun w => bn_eql (decide_eq_true rfl) w) ?_
          refine lm (v := .bool true) rfl rfl ?_
          refine lm (v := .bool true) rfl rfl ?_
          refine wpL_done (fun W13 hW13 => ?_)
          refine (show Code.wp _ _ _ _ _ from ?_)
          refine wp_ret ?_
          try simp only [inBlock_ret, then_ret]
          refine bodyPost_ret (v := .bool true) ?_ rfl ?_
          · kernel_rfl
          · exact ⟨rfl, (hW13).1⟩
        | true =>
          have h1 : er = 41 := of_decide_eq_true hd1
          clear hd1
          refine lm (v := .int .i64 (((p + 2) : Nat) : Int)) rfl rfl ?_
          refine lm (v := .int .i64 ((p : Nat) : Int)) rfl rfl ?_
          refine lp (v := .int .i64 (((p + 1) : Nat) : Int)) rfl rfl (run_bin rfl (vx := (.int .i64 ((p : Nat) : Int))) (vy := (.int .i64 ((1 : Nat) : Int))) (by kernel_rfl) (by kernel_rfl) fun w => bn_add (z := (p + 1)) rfl (wr_i64 (by omega)) w) ?_
          refine lp (v := .bool false) rfl rfl (run_bin rfl (vx := (.int .i64 (((p + 2) : Nat) : Int))) (vy := (.int .i64 (((p + 1) : Nat) : Int))) (by kernel_rfl) (by kernel_rfl) fun w => bn_eql (decide_eq_false (by omega)) w) ?_
          refine lm (v := .bool false) rfl rfl ?_
          refine wpL_done (fun W14 hW14 => ?_)
          refine (show Code.wp _ _ _ _ _ from ?_)
          refine wp_cond_false rfl ?_
          refine wp_skip ?_
          refine (show Code.wp _ _ _ _ _ from ?_)
          refine wp_seq ?_
          refine wp_region_L (W0 := w) [] (hW14) ?_
          refine lm (v := strV t) rfl rfl ?_
          refine lm (v := .int .i64 (((p + 2) : Nat) : Int)) rfl rfl ?_
          refine lp (v := strV (t.take (p + 2))) rfl rfl (run_slH (k2 := .i64) (l := t) (r := (t.take (p + 2))) (j := (p + 2)) rfl Try.underlying9 (by kernel_rfl) (by kernel_rfl) (by omega) rfl) ?_
          refine lm (v := strV o) rfl rfl ?_
          refine lp (v := strV ((t.take (p + 2)) ++ o)) rfl rfl (run_bin rfl (vx := strV (t.take (p + 2))) (vy := strV o) (by kernel_rfl) (by kernel_rfl) fun w => bs_add (c := ((t.take (p + 2)) ++ o)) rfl (by first | omega | (simp; omega)) w) ?_
          refine wpL_c (f := 15) (args := #[strV ((t.take (p + 2)) ++ o)]) (fun v Tz => v = .tuple #[.slice none 0 0, .int .i64 ((p : Nat) : Int), .int .i64 ((er : Nat) : Int)] ∧ Tz = []) rfl (by kernel_rfl) (fun _ => (by kernel_rfl)) (fun W hW => Read_bad h3 (by first | omega | (simp only [List.length_append, List.length_cons, List.length_nil]; omega)) W (hW.sub (fun _ h => by cases h))) (fun _ => by simp only [List.setIfInBounds_toArray, List.set_cons_succ, List.set_cons_zero] <;> rfl) ?_
          rintro _ _ ⟨rfl, rfl⟩
          refine lm (v := .tuple #[.slice none 0 0, .int .i64 ((p : Nat) : Int), .int .i64 ((er : Nat) : Int)]) rfl rfl ?_
          refine lm (v := .slice none 0 0) rfl rfl ?_
          refine lm (v := .int .i64 ((p : Nat) : Int)) rfl rfl ?_
          refine lm (v := .int .i64 ((er : Nat) : Int)) rfl rfl ?_
          refine lm (v := .int .i64 ((p : Nat) : Int)) rfl rfl ?_
          refine lm (v := .int .i64 ((er : Nat) : Int)) rfl rfl ?_
          refine wpL_done (fun W15 hW15 => ?_)
          refine (show Code.wp _ _ _ _ _ from ?_)
          refine wp_seq ?_
          refine wp_region_L (W0 := w) [] (hW15) ?_
          refine lm (v := .int .i64 ((er : Nat) : Int)) rfl rfl ?_
          refine lm (v := .int .i64 ((er : Nat) : Int)) rfl rfl ?_
          refine lp (v := .bool true) rfl rfl (run_bin rfl (vx := (.int .i64 ((er : Nat) : Int))) (vy := (.int .i64 ((er : Nat) : Int))) (by kernel_rfl) (by kernel_rfl) fun w => bn_eql (decide_eq_true rfl) w) ?_
          refine lm (v := .bool true) rfl rfl ?_
          refine lm (v := .int .i64 ((p : Nat) : Int)) rfl rfl ?_
          refine lm (v := .int .i64 ((p : Nat) : Int)) rfl rfl ?_
          refine lp (v := .bool true) rfl rfl (run_bin rfl (vx := (.int .i64 ((p : Nat) : Int))) (vy := (.int .i64 ((p : Nat) : Int))) (by kernel_rfl) (by kernel_rfl) fun w => bn_eql (decide_eq_true rfl) w) ?_
          refine lm (v := .bool true) rfl rfl ?_
          refine lm (v := .bool true) rfl rfl ?_
          refine wpL_done (fun W16 hW16 => ?_)
          refine (show Code.wp _ _ _ _ _ from ?_)
          refine wp_ret ?_
          try simp only [inBlock_ret, then_ret]
          refine bodyPost_ret (v := .bool true) ?_ rfl ?_
          · kernel_rfl
          · exact ⟨rfl, (hW16).1⟩
      · rcases h2 with ⟨h, _⟩ | h2
        · exact absurd h h63
        have h3 : readT (t.take (p + 1) ++ o) = .bad p er := h2 (p + 1) o (Nat.le_refl _) (fun h => absurd h h63) (by rw [List.length_append, List.length_take]; omega) (by omega)
        go_enter Try.func8, Try.ntmps8
        refine wp_seq ?_
        refine wp_region_L (W0 := w) [] (KS.start w) ?_
        refine lm (v := .bool false) rfl rfl ?_
        refine wpL_done (fun W1 hW1 => ?_)
        refine (show Code.wp _ _ _ _ _ from ?_)
        refine wp_seq ?_
        refine wp_seq ?_
        refine wp_region_L (W0 := w) [] (hW1) ?_
        refine lv (v := .bool true) rfl rfl (yb_call (f := 10) (args := #[]) (fun _ => by kernel_rfl) fun W hW => awake_any W) ?_
        refine lm (v := .bool false) rfl rfl ?_
        refine wpL_done (fun W2 hW2 => ?_)
        refine (show Code.wp _ _ _ _ _ from ?_)
        refine wp_cond_false rfl ?_
        refine wp_skip ?_
        refine (show Code.wp _ _ _ _ _ from ?_)
        refine wp_seq ?_
        refine wp_seq ?_
        refine wp_region_L (W0 := w) [] (hW2) ?_
        refine lm (v := strV t) rfl rfl ?_
        refine lp (v := .int .i64 ((t.length : Nat) : Int)) rfl rfl (run_lenS (l := t) rfl Try.underlying9 (by kernel_rfl)) ?_
        refine lp (v := .bool false) rfl rfl (run_bin rfl (vx := (.int .i64 ((t.length : Nat) : Int))) (vy := (.int .i64 ((2000 : Nat) : Int))) (by kernel_rfl) (by kernel_rfl) fun w => bn_gtr (decide_eq_false hl) w) ?_
        refine lm (v := .bool false) rfl rfl ?_
        refine lm (v := strV o) rfl rfl ?_
        refine lp (v := .int .i64 ((o.length : Nat) : Int)) rfl rfl (run_lenS (l := o) rfl Try.underlying9 (by kernel_rfl)) ?_
        refine lp (v := .bool false) rfl rfl (run_bin rfl (vx := (.int .i64 ((o.length : Nat) : Int))) (vy := (.int .i64 ((2000 : Nat) : Int))) (by kernel_rfl) (by kernel_rfl) fun w => bn_gtr (decide_eq_false hl2) w) ?_
        refine lm (v := .bool false) rfl rfl ?_
        refine wpL_done (fun W3 hW3 => ?_)
        refine (show Code.wp _ _ _ _ _ from ?_)
        refine wp_cond_false rfl ?_
        refine wp_skip ?_
        refine (show Code.wp _ _ _ _ _ from ?_)
        refine wp_seq ?_
        refine wp_region_L (W0 := w) [] (hW3) ?_
        refine lm (v := strV t) rfl rfl ?_
        refine wpL_c (f := 15) (args := #[strV t]) (fun v Tz => v = .tuple #[.slice none 0 0, .int .i64 ((p : Nat) : Int), .int .i64 ((er : Nat) : Int)] ∧ Tz = []) rfl (by kernel_rfl) (fun _ => (by kernel_rfl)) (fun W hW => Read_bad hr (by first | omega | (simp only [List.length_append, List.length_cons, List.length_nil]; omega)) W (hW.sub (fun _ h => by cases h))) (fun _ => by simp only [List.setIfInBounds_toArray, List.set_cons_succ, List.set_cons_zero] <;> rfl) ?_
        rintro _ _ ⟨rfl, rfl⟩
        refine lm (v := .tuple #[.slice none 0 0, .int .i64 ((p : Nat) : Int), .int .i64 ((er : Nat) : Int)]) rfl rfl ?_
        refine lm (v := .slice none 0 0) rfl rfl ?_
        refine lm (v := .int .i64 ((p : Nat) : Int)) rfl rfl ?_
        refine lm (v := .int .i64 ((er : Nat) : Int)) rfl rfl ?_
        refine lm (v := .slice none 0 0) rfl rfl ?_
        refine lm (v := .int .i64 ((p : Nat) : Int)) rfl rfl ?_
        refine lm (v := .int .i64 ((er : Nat) : Int)) rfl rfl ?_
        refine wpL_done (fun W4 hW4 => ?_)
        refine (show Code.wp _ _ _ _ _ from ?_)
        refine wp_seq ?_
        refine wp_seq ?_
        refine wp_region_L (W0 := w) [] (hW4) ?_
        refine lm (v := .int .i64 ((er : Nat) : Int)) rfl rfl ?_
        refine lp (v := .bool false) rfl rfl (run_bin rfl (vx := (.int .i64 ((er : Nat) : Int))) (vy := (.int .i64 ((0 : Nat) : Int))) (by kernel_rfl) (by kernel_rfl) fun w => bn_eql (decide_eq_false hne) w) ?_
        refine lm (v := .bool false) rfl rfl ?_
        refine lm (v := .int .i64 ((er : Nat) : Int)) rfl rfl ?_
        refine lp (v := .bool false) rfl rfl (run_bin rfl (vx := (.int .i64 ((er : Nat) : Int))) (vy := (.int .i64 ((42 : Nat) : Int))) (by kernel_rfl) (by kernel_rfl) fun w => bn_eql (decide_eq_false h42) w) ?_
        refine lm (v := .bool false) rfl rfl ?_
        refine wpL_done (fun W5 hW5 => ?_)
        refine (show Code.wp _ _ _ _ _ from ?_)
        refine wp_cond_false rfl ?_
        refine wp_skip ?_
        refine (show Code.wp _ _ _ _ _ from ?_)
        refine wp_seq ?_
        refine wp_region_L (W0 := w) [] (hW5) ?_
        refine lm (v := strV t) rfl rfl ?_
        refine lm (v := .int .i64 ((p : Nat) : Int)) rfl rfl ?_
        refine lp (v := strV (t.take p)) rfl rfl (run_slH (k2 := .i64) (l := t) (r := (t.take p)) (j := p) rfl Try.underlying9 (by kernel_rfl) (by kernel_rfl) (by omega) rfl) ?_
        refine wpL_c (f := 15) (args := #[strV (t.take p)]) (fun v Tz => v = .tuple #[.slice none 0 0, .int .i64 ((p : Nat) : Int), .int .i64 ((42 : Nat) : Int)] ∧ Tz = []) rfl (by kernel_rfl) (fun _ => (by kernel_rfl)) (fun W hW => Read_bad h1 (by omega) W (hW.sub (fun _ h => by cases h))) (fun _ => by simp only [List.setIfInBounds_toArray, List.set_cons_succ, List.set_cons_zero] <;> rfl) ?_
        rintro _ _ ⟨rfl, rfl⟩
        refine lm (v := .tuple #[.slice none 0 0, .int .i64 ((p : Nat) : Int), .int .i64 42]) rfl rfl ?_
        refine lm (v := .slice none 0 0) rfl rfl ?_
        refine lm (v := .int .i64 ((p : Nat) : Int)) rfl rfl ?_
        refine lm (v := .int .i64 42) rfl rfl ?_
        refine lm (v := .slice none 0 0) rfl rfl ?_
        refine lm (v := .int .i64 ((p : Nat) : Int)) rfl rfl ?_
        refine lm (v := .int .i64 42) rfl rfl ?_
        refine wpL_done (fun W6 hW6 => ?_)
        refine (show Code.wp _ _ _ _ _ from ?_)
        refine wp_seq ?_
        refine wp_seq ?_
        refine wp_region_L (W0 := w) [] (hW6) ?_
        refine lm (v := .int .i64 42) rfl rfl ?_
        refine lm (v := .bool true) rfl rfl ?_
        refine lm (v := .bool true) rfl rfl ?_
        refine lm (v := .int .i64 42) rfl rfl ?_
        refine lm (v := .bool false) rfl rfl ?_
        refine lm (v := .bool false) rfl rfl ?_
        refine lm (v := .int .i64 ((p : Nat) : Int)) rfl rfl ?_
        refine lm (v := .int .i64 ((p : Nat) : Int)) rfl rfl ?_
        refine lp (v := .bool false) rfl rfl (run_bin rfl (vx := (.int .i64 ((p : Nat) : Int))) (vy := (.int .i64 ((p : Nat) : Int))) (by kernel_rfl) (by kernel_rfl) fun w => bn_neq (decide_eq_true rfl) w) ?_
        refine lm (v := .bool false) rfl rfl ?_
        refine lm (v := .bool false) rfl rfl ?_
        refine wpL_done (fun W7 hW7 => ?_)
        refine (show Code.wp _ _ _ _ _ from ?_)
        refine wp_cond_false rfl ?_
        refine wp_skip ?_
        refine (show Code.wp _ _ _ _ _ from ?_)
        refine wp_seq ?_
        refine wp_region_L (W0 := w) [] (hW7) ?_
        refine lm (v := .int .i64 ((p : Nat) : Int)) rfl rfl ?_
        refine lp (v := .int .i64 (((p + 1) : Nat) : Int)) rfl rfl (run_bin rfl (vx := (.int .i64 ((p : Nat) : Int))) (vy := (.int .i64 ((1 : Nat) : Int))) (by kernel_rfl) (by kernel_rfl) fun w => bn_add (z := (p + 1)) rfl (wr_i64 (by omega)) w) ?_
        refine lm (v := .int .i64 (((p + 1) : Nat) : Int)) rfl rfl ?_
        refine wpL_done (fun W8 hW8 => ?_)
        refine (show Code.wp _ _ _ _ _ from ?_)
        refine wp_seq ?_
        refine wp_seq ?_
        refine wp_region_L (W0 := w) [] (hW8) ?_
        refine lm (v := strV t) rfl rfl ?_
        refine lm (v := .int .i64 ((p : Nat) : Int)) rfl rfl ?_
        refine lp (v := .int .u8 ((x.toNat : Nat) : Int)) rfl rfl (run_idxS (j := .i64) (l := t) (k := p) (b := x) rfl Try.underlying9 (by kernel_rfl) (by kernel_rfl) hx) ?_
        refine lp (v := .bool false) rfl rfl (run_bin rfl (vx := (.int .u8 ((x.toNat : Nat) : Int))) (vy := (.int .u8 ((63 : Nat) : Int))) (by kernel_rfl) (by kernel_rfl) fun w => bn_eql (decide_eq_false h63) w) ?_
        refine wpL_done (fun W9 hW9 => ?_)
        refine (show Code.wp _ _ _ _ _ from ?_)
        refine wp_cond_false rfl ?_
        refine wp_skip ?_
        refine (show Code.wp _ _ _ _ _ from ?_)
        refine wp_seq ?_
        refine wp_seq ?_
        refine wp_region_L (W0 := w) [] (hW9) ?_
        refine lm (v := .int .i64 ((er : Nat) : Int)) rfl rfl ?_
        refine lp (v := .bool (decide (er = 41))) rfl rfl (run_bin rfl (vx := (.int .i64 ((er : Nat) : Int))) (vy := (.int .i64 ((41 : Nat) : Int))) (by kernel_rfl) (by kernel_rfl) fun w => bn_eql rfl w) ?_
        refine lm (v := .bool (decide (er = 41))) rfl rfl ?_
        cases hd1 : (decide (er = 41)) with
        | false =>
          have h1 : ¬ (er = 41) := of_decide_eq_false hd1
          clear hd1
          refine ln rfl ?_
          refine ln rfl ?_
          refine ln rfl ?_
          refine ln rfl ?_
          refine lm (v := .bool false) rfl rfl ?_
          refine wpL_done (fun W10 hW10 => ?_)
          refine (show Code.wp _ _ _ _ _ from ?_)
          refine wp_cond_false rfl ?_
          refine wp_skip ?_
          refine (show Code.wp _ _ _ _ _ from ?_)
          refine wp_seq ?_
          refine wp_region_L (W0 := w) [] (hW10) ?_
          refine lm (v := strV t) rfl rfl ?_
          refine lm (v := .int .i64 (((p + 1) : Nat) : Int)) rfl rfl ?_
          refine lp (v := strV (t.take (p + 1))) rfl rfl (run_slH (k2 := .i64) (l := t) (r := (t.take (p + 1))) (j := (p + 1)) rfl Try.underlying9 (by kernel_rfl) (by kernel_rfl) (by omega) rfl) ?_
          refine lm (v := strV o) rfl rfl ?_
          refine lp (v := strV ((t.take (p + 1)) ++ o)) rfl rfl (run_bin rfl (vx := strV (t.take (p + 1))) (vy := strV o) (by kernel_rfl) (by kernel_rfl) fun w => bs_add (c := ((t.take (p + 1)) ++ o)) rfl (by first | omega | (simp; omega)) w) ?_
          refine wpL_c (f := 15) (args := #[strV ((t.take (p + 1)) ++ o)]) (fun v Tz => v = .tuple #[.slice none 0 0, .int .i64 ((p : Nat) : Int), .int .i64 ((er : Nat) : Int)] ∧ Tz = []) rfl (by kernel_rfl) (fun _ => (by kernel_rfl)) (fun W hW => Read_bad h3 (by first | omega | (simp only [List.length_append, List.length_cons, List.length_nil]; omega)) W (hW.sub (fun _ h => by cases h))) (fun _ => by simp only [List.setIfInBounds_toArray, List.set_cons_succ, List.set_cons_zero] <;> rfl) ?_
          rintro _ _ ⟨rfl, rfl⟩
          refine lm (v := .tuple #[.slice none 0 0, .int .i64 ((p : Nat) : Int), .int .i64 ((er : Nat) : Int)]) rfl rfl ?_
          refine lm (v := .slice none 0 0) rfl rfl ?_
          refine lm (v := .int .i64 ((p : Nat) : Int)) rfl rfl ?_
          refine lm (v := .int .i64 ((er : Nat) : Int)) rfl rfl ?_
          refine lm (v := .int .i64 ((p : Nat) : Int)) rfl rfl ?_
          refine lm (v := .int .i64 ((er : Nat) : Int)) rfl rfl ?_
          refine wpL_done (fun W11 hW11 => ?_)
          refine (show Code.wp _ _ _ _ _ from ?_)
          refine wp_seq ?_
          refine wp_region_L (W0 := w) [] (hW11) ?_
          refine lm (v := .int .i64 ((er : Nat) : Int)) rfl rfl ?_
          refine lm (v := .int .i64 ((er : Nat) : Int)) rfl rfl ?_
          refine lp (v := .bool true) rfl rfl (run_bin rfl (vx := (.int .i64 ((er : Nat) : Int))) (vy := (.int .i64 ((er : Nat) : Int))) (by kernel_rfl) (by kernel_rfl) fun w => bn_eql (decide_eq_true rfl) w) ?_
          refine lm (v := .bool true) rfl rfl ?_
          refine lm (v := .int .i64 ((p : Nat) : Int)) rfl rfl ?_
          refine lm (v := .int .i64 ((p : Nat) : Int)) rfl rfl ?_
          refine lp (v := .bool true) rfl rfl (run_bin rfl (vx := (.int .i64 ((p : Nat) : Int))) (vy := (.int .i64 ((p : Nat) : Int))) (by kernel_rfl) (by kernel_rfl) fun w => bn_eql (decide_eq_true rfl) w) ?_
          refine lm (v := .bool true) rfl rfl ?_
          refine lm (v := .bool true) rfl rfl ?_
          refine wpL_done (fun W12 hW12 => ?_)
          refine (show Code.wp _ _ _ _ _ from ?_)
          refine wp_ret ?_
          try simp only [inBlock_ret, then_ret]
          refine bodyPost_ret (v := .bool true) ?_ rfl ?_
          · kernel_rfl
          · exact ⟨rfl, (hW12).1⟩
        | true =>
          have h1 : er = 41 := of_decide_eq_true hd1
          clear hd1
          refine lm (v := .int .i64 (((p + 1) : Nat) : Int)) rfl rfl ?_
          refine lm (v := .int .i64 ((p : Nat) : Int)) rfl rfl ?_
          refine lp (v := .int .i64 (((p + 1) : Nat) : Int)) rfl rfl (run_bin rfl (vx := (.int .i64 ((p : Nat) : Int))) (vy := (.int .i64 ((1 : Nat) : Int))) (by kernel_rfl) (by kernel_rfl) fun w => bn_add (z := (p + 1)) rfl (wr_i64 (by omega)) w) ?_
          refine lp (v := .bool true) rfl rfl (run_bin rfl (vx := (.int .i64 (((p + 1) : Nat) : Int))) (vy := (.int .i64 (((p + 1) : Nat) : Int))) (by kernel_rfl) (by kernel_rfl) fun w => bn_eql (decide_eq_true rfl) w) ?_
          refine lm (v := .bool true) rfl rfl ?_
          refine wpL_done (fun W13 hW13 => ?_)
          refine (show Code.wp _ _ _ _ _ from ?_)
          refine wp_cond_true rfl ?_
          refine wp_seq ?_
          refine wp_region_L (W0 := w) [] (hW13) ?_
          refine lm (v := .bool true) rfl rfl ?_
          refine wpL_done (fun W14 hW14 => ?_)
          refine (show Code.wp _ _ _ _ _ from ?_)
          refine wp_ret ?_
          try simp only [inBlock_ret, then_ret]
          refine bodyPost_ret (v := .bool true) ?_ rfl ?_
          · kernel_rfl
          · exact ⟨rfl, (hW14).1⟩
end Go.Proofs.Ytppegdbelgobiaa
namespace Go.Proofs.Ytppegdbelgobiaa
open Go Go.RowKit Tw
def wrA (A : List Sgm) : List UInt8 := if 5000 < A.length then [] else if A.all rightS = false then [] else if 65536 < (wrL A).length then [] else wrL A
def wrN (A : List Sgm) : Nat := if 5000 < A.length then 5 else if A.all rightS = false then 2 else if 65536 < (wrL A).length then 3 else 0
theorem writeV_eq (A : List Sgm) : writeV A = .tuple #[strV (wrA A), .int .i64 ((wrN A : Nat) : Int)] := by
  unfold writeV wrA wrN
  split
  · rfl
  · split
    · rfl
    · split <;> rfl
theorem wrN_le (A : List Sgm) : wrN A ≤ 5 := by
  unfold wrN
  split
  · omega
  · split
    · omega
    · split <;> omega
theorem shape_of {W0 : Base} {A : List Sgm} {v : Value} {T : List (Nat × Obj)} {w : World} (hk : KS W0 T w) (hM : MkV SgR W0 v A T) : ∃ p c, v = .slice p A.length c := by
  obtain ⟨p, c, e, _⟩ := hM w hk
  exact ⟨p, c, e⟩
set_option maxRecDepth 100000 in
set_option maxHeartbeats 4000000 in
theorem writes_any (A : List Sgm) (pA : Option Addr) (cA : Nat) (lA : A.length ≤ 4000000000) (lE : ∀ y ∈ A, y.length ≤ 4000000000 ∧ ∀ z ∈ y, z.length ≤ 4000000000) (w : World) (hA : LVp ElR w pA A) : Calls Try.prog 12 #[.slice pA A.length cA] w fun e w' => e = .returned (.bool true) ∧ Below w.heap.size w w' := by
  have HA := Lib.hid hA
  clear hA
  have ln := wrN_le A
  go_enter Try.func12, Try.ntmps12
  refine wp_seq ?_
  refine wp_region_L (W0 := w) [] (KS.start w) ?_
  refine lm (v := .bool false) rfl rfl ?_
  refine wpL_done (fun W1 hW1 => ?_)
  refine (show Code.wp _ _ _ _ _ from ?_)
  refine wp_seq ?_
  refine wp_region_L (W0 := w) [] (hW1) ?_
  refine lm (v := .slice pA A.length cA) rfl rfl ?_
  refine wpL_c (f := 19) (args := #[.slice pA A.length cA]) (fun v T => (∃ p c, v = .slice p A.length c) ∧ MkV SgR w v A T) rfl (by kernel_rfl) (fun _ => (by kernel_rfl)) (fun W hW => (Own_any A pA cA lA lE HA.out W (hW.sub (fun _ h => by cases h))).mono fun e w2 ⟨v, T, he, hk, hM⟩ => ⟨v, T, he, hk, shape_of hk hM.mkv, hM.mkv⟩) (fun _ => by simp only [List.setIfInBounds_toArray, List.set_cons_succ, List.set_cons_zero] <;> rfl) ?_
  rintro _ T1 ⟨⟨p1, c1, rfl⟩, M1⟩
  refine lm (v := .slice p1 A.length c1) rfl rfl ?_
  refine wpL_done (fun W2 hW2 => ?_)
  have HB3 := Lib.hid ((HA.out.keep ElR.keeps (hW2).1))
  have HB4 := Lib.hid ((lv_lvp (M1 W2 ((hW2).sub (fun p hp => by first | exact hp | (simp only [List.mem_cons, List.mem_append, List.nil_append, List.not_mem_nil, or_assoc, or_false, false_or, List.cons_append, List.append_assoc] at hp ⊢ <;> grind))))))
  have hbz2 : Below w.heap.size w W2 := (hW2).1
  refine (show Code.wp _ _ _ _ _ from ?_)
  refine wp_seq ?_
  refine wp_region_L (W0 := W2) [] (KS.start W2) ?_
  refine lm (v := .slice p1 A.length c1) rfl rfl ?_
  refine lv (v := .tuple #[strV (wrA A), .int .i64 (((wrN A) : Nat) : Int)]) rfl rfl (yb_call (f := 14) (args := #[.slice p1 A.length c1]) (fun _ => by kernel_rfl) fun W hW => (by have z := PWrite_any A p1 c1 W (HB4.out.keep ElR.keeps hW.1); rw [writeV_eq] at z; exact z)) ?_
  refine lm (v := .tuple #[strV (wrA A), .int .i64 (((wrN A) : Nat) : Int)]) rfl rfl ?_
  refine lm (v := strV (wrA A)) rfl rfl ?_
  refine lm (v := .int .i64 (((wrN A) : Nat) : Int)) rfl rfl ?_
  refine lm (v := strV (wrA A)) rfl rfl ?_
  refine lm (v := .int .i64 (((wrN A) : Nat) : Int)) rfl rfl ?_
  refine wpL_done (fun W3 hW3 => ?_)
  refine (show Code.wp _ _ _ _ _ from ?_)
  refine wp_seq ?_
  refine wp_region_L (W0 := W2) [] (hW3) ?_
  refine lm (v := .slice pA A.length cA) rfl rfl ?_
  refine wpL_c (f := 22) (args := #[.slice pA A.length cA]) (fun v T => (∃ p c, v = .slice p A.length c) ∧ MkV SgR W2 v A T) rfl (by kernel_rfl) (fun _ => (by kernel_rfl)) (fun W hW => (bare_any A pA cA lA HB3.out W (hW.sub (fun _ h => by cases h))).mono fun e w2 ⟨v, T, he, hk, hM⟩ => ⟨v, T, he, hk, shape_of hk hM, hM⟩) (fun _ => by simp only [List.setIfInBounds_toArray, List.set_cons_succ, List.set_cons_zero] <;> rfl) ?_
  rintro _ T5 ⟨⟨p5, c5, rfl⟩, M5⟩
  refine lv (v := .tuple #[strV (wrA A), .int .i64 (((wrN A) : Nat) : Int)]) rfl rfl (yb_call (f := 21) (args := #[.slice p5 A.length c5]) (fun _ => by kernel_rfl) fun W hW => (by have z := RWrite_any A p5 c5 W (lv_lvp (M5 W (hW.sub (fun p hp => by first | exact hp | (simp only [List.mem_cons, List.mem_append, List.nil_append, List.not_mem_nil, or_assoc, or_false, false_or, List.cons_append, List.append_assoc] at hp ⊢ <;> grind))))); rw [writeV_eq] at z; exact z)) ?_
  refine lm (v := .tuple #[strV (wrA A), .int .i64 (((wrN A) : Nat) : Int)]) rfl rfl ?_
  refine lm (v := strV (wrA A)) rfl rfl ?_
  refine lm (v := .int .i64 (((wrN A) : Nat) : Int)) rfl rfl ?_
  refine lm (v := strV (wrA A)) rfl rfl ?_
  refine lm (v := .int .i64 (((wrN A) : Nat) : Int)) rfl rfl ?_
  refine wpL_done (fun W4 hW4 => ?_)
  have HB7 := Lib.hid ((HB3.out.keep ElR.keeps (hW4).1))
  have HB8 := Lib.hid ((HB4.out.keep ElR.keeps (hW4).1))
  have HB9 := Lib.hid ((lv_lvp (M5 W4 ((hW4).sub (fun p hp => by first | exact hp | (simp only [List.mem_cons, List.mem_append, List.nil_append, List.not_mem_nil, or_assoc, or_false, false_or, List.cons_append, List.append_assoc] at hp ⊢ <;> grind))))))
  have hbz6 : Below w.heap.size w W4 := hbz2.trans ((hW4).1.mono hbz2.size)
  refine (show Code.wp _ _ _ _ _ from ?_)
  refine wp_seq ?_
  refine wp_seq ?_
  refine wp_region_L (W0 := W4) [] (KS.start W4) ?_
  refine lm (v := .int .i64 0) rfl rfl ?_
  refine wpL_done (fun W5 hW5 => ?_)
  refine (show Code.wp _ _ _ _ _ from ?_)
  refine wp_block ?_
  go_loopw [8] (fun u8 wr => ∃ (k : Nat), (k ≤ A.length) ∧ u8 = .int .i64 ((k : Nat) : Int) ∧ KS W4 [] wr) (fun u8 _ => A.length - (intOf u8).toNat)
  case atStart => exact ⟨0, (Nat.zero_le _), rfl, (hW5.sub (fun p hp => by first | exact hp | (simp only [List.mem_cons, List.mem_append, List.nil_append, List.not_mem_nil, or_assoc, or_false, false_or, List.cons_append, List.append_assoc] at hp ⊢ <;> grind)))⟩
  case round =>
    obtain ⟨k, hk, rfl, hL6⟩ := hrel
    refine wp_seq ?_
    refine wp_seq ?_
    refine wp_region_L (W0 := W4) [] (hL6) ?_
    refine lm (v := .int .i64 ((k : Nat) : Int)) rfl rfl ?_
    refine lm (v := .slice pA A.length cA) rfl rfl ?_
    refine lp (v := .int .i64 ((A.length : Nat) : Int)) rfl rfl (run_lenL (p := pA) (cap := cA) (n := A.length) rfl Try.underlying24 (by kernel_rfl)) ?_
    refine lp (v := .bool (decide (k < A.length))) rfl rfl (run_bin rfl (vx := (.int .i64 ((k : Nat) : Int))) (vy := (.int .i64 ((A.length : Nat) : Int))) (by kernel_rfl) (by kernel_rfl) fun w => bn_lss rfl w) ?_
    refine wpL_done (fun W7 hW7 => ?_)
    refine (show Code.wp _ _ _ _ _ from ?_)
    cases hd1 : (decide (k < A.length)) with
    | false =>
      have h1 : ¬ (k < A.length) := of_decide_eq_false hd1
      clear hd1
      refine wp_cond_false rfl ?_
      refine wp_exit ?_
      refine (show Code.wp _ _ _ _ _ from ?_)
      refine wp_seq ?_
      refine wp_region_L (W0 := W4) [] (hW7) ?_
      refine lm (v := strV (wrA A)) rfl rfl ?_
      refine lm (v := strV (wrA A)) rfl rfl ?_
      refine lp (v := .bool true) rfl rfl (run_bin rfl (vx := strV (wrA A)) (vy := strV (wrA A)) (by kernel_rfl) (by kernel_rfl) fun w => bs_eql (decide_eq_true rfl) w) ?_
      refine lm (v := .bool true) rfl rfl ?_
      refine lm (v := .int .i64 (((wrN A) : Nat) : Int)) rfl rfl ?_
      refine lm (v := .int .i64 (((wrN A) : Nat) : Int)) rfl rfl ?_
      refine lp (v := .bool true) rfl rfl (run_bin rfl (vx := (.int .i64 (((wrN A) : Nat) : Int))) (vy := (.int .i64 (((wrN A) : Nat) : Int))) (by kernel_rfl) (by kernel_rfl) fun w => bn_eql (decide_eq_true rfl) w) ?_
      refine lm (v := .bool true) rfl rfl ?_
      refine lm (v := .bool true) rfl rfl ?_
      refine lm (v := .slice p1 A.length c1) rfl rfl ?_
      refine lm (v := .slice pA A.length cA) rfl rfl ?_
      refine lv (v := .bool true) rfl rfl (yb_call (f := 16) (args := #[.slice p1 A.length c1, .slice pA A.length cA]) (fun _ => by kernel_rfl) fun W hW => (by have z := same_any A A p1 pA c1 cA lA lE W (HB8.out.keep ElR.keeps hW.1) (HB7.out.keep ElR.keeps hW.1); rw [decide_eq_true rfl] at z; exact z)) ?_
      refine lm (v := .bool true) rfl rfl ?_
      refine lm (v := .bool true) rfl rfl ?_
      refine wpL_done (fun W8 hW8 => ?_)
      refine (show Code.wp _ _ _ _ _ from ?_)
      refine wp_ret ?_
      try simp only [inBlock_ret, then_ret]
      refine bodyPost_ret (v := .bool true) ?_ rfl ?_
      · kernel_rfl
      · exact ⟨rfl, (Below.trans hbz6 (Below.mono (hW8).1 hbz6.size))⟩
    | true =>
      have h1 : k < A.length := of_decide_eq_true hd1
      clear hd1
      refine wp_cond_true rfl ?_
      refine wp_skip ?_
      refine (show Code.wp _ _ _ _ _ from ?_)
      refine wp_seq ?_
      refine wp_block ?_
      refine wp_seq ?_
      refine wp_region_V (W0 := W4) [] (by kernel_rfl) (hW7) ?_
      refine vm (i := 0) (v := .slice p1 A.length c1) rfl rfl rfl ?_
      refine vm (i := 1) (v := .int .i64 ((k : Nat) : Int)) rfl rfl rfl ?_
      obtain ⟨y10, p10, c10, b10, f10, hy10, HY10, hp10, lt10, hc10⟩ := lvp_lst (k := k) HB8.out (by omega)
      have HY10 := Lib.hid HY10
      refine vp (i := 2) (v := .pointer (some ⟨b10, f10 + k * 1, none⟩)) rfl rfl rfl (run_idxQ (p := p1) (cap := c1) (n := A.length) (j := .i64) (k := k) (sz := 1) rfl Try.underlying24 (by kernel_rfl) (by kernel_rfl) hp10 (by kernel_rfl) (by omega)) ?_
      refine vv (i := 3) (v := .slice p10 y10.length c10) rfl rfl rfl (yb_old (off := f10 + k * 1) rfl (by kernel_rfl) hc10 lt10 Try.underlying37 rfl) ?_
      refine vv (i := 4) (v := .bool (rightS y10)) rfl rfl rfl (yb_call (f := 18) (args := #[.slice p10 y10.length c10]) (fun _ => by kernel_rfl) fun W hW => PRight_any y10 p10 c10 W (HY10.out.keep TxR.keeps hW.1)) ?_
      refine vm (i := 5) (v := .slice pA A.length cA) rfl rfl rfl ?_
      refine vm (i := 6) (v := .int .i64 ((k : Nat) : Int)) rfl rfl rfl ?_
      obtain ⟨y11, p11, c11, b11, f11, hy11, HY11, hp11, lt11, hc11⟩ := lvp_lst (k := k) HB7.out (by omega)
      have HY11 := Lib.hid HY11
      refine vp (i := 7) (v := .pointer (some ⟨b11, f11 + k * 1, none⟩)) rfl rfl rfl (run_idxQ (p := pA) (cap := cA) (n := A.length) (j := .i64) (k := k) (sz := 1) rfl Try.underlying24 (by kernel_rfl) (by kernel_rfl) hp11 (by kernel_rfl) (by omega)) ?_
      obtain rfl : y10 = y11 := Option.some.inj (hy10.symm.trans hy11)
      refine vv (i := 8) (v := .slice p11 y10.length c11) rfl rfl rfl (yb_old (off := f11 + k * 1) rfl (by kernel_rfl) hc11 lt11 Try.underlying37 rfl) ?_
      refine vv (i := 9) (v := .bool (rightS y10)) rfl rfl rfl (yb_call (f := 23) (args := #[.slice p11 y10.length c11]) (fun _ => by kernel_rfl) fun W hW => RRight_any y10 p11 c11 W (HY11.out.keep TxR.keeps hW.1)) ?_
      cases h2 : (rightS y10) with
      | false =>
        refine vm (i := 10) (v := .bool false) rfl rfl rfl ?_
        refine wpV_done (by kernel_rfl) (fun W9 hW9 => ?_) _
        refine (show Code.wp _ _ _ _ _ from ?_)
        refine wp_cond_false rfl ?_
        refine wp_skip ?_
        refine (show Code.wp _ _ _ _ _ from ?_)
        refine wp_region_L (W0 := W4) [] (hW9) ?_
        refine lm (v := .int .i64 ((k : Nat) : Int)) rfl rfl ?_
        refine lp (v := .int .i64 (((k + 1) : Nat) : Int)) rfl rfl (run_bin rfl (vx := (.int .i64 ((k : Nat) : Int))) (vy := (.int .i64 ((1 : Nat) : Int))) (by kernel_rfl) (by kernel_rfl) fun w => bn_add (z := (k + 1)) rfl (wr_i64 (by omega)) w) ?_
        refine lm (v := .int .i64 (((k + 1) : Nat) : Int)) rfl rfl ?_
        refine wpL_done (fun W10 hW10 => ?_)
        go_roundw
        case rel =>
          repeat apply Exists.intro
          exact ⟨⟨k + 1, (by omega), rfl, (hW10.sub (fun p hp => by first | exact hp | (simp only [List.mem_cons, List.mem_append, List.nil_append, List.not_mem_nil, or_assoc, or_false, false_or, List.cons_append, List.append_assoc] at hp ⊢ <;> grind)))⟩, rfl⟩
        case measure => (show A.length - (intOf (.int .i64 (((k + 1) : Nat) : Int))).toNat < A.length - (intOf (.int .i64 ((k : Nat) : Int))).toNat); simp only [intOf]; omega
      | true =>
        refine vm (i := 10) (v := .bool false) rfl rfl rfl ?_
        refine wpV_done (by kernel_rfl) (fun W11 hW11 => ?_) _
        refine (show Code.wp _ _ _ _ _ from ?_)
        refine wp_cond_false rfl ?_
        refine wp_skip ?_
        refine (show Code.wp _ _ _ _ _ from ?_)
        refine wp_region_L (W0 := W4) [] (hW11) ?_
        refine lm (v := .int .i64 ((k : Nat) : Int)) rfl rfl ?_
        refine lp (v := .int .i64 (((k + 1) : Nat) : Int)) rfl rfl (run_bin rfl (vx := (.int .i64 ((k : Nat) : Int))) (vy := (.int .i64 ((1 : Nat) : Int))) (by kernel_rfl) (by kernel_rfl) fun w => bn_add (z := (k + 1)) rfl (wr_i64 (by omega)) w) ?_
        refine lm (v := .int .i64 (((k + 1) : Nat) : Int)) rfl rfl ?_
        refine wpL_done (fun W12 hW12 => ?_)
        go_roundw
        case rel =>
          repeat apply Exists.intro
          exact ⟨⟨k + 1, (by omega), rfl, (hW12.sub (fun p hp => by first | exact hp | (simp only [List.mem_cons, List.mem_append, List.nil_append, List.not_mem_nil, or_assoc, or_false, false_or, List.cons_append, List.append_assoc] at hp ⊢ <;> grind)))⟩, rfl⟩
        case measure => (show A.length - (intOf (.int .i64 (((k + 1) : Nat) : Int))).toNat < A.length - (intOf (.int .i64 ((k : Nat) : Int))).toNat); simp only [intOf]; omega
end Go.Proofs.Ytppegdbelgobiaa
namespace Go.Proofs.Ytppegdbelgobiaa
open Go Go.RowKit Tw
def sz1 (c : Cmp) : Nat := c.length + 1
def sz2 (e : Elt) : Nat := (e.map sz1).sum + 1
def sz3 (s : Sgm) : Nat := (s.map sz2).sum + 1
def sz4 (A : List Sgm) : Nat := (A.map sz3).sum + 1
theorem sum_mem {α : Type} {f : α → Nat} {x : α} : ∀ {l : List α}, x ∈ l → f x ≤ (l.map f).sum := by
  intro l
  induction l with
  | nil => intro h; cases h
  | cons y l ih =>
    intro h
    simp only [List.map_cons, List.sum_cons]
    rcases List.mem_cons.1 h with rfl | h
    · omega
    · have := ih h; omega
theorem sum_len {α : Type} {f : α → Nat} (hf : ∀ x, 1 ≤ f x) : ∀ (l : List α), l.length ≤ (l.map f).sum := by
  intro l
  induction l with
  | nil => exact Nat.le_refl _
  | cons y l ih =>
    simp only [List.map_cons, List.sum_cons, List.length_cons]
    have := hf y
    omega
theorem sz2_eq (e : Elt) : sz2 e = eltN e + 1 := by
  unfold sz2 eltN cmpsN
  induction e with
  | nil => rfl
  | cons c e ih =>
    simp only [List.map_cons, List.sum_cons, List.length_cons, sz1] at ih ⊢
    omega
theorem sgN_le (s : Sgm) : sgN s + 1 ≤ sz3 s := by
  unfold sgN sz3
  induction s with
  | nil => exact Nat.le_refl _
  | cons e s ih =>
    have := sz2_eq e
    simp only [List.map_cons, List.sum_cons, List.length_cons] at ih ⊢
    omega
theorem sz4_seg {A : List Sgm} {s : Sgm} (h : s ∈ A) : sgN s ≤ sz4 A := by
  have h1 := sum_mem (f := sz3) h
  have h2 := sgN_le s
  unfold sz4
  omega
theorem sz4_len (A : List Sgm) : A.length ≤ sz4 A := by
  have := sum_len (f := sz3) (fun s => by unfold sz3; omega) A
  unfold sz4
  omega
theorem lens_of {A : List Sgm} (h : ∀ s ∈ A, sgN s ≤ 4000000000) : ∀ y ∈ A, y.length ≤ 4000000000 ∧ ∀ z ∈ y, z.length ≤ 4000000000 := by
  intro y hy
  have h1 := h y hy
  unfold sgN at h1
  refine ⟨by omega, fun z hz => ?_⟩
  have h2 := sum_mem (f := eltN) hz
  have h3 : z.length ≤ eltN z := by unfold eltN; omega
  omega
set_option maxRecDepth 100000 in
set_option maxHeartbeats 4000000 in
theorem LexWrites_law (w : World) (A : List Sgm) (pA : Option Addr) (cA : Nat) (hA : LVp ElR w pA A) (hb : sz4 A ≤ 1048576) : Calls Try.prog 4 #[.slice pA A.length cA] w fun e w' => e = .returned (.bool true) ∧ Below w.heap.size w w' := by
  have HA := Lib.hid hA
  clear hA
  have lA := sz4_len A
  have hS : ∀ s ∈ A, sgN s ≤ 4000000000 := fun s hs => by have := sz4_seg hs; omega
  go_enter Try.func4, Try.ntmps4
  refine wp_seq ?_
  refine wp_region_L (W0 := w) [] (KS.start w) ?_
  refine lm (v := .bool false) rfl rfl ?_
  refine wpL_done (fun W1 hW1 => ?_)
  refine (show Code.wp _ _ _ _ _ from ?_)
  refine wp_seq ?_
  refine wp_region_L (W0 := w) [] (hW1) ?_
  refine lm (v := .slice pA A.length cA) rfl rfl ?_
  refine lv (v := .bool (smallL A)) rfl rfl (yb_call (f := 11) (args := #[.slice pA A.length cA]) (fun _ => by kernel_rfl) fun W hW => Small_any A pA cA hS W (HA.out.keep ElR.keeps hW.1)) ?_
  refine lp (v := .bool (!(smallL A))) rfl rfl (run_un rfl (by kernel_rfl) fun w => un_not w) ?_
  refine lm (v := .bool (!(smallL A))) rfl rfl ?_
  cases h1 : (smallL A) with
  | false =>
    refine ln rfl ?_
    refine ln rfl ?_
    refine lm (v := .bool true) rfl rfl ?_
    refine lm (v := .bool true) rfl rfl ?_
    refine lv (v := .bool true) rfl rfl (yb_call (f := 10) (args := #[]) (fun _ => by kernel_rfl) fun W hW => awake_any W) ?_
    refine lm (v := .bool true) rfl rfl ?_
    refine lm (v := .bool true) rfl rfl ?_
    refine wpL_done (fun W2 hW2 => ?_)
    refine (show Code.wp _ _ _ _ _ from ?_)
    refine wp_ret ?_
    try simp only [inBlock_ret, then_ret]
    refine bodyPost_ret (v := .bool true) ?_ rfl ?_
    · kernel_rfl
    · exact ⟨rfl, (hW2).1⟩
  | true =>
    refine lm (v := .slice pA A.length cA) rfl rfl ?_
    refine lv (v := .bool true) rfl rfl (yb_call (f := 12) (args := #[.slice pA A.length cA]) (fun _ => by kernel_rfl) fun W hW => writes_any A pA cA (by omega) (lens_of hS) W (HA.out.keep ElR.keeps hW.1)) ?_
    refine lm (v := .bool true) rfl rfl ?_
    refine lm (v := .bool true) rfl rfl ?_
    refine lv (v := .bool true) rfl rfl (yb_call (f := 10) (args := #[]) (fun _ => by kernel_rfl) fun W hW => awake_any W) ?_
    refine lm (v := .bool true) rfl rfl ?_
    refine lm (v := .bool true) rfl rfl ?_
    refine wpL_done (fun W3 hW3 => ?_)
    refine (show Code.wp _ _ _ _ _ from ?_)
    refine wp_ret ?_
    try simp only [inBlock_ret, then_ret]
    refine bodyPost_ret (v := .bool true) ?_ rfl ?_
    · kernel_rfl
    · exact ⟨rfl, (hW3).1⟩
end Go.Proofs.Ytppegdbelgobiaa
/- Lists of lists that came in: they read as given elements. Over any program. -/
namespace Tw
open Go Go.RowKit Go.Proofs.Ytppegdbelgobiaa Go.Deep Go.ChangeShapes Go.WideShapes
section
variable {H : Type} {enc : TypeId × Value → H} {P : Program} {W : World} {base : Nat} {spare : Nat → Bool} {held : Bool}
def Opens {α : Type} (R : World → Value → α → Prop) (enc : TypeId × Value → H) (P : Program) (W : World) (base : Nat) (spare : Nat → Bool) (held : Bool) (t : TypeId) : Prop :=
  ∀ (fuel : Nat) (v : Value) (x : DataW H × List MemPlace), DataW.trod enc P W base spare held fuel t [v] = some x → ∃ y : α, R W v y
theorem opens_str {e : TypeId} (he : P.underlying e = some .string) : Opens StrR enc P W base spare held e := by
  intro fuel v x h
  obtain ⟨s, h1, h2, h3⟩ := DataW.trod_string he h
  have hv : v = .string s := by simpa using h1
  refine ⟨s.data.toList, ?_⟩
  show v = strV s.data.toList
  rw [hv]
  cases s
  simp [strV]
theorem opens_lv {α : Type} [Inhabited α] {R : World → Value → α → Prop} {t e : TypeId} (ht : P.underlying t = some (.slice e)) (hc : P.cellsOf e = 1) (hR : Opens R enc P W base spare held e) : Opens (LV R) enc P W base spare held t := by
  intro fuel v x h
  rcases open_slice1 ht hc h with ⟨hv, _⟩ | ⟨a, len, cap, m, n, V, D, Pl, hv, hb, hl, hm, hmm, _, hx⟩
  · have hv : v = .slice none 0 0 := by simpa using hv
    exact ⟨[], none, 0, hv, [], .inl rfl, rfl, fun k x y h => by simp at h⟩
  · have hv : v = .slice (some a) len cap := by simpa using hv
    have hlm : len ≤ m := by rw [hmm]; split <;> omega
    obtain ⟨Y, hY⟩ := choose_lt (α := α) (p := fun i y => R W (V i) y) (fun i (hi : i < len) => hR n (V i) _ (hx i (by omega)).2)
    refine ⟨(List.range len).map Y, some a, cap, by rw [hv]; simp, (List.range len).map V, ?_, by simp, ?_⟩
    · by_cases h0 : len = 0
      · subst h0
        exact .inl rfl
      · obtain ⟨b, off, spot⟩ := a
        have hc0 := (hx 0 (by omega)).1
        have hspot : spot = none := by simpa [Addr.add] using World.cell?_spot hc0
        subst hspot
        refine .inr ⟨b, off, rfl, ?_, fun i u hu => ?_⟩
        · rw [addr_add] at hc0
          exact World.block_lt_of_cell? _ _ hc0
        · rw [List.getElem?_map] at hu
          have hi : i < len := by
            rcases Nat.lt_or_ge i len with h | h
            · exact h
            · rw [List.getElem?_eq_none (by simpa using h)] at hu
              cases hu
          rw [List.getElem?_range hi] at hu
          cases hu
          have := (hx i (by omega)).1
          rwa [addr_add] at this
    · intro k x' y hx' hy'
      rw [List.getElem?_map] at hx' hy'
      have hi : k < len := by
        rcases Nat.lt_or_ge k len with h | h
        · exact h
        · rw [List.getElem?_eq_none (by simpa using h)] at hx'
          cases hx'
      rw [List.getElem?_range hi] at hx' hy'
      cases hx'
      cases hy'
      exact hY k hi
end
end Tw
/- What came in, with its bulk. -/
namespace Go.Proofs.Ytppegdbelgobiaa
open Go Go.RowKit Tw Go.Deep Go.ChangeShapes Go.WideShapes Go.ChangeAt
section
variable {H : Type} {enc : TypeId × Value → H} {W : World} {base : Nat} {spare : Nat → Bool} {held : Bool}
def OpensB {α : Type} (R : World → Value → α → Prop) (sz : α → Nat) (enc : TypeId × Value → H) (W : World) (base : Nat) (spare : Nat → Bool) (held : Bool) (t : TypeId) : Prop :=
  ∀ (fuel : Nat) (v : Value) (x : DataW H × List MemPlace), DataW.trod enc Try.prog W base spare held fuel t [v] = some x → ∃ y : α, R W v y ∧ sz y ≤ Rows.uptoBulk x.1
theorem opensb_str {e : TypeId} (he : Try.prog.underlying e = some .string) : OpensB StrR sz1 enc W base spare held e := by
  intro fuel v x h
  obtain ⟨s, h1, h2, h3⟩ := DataW.trod_string he h
  have hv : v = .string s := by simpa using h1
  refine ⟨s.data.toList, ?_, ?_⟩
  · show v = strV s.data.toList
    rw [hv]
    cases s
    simp [strV]
  · rw [h2]
    exact Nat.le_refl _
def ByR (_ : World) (v : Value) (b : UInt8) : Prop := v = .int .u8 ((b.toNat : Nat) : Int)
theorem ByR.keeps : Keeps ByR := fun _ _ _ _ h _ => h
theorem opensb_u8 {e : TypeId} (he : Try.prog.underlying e = some (.int .u8)) : OpensB ByR (fun _ => 1) enc W base spare held e := by
  intro fuel v x h
  obtain ⟨n, h1, h2, h3⟩ := DataW.trod_int he h
  have hv : v = .int .u8 n := by simpa using h1
  have hw : 0 ≤ n ∧ n ≤ 255 := by simpa [Lit.wf, IntKind.min, IntKind.max, IntKind.signed, IntKind.bits] using h3
  refine ⟨UInt8.ofNat n.toNat, ?_, ?_⟩
  · show v = .int .u8 (((UInt8.ofNat n.toNat).toNat : Nat) : Int)
    rw [hv, UInt8.toNat_ofNat', Nat.mod_eq_of_lt (by omega), Int.toNat_of_nonneg hw.1]
  · rw [h2]
    exact Nat.le_refl _
theorem bulk_sum {α : Type} {sz : α → Nat} {Y : Nat → α} {D : Nat → DataW H} : ∀ (l : List Nat), (∀ i ∈ l, sz (Y i) ≤ Rows.uptoBulk (D i)) → ((l.map Y).map sz).sum ≤ Rows.uptoBulkAll (l.map D) := by
  intro l
  induction l with
  | nil => intro _; exact Nat.zero_le _
  | cons i l ih =>
    intro h
    have h1 := h i (.head _)
    have h2 := ih fun j hj => h j (.tail _ hj)
    simp only [List.map_cons, List.sum_cons, Rows.uptoBulkAll]
    omega
theorem opensb_lv {α : Type} [Inhabited α] {R : World → Value → α → Prop} {sz : α → Nat} {t e : TypeId} (ht : Try.prog.underlying t = some (.slice e)) (hc : Try.prog.cellsOf e = 1) (hR : OpensB R sz enc W base spare held e) : OpensB (LV R) (fun l => (l.map sz).sum + 1) enc W base spare held t := by
  intro fuel v x h
  rcases open_slice1 ht hc h with ⟨hv, hx⟩ | ⟨a, len, cap, m, n, V, D, Pl, hv, hb, hl, hm, hmm, hxx, hx⟩
  · have hv : v = .slice none 0 0 := by simpa using hv
    refine ⟨[], ⟨none, 0, hv, [], .inl rfl, rfl, fun k x y h => by simp at h⟩, ?_⟩
    rw [hx]
    exact Nat.le_refl _
  · have hv : v = .slice (some a) len cap := by simpa using hv
    have hlm : len ≤ m := by rw [hmm]; split <;> omega
    obtain ⟨Y, hY⟩ := choose_lt (α := α) (p := fun i y => R W (V i) y ∧ sz y ≤ Rows.uptoBulk (D i)) (fun i (hi : i < len) => hR n (V i) _ (hx i (by omega)).2)
    refine ⟨(List.range len).map Y, ⟨some a, cap, by rw [hv]; simp, (List.range len).map V, ?_, by simp, ?_⟩, ?_⟩
    · by_cases h0 : len = 0
      · subst h0
        exact .inl rfl
      · obtain ⟨b, off, spot⟩ := a
        have hc0 := (hx 0 (by omega)).1
        have hspot : spot = none := by simpa [Addr.add] using World.cell?_spot hc0
        subst hspot
        refine .inr ⟨b, off, rfl, ?_, fun i u hu => ?_⟩
        · rw [addr_add] at hc0
          exact World.block_lt_of_cell? _ _ hc0
        · rw [List.getElem?_map] at hu
          have hi : i < len := by
            rcases Nat.lt_or_ge i len with h | h
            · exact h
            · rw [List.getElem?_eq_none (by simpa using h)] at hu
              cases hu
          rw [List.getElem?_range hi] at hu
          cases hu
          have := (hx i (by omega)).1
          rwa [addr_add] at this
    · intro k x' y hx' hy'
      rw [List.getElem?_map] at hx' hy'
      have hi : k < len := by
        rcases Nat.lt_or_ge k len with h | h
        · exact h
        · rw [List.getElem?_eq_none (by simpa using h)] at hx'
          cases hx'
      rw [List.getElem?_range hi] at hx' hy'
      cases hx'
      cases hy'
      exact (hY k hi).1
    · rw [hxx]
      have := bulk_sum (sz := sz) (Y := Y) (D := D) (List.range len) fun i hi => (hY i (List.mem_range.1 hi)).2
      show ((List.range len).map Y |>.map sz).sum + 1 ≤ Rows.uptoBulkAll ((List.range len).map D) + Rows.uptoBulkAll _ + 1
      omega
end
theorem openb_segs {H : Type} {enc : TypeId × Value → H} {W : World} {v0 : Value} {d0 : DataW H} {p0 : List MemPlace} {base : Nat} (hv : Value.okWide Try.prog W .any base 24 v0)
    (h0 : DataW.Trod enc Try.prog W 0 (fun _ => true) true 24 v0 d0 p0) : ∃ (p : Option Addr) (cap : Nat) (l : List (List (List (List UInt8)))), v0 = .slice p l.length cap ∧ LVp ElR W p l ∧ sz4 l ≤ Rows.uptoBulk d0 := by
  obtain ⟨a0, len0, cap0, rfl⟩ := okWide_slice Try.underlying24 hv
  obtain ⟨fuel, hf⟩ := h0
  have hcs : (Value.slice a0 len0 cap0).cells.toList = [.slice a0 len0 cap0] := by simp [Value.cells]
  rw [hcs] at hf
  obtain ⟨l, ⟨p, cap, h1, h2⟩, h3⟩ := opensb_lv Try.underlying24 (by kernel_rfl) (opensb_lv Try.underlying37 (by kernel_rfl) (opensb_lv Try.underlying43 (by kernel_rfl) (opensb_str Try.underlying9))) fuel _ _ hf
  exact ⟨p, cap, l, h1, h2, h3⟩
theorem openb_by {H : Type} {enc : TypeId × Value → H} {W : World} {v0 : Value} {d0 : DataW H} {p0 : List MemPlace} {base : Nat} (hv : Value.okWide Try.prog W .any base 26 v0)
    (h0 : DataW.Trod enc Try.prog W 0 (fun _ => true) true 26 v0 d0 p0) : ∃ (p : Option Addr) (cap : Nat) (l : List UInt8), v0 = .slice p l.length cap ∧ LVp ByR W p l := by
  obtain ⟨a0, len0, cap0, rfl⟩ := okWide_slice Try.underlying26 hv
  obtain ⟨fuel, hf⟩ := h0
  have hcs : (Value.slice a0 len0 cap0).cells.toList = [.slice a0 len0 cap0] := by simp [Value.cells]
  rw [hcs] at hf
  obtain ⟨l, ⟨p, cap, h1, h2⟩, h3⟩ := opensb_lv Try.underlying26 (by kernel_rfl) (opensb_u8 Try.underlying5) fuel _ _ hf
  exact ⟨p, cap, l, h1, h2⟩
end Go.Proofs.Ytppegdbelgobiaa
/- LexWrites holds for every input of bulk at most 1048576 (values and letters, each counted each time it is reached): the program's own answer is true; each argument reads afterwards as it read before. -/
namespace Go.Proofs.Ytppegdbelgobiaa
open Go.ChangeShapes Go.WideShapes Go.ChangeAt Go.RowKit Tw
set_option maxRecDepth 100000 in
theorem lexWrites_lifted (os : Os) (started : os.Started) (H : Type) (enc : TypeId × Value → H) (F : Stop.Interp) :
    ReturnsInHanded {} Try.checked os 4 .any ((Rows.OpenSpec.upto Rows.lexWritesSpec).pre6 enc Try.prog Try.f4 Rows.lexWritesUptoRow.domain false) (((Rows.OpenSpec.upto Rows.lexWritesSpec).at F).post enc Try.prog Try.f4 false true false false) := by
  refine returnsInHanded_of_cond (C := Try.checked) (s := Rows.OpenSpec.upto Rows.lexWritesSpec) (k := Rows.uptoSmall) rfl own started (by kernel_rfl) Try.func4
    (OpenSpec.witness (enc := enc) (C := Try.checked) (s := Rows.OpenSpec.upto Rows.lexWritesSpec) (k := Rows.uptoSmall) rfl false ⟨#[], #[.slice none 0 0], []⟩ 8 (by kernel_rfl) (by kernel_rfl) (by kernel_rfl)
      (x := ([.nil], [], [])) (by kernel_rfl) rfl (by kernel_rfl)) ?_
  intro W base args ds gs before hval0 hW _ hk _
  have hval : ∀ (j : Nat) t v, Try.f4.params[j]? = some t → args[j]? = some v → Value.okWide Try.prog W .any base t v := hval0
  have hW2 := hW
  obtain ⟨p, q, hA0, hV, rfl, hfz, hnd⟩ := hW2
  have hA : DataW.TrodAll enc Try.prog W 0 (fun _ => true) true Try.f4.params.toList args.toList ds p := hA0
  rw [Try.params4] at hA hval
  obtain ⟨v0, vs0, d0, ds0, p0, q0, hargs, rfl, rfl, h0, r0⟩ := trodAll_cons hA
  obtain ⟨rfl, rfl, rfl⟩ := trodAll_nil r0
  obtain rfl : args = #[v0] := by cases args; simp_all
  obtain ⟨rfl, rfl⟩ := trodVars_none hV
  have hk2 := of_decide_eq_true hk
  simp only [List.cons_append, List.nil_append, Rows.uptoBulkAll] at hk2
  have k0 := h0
  have lt0 : ∀ x ∈ p0, x.block < W.heap.size := by obtain ⟨m, hm⟩ := k0; exact DataW.trod_lt m _ _ _ hm
  obtain ⟨p0_, c0, l0, rfl, hb0, sz0⟩ := openb_segs (hval 0 24 v0 rfl rfl) h0
  clear hA0 hval0
  refine (LexWrites_law W l0 p0_ c0 hb0 (by omega)).mono fun e W' ⟨he, bel⟩ => ?_
  subst he
  exact ⟨_, rfl, _, _, _, [], _, [], hW, (trodAll_cons_mk (shut_bool Try.underlying4 _) trodAll_mk0), (trodAll_cons_mk (Below.trod laidOut (by kernel_rfl) (of_decide_eq_true (by kernel_rfl)) k0 bel lt0) trodAll_mk0), rfl, bel.frame _, fun h => by cases h⟩
theorem lexWrites_proved : Rows.LexWritesUptoSaid :=
  OpenClaim.holds_of_cond 4 Try.f4 rfl rfl rfl rfl rfl rfl rfl ⟨rfl, rfl, rfl, rfl, rfl⟩ rfl rfl rfl rfl rfl (by kernel_rfl) Try.func4 (by kernel_rfl)
    (of_decide_eq_true (by kernel_rfl)) (by unfold Func.isWrapper; first | (rw [if_pos (by decide +kernel)]; kernel_rfl) | (rw [if_neg (by decide +kernel)]; exact ⟨rfl, rfl⟩))
    (fun os started H enc _ F => lexWrites_lifted os started H enc F)
#print axioms lexWrites_proved
end Go.Proofs.Ytppegdbelgobiaa

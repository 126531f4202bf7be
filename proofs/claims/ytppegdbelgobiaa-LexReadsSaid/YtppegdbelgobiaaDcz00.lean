import Derived.Test.YtppegdbelgobiaaG00
import Derived.Test.YtppegdbelgobiaaG04
import Derived.Test.YtppegdbelgobiaaG01
import Derived.Deep.Strs
import Derived.JoinedCond
import Derived.Deep.Slices
import Derived.Shelf.Strings.Builder1
import Derived.Shelf.Strings.Builder2
import Derived.Shelf.Strings.BuilderF
import Derived.Shelf.Strings.BuilderK
import Derived.Shelf.Strings.Prefix
import Derived.Shelf.Bits.Mul64
import Derived.Shelf.Strings.Repeat
import Derived.Test.YtppegdbelgobiaaProg
/- Part of the proof: So, Bm, Bp, Bq, BU, Sh, Bs, Lp, Lq, Bx, By. -/
set_option linter.unusedVariables false
set_option linter.unusedSimpArgs false
set_option linter.unusedSectionVars false
/- Lists of lists that came in: they read as given elements. Over any program. -/
namespace Tw
open Go Go.RowKit Go.Proofs.Ytppegdbelgobiaa Go.Deep Go.ChangeShapes Go.WideShapes
section
variable {H : Type} {enc : TypeId × Value → H} {P : Program} {W : World} {base : Nat} {spare : Nat → Bool} {held : Bool}
def Opens {α : Type} (R : World → Value → α → Prop) (enc : TypeId × Value → H) (P : Program) (W : World) (base : Nat) (spare : Nat → Bool) (held : Bool) (t : TypeId) : Prop :=
  ∀ (fuel : Nat) (v : Value) (x : DataW H × List MemPlace), DataW.trod enc P W base spare held fuel t [v] = some x → ∃ y : α, R W v y
theorem opens_str {e : TypeId} (he : P.underlying e = some .string) : Opens StrR enc P W base spare held e := by
  intro fuel v x h
  obtain ⟨s, h1, h2, h3⟩ := DataW.trod_string he h
  have hv : v = .string s := by simpa using h1
  refine ⟨s.data.toList, ?_⟩
  show v = strV s.data.toList
  rw [hv]
  cases s
  simp [strV]
theorem opens_lv {α : Type} [Inhabited α] {R : World → Value → α → Prop} {t e : TypeId} (ht : P.underlying t = some (.slice e)) (hc : P.cellsOf e = 1) (hR : Opens R enc P W base spare held e) : Opens (LV R) enc P W base spare held t := by
  intro fuel v x h
  rcases open_slice1 ht hc h with ⟨hv, _⟩ | ⟨a, len, cap, m, n, V, D, Pl, hv, hb, hl, hm, hmm, _, hx⟩
  · have hv : v = .slice none 0 0 := by simpa using hv
    exact ⟨[], none, 0, hv, [], .inl rfl, rfl, fun k x y h => by simp at h⟩
  · have hv : v = .slice (some a) len cap := by simpa using hv
    have hlm : len ≤ m := by rw [hmm]; split <;> omega
    obtain ⟨Y, hY⟩ := choose_lt (α := α) (p := fun i y => R W (V i) y) (fun i (hi : i < len) => hR n (V i) _ (hx i (by omega)).2)
    refine ⟨(List.range len).map Y, some a, cap, by rw [hv]; simp, (List.range len).map V, ?_, by simp, ?_⟩
    · by_cases h0 : len = 0
      · subst h0
        exact .inl rfl
      · obtain ⟨b, off, spot⟩ := a
        have hc0 := (hx 0 (by omega)).1
        have hspot : spot = none := by simpa [Addr.add] using World.cell?_spot hc0
        subst hspot
        refine .inr ⟨b, off, rfl, ?_, fun i u hu => ?_⟩
        · rw [addr_add] at hc0
          exact World.block_lt_of_cell? _ _ hc0
        · rw [List.getElem?_map] at hu
          have hi : i < len := by
            rcases Nat.lt_or_ge i len with h | h
            · exact h
            · rw [List.getElem?_eq_none (by simpa using h)] at hu
              cases hu
          rw [List.getElem?_range hi] at hu
          cases hu
          have := (hx i (by omega)).1
          rwa [addr_add] at this
    · intro k x' y hx' hy'
      rw [List.getElem?_map] at hx' hy'
      have hi : k < len := by
        rcases Nat.lt_or_ge k len with h | h
        · exact h
        · rw [List.getElem?_eq_none (by simpa using h)] at hx'
          cases hx'
      rw [List.getElem?_range hi] at hx' hy'
      cases hx'
      cases hy'
      exact hY k hi
end
end Tw
namespace Go.Proofs.Ytppegdbelgobiaa
open Go Go.RowKit Tw
theorem last_q {t : List UInt8} {p e : Nat} {x : UInt8} (h : readT t = .bad p e) (hx : t[p]? = some x) (h63 : x.toNat = 63) (hl : t.length < p + 2) (hs : t.length ≤ 2000) : e = 41 := by
  have hp := (List.getElem?_eq_some_iff.1 hx).1
  unfold readT at h
  rw [if_neg (by omega)] at h
  match hr : runS 0 t ⟨[], .out⟩, h with
  | .bad p' e', h =>
    cases h
    obtain ⟨a, y, b, s1, rfl, h1, h2⟩ := run_split t 0 hr
    rw [Nat.zero_add] at h2
    have hc := run_count a 0 h1
    rw [List.length_append, List.length_cons] at hs hl
    obtain ⟨_, ⟨rfl, hn⟩ | ⟨es, cs, c, hm⟩⟩ := step_bad h2
    · have hy : y = x := by simpa using hx
      subst hy
      have hin : ∀ {segs : List Sgm} {es : List Elt} {cs : List Cmp} {c : Cmp}, inside a.length y segs es cs c ≠ .bad a.length e := by
        intro segs es cs c hb
        rw [ins_63 (r := 63) (n := 1) (.inl ⟨h63.symm, rfl, by omega⟩) rfl] at hb
        cases hb
      obtain ⟨segs, md⟩ := s1
      have hc : segs.length ≤ [].length + a.length := hc
      simp only [List.length_nil] at hc
      cases md with
      | out =>
        simp only [step] at h2
        split at h2
        · cases h2
        · split at h2
          · omega
          · exact absurd h2 hin
      | ins es cs c => exact absurd h2 hin
      | rel q es cs c => exact hn.elim
    · obtain ⟨segs, md⟩ := s1
      cases hm
      obtain ⟨a', z, s0, rfl, rfl, _⟩ := run_rel h1
      rw [List.length_append, List.length_singleton] at hl
      omega
  | .ok ⟨segs, .ins es cs c⟩, h => cases h; omega
  | .ok ⟨segs, .rel q es cs c⟩, h => cases h; rfl
theorem run_ne : ∀ (l : List UInt8) (i : Nat) {s : Sta} {p e : Nat}, runS i l s = .bad p e → e ≠ 0 := by
  intro l i s p e h
  obtain ⟨a, x, b, s1, _, _, h3⟩ := run_split l i h
  exact step_ne h3
theorem bad_ne {l : List UInt8} {p e : Nat} (h : readT l = .bad p e) : ¬ e = 0 := by
  unfold readT at h
  split at h
  · cases h; decide
  · match hr : runS 0 l ⟨[], .out⟩, h with
    | .bad p' e', h => cases h; exact run_ne _ _ hr
    | .ok ⟨segs, .ins es cs c⟩, h => cases h; decide
    | .ok ⟨segs, .rel q es cs c⟩, h => cases h; decide
set_option maxRecDepth 100000 in
set_option maxHeartbeats 4000000 in
theorem LexBegins_law (w : World) (t o : List UInt8) : Calls Try.prog 8 #[strV t, strV o] w fun e w' => e = .returned (.bool true) ∧ Below w.heap.size w w' := by
  by_cases hl : 2000 < t.length
  · skip
    go_enter Try.func8, Try.ntmps8
    refine wp_seq ?_
    refine wp_region_L (W0 := w) [] (KS.start w) ?_
    refine lm (v := .bool false) rfl rfl ?_
    refine wpL_done (fun W1 hW1 => ?_)
    refine (show Code.wp _ _ _ _ _ from ?_)
    refine wp_seq ?_
    refine wp_seq ?_
    refine wp_region_L (W0 := w) [] (hW1) ?_
    refine lv (v := .bool true) rfl rfl (yb_call (f := 10) (args := #[]) (fun _ => by kernel_rfl) fun W hW => awake_any W) ?_
    refine lm (v := .bool false) rfl rfl ?_
    refine wpL_done (fun W2 hW2 => ?_)
    refine (show Code.wp _ _ _ _ _ from ?_)
    refine wp_cond_false rfl ?_
    refine wp_skip ?_
    refine (show Code.wp _ _ _ _ _ from ?_)
    refine wp_seq ?_
    refine wp_seq ?_
    refine wp_region_L (W0 := w) [] (hW2) ?_
    refine lm (v := strV t) rfl rfl ?_
    refine lp (v := .int .i64 ((t.length : Nat) : Int)) rfl rfl (run_lenS (l := t) rfl Try.underlying9 (by kernel_rfl)) ?_
    refine lp (v := .bool true) rfl rfl (run_bin rfl (vx := (.int .i64 ((t.length : Nat) : Int))) (vy := (.int .i64 ((2000 : Nat) : Int))) (by kernel_rfl) (by kernel_rfl) fun w => bn_gtr (decide_eq_true hl) w) ?_
    refine lm (v := .bool true) rfl rfl ?_
    refine ln rfl ?_
    refine ln rfl ?_
    refine ln rfl ?_
    refine lm (v := .bool true) rfl rfl ?_
    refine wpL_done (fun W3 hW3 => ?_)
    refine (show Code.wp _ _ _ _ _ from ?_)
    refine wp_cond_true rfl ?_
    refine wp_seq ?_
    refine wp_region_L (W0 := w) [] (hW3) ?_
    refine lm (v := .bool true) rfl rfl ?_
    refine wpL_done (fun W4 hW4 => ?_)
    refine (show Code.wp _ _ _ _ _ from ?_)
    refine wp_ret ?_
    try simp only [inBlock_ret, then_ret]
    refine bodyPost_ret (v := .bool true) ?_ rfl ?_
    · kernel_rfl
    · exact ⟨rfl, (hW4).1⟩
  by_cases hl2 : 2000 < o.length
  · skip
    go_enter Try.func8, Try.ntmps8
    refine wp_seq ?_
    refine wp_region_L (W0 := w) [] (KS.start w) ?_
    refine lm (v := .bool false) rfl rfl ?_
    refine wpL_done (fun W1 hW1 => ?_)
    refine (show Code.wp _ _ _ _ _ from ?_)
    refine wp_seq ?_
    refine wp_seq ?_
    refine wp_region_L (W0 := w) [] (hW1) ?_
    refine lv (v := .bool true) rfl rfl (yb_call (f := 10) (args := #[]) (fun _ => by kernel_rfl) fun W hW => awake_any W) ?_
    refine lm (v := .bool false) rfl rfl ?_
    refine wpL_done (fun W2 hW2 => ?_)
    refine (show Code.wp _ _ _ _ _ from ?_)
    refine wp_cond_false rfl ?_
    refine wp_skip ?_
    refine (show Code.wp _ _ _ _ _ from ?_)
    refine wp_seq ?_
    refine wp_seq ?_
    refine wp_region_L (W0 := w) [] (hW2) ?_
    refine lm (v := strV t) rfl rfl ?_
    refine lp (v := .int .i64 ((t.length : Nat) : Int)) rfl rfl (run_lenS (l := t) rfl Try.underlying9 (by kernel_rfl)) ?_
    refine lp (v := .bool false) rfl rfl (run_bin rfl (vx := (.int .i64 ((t.length : Nat) : Int))) (vy := (.int .i64 ((2000 : Nat) : Int))) (by kernel_rfl) (by kernel_rfl) fun w => bn_gtr (decide_eq_false hl) w) ?_
    refine lm (v := .bool false) rfl rfl ?_
    refine lm (v := strV o) rfl rfl ?_
    refine lp (v := .int .i64 ((o.length : Nat) : Int)) rfl rfl (run_lenS (l := o) rfl Try.underlying9 (by kernel_rfl)) ?_
    refine lp (v := .bool true) rfl rfl (run_bin rfl (vx := (.int .i64 ((o.length : Nat) : Int))) (vy := (.int .i64 ((2000 : Nat) : Int))) (by kernel_rfl) (by kernel_rfl) fun w => bn_gtr (decide_eq_true hl2) w) ?_
    refine lm (v := .bool true) rfl rfl ?_
    refine wpL_done (fun W3 hW3 => ?_)
    refine (show Code.wp _ _ _ _ _ from ?_)
    refine wp_cond_true rfl ?_
    refine wp_seq ?_
    refine wp_region_L (W0 := w) [] (hW3) ?_
    refine lm (v := .bool true) rfl rfl ?_
    refine wpL_done (fun W4 hW4 => ?_)
    refine (show Code.wp _ _ _ _ _ from ?_)
    refine wp_ret ?_
    try simp only [inBlock_ret, then_ret]
    refine bodyPost_ret (v := .bool true) ?_ rfl ?_
    · kernel_rfl
    · exact ⟨rfl, (hW4).1⟩
  cases hr : readT t with
  | ok A0 =>
    go_enter Try.func8, Try.ntmps8
    refine wp_seq ?_
    refine wp_region_L (W0 := w) [] (KS.start w) ?_
    refine lm (v := .bool false) rfl rfl ?_
    refine wpL_done (fun W1 hW1 => ?_)
    refine (show Code.wp _ _ _ _ _ from ?_)
    refine wp_seq ?_
    refine wp_seq ?_
    refine wp_region_L (W0 := w) [] (hW1) ?_
    refine lv (v := .bool true) rfl rfl (yb_call (f := 10) (args := #[]) (fun _ => by kernel_rfl) fun W hW => awake_any W) ?_
    refine lm (v := .bool false) rfl rfl ?_
    refine wpL_done (fun W2 hW2 => ?_)
    refine (show Code.wp _ _ _ _ _ from ?_)
    refine wp_cond_false rfl ?_
    refine wp_skip ?_
    refine (show Code.wp _ _ _ _ _ from ?_)
    refine wp_seq ?_
    refine wp_seq ?_
    refine wp_region_L (W0 := w) [] (hW2) ?_
    refine lm (v := strV t) rfl rfl ?_
    refine lp (v := .int .i64 ((t.length : Nat) : Int)) rfl rfl (run_lenS (l := t) rfl Try.underlying9 (by kernel_rfl)) ?_
    refine lp (v := .bool false) rfl rfl (run_bin rfl (vx := (.int .i64 ((t.length : Nat) : Int))) (vy := (.int .i64 ((2000 : Nat) : Int))) (by kernel_rfl) (by kernel_rfl) fun w => bn_gtr (decide_eq_false hl) w) ?_
    refine lm (v := .bool false) rfl rfl ?_
    refine lm (v := strV o) rfl rfl ?_
    refine lp (v := .int .i64 ((o.length : Nat) : Int)) rfl rfl (run_lenS (l := o) rfl Try.underlying9 (by kernel_rfl)) ?_
    refine lp (v := .bool false) rfl rfl (run_bin rfl (vx := (.int .i64 ((o.length : Nat) : Int))) (vy := (.int .i64 ((2000 : Nat) : Int))) (by kernel_rfl) (by kernel_rfl) fun w => bn_gtr (decide_eq_false hl2) w) ?_
    refine lm (v := .bool false) rfl rfl ?_
    refine wpL_done (fun W3 hW3 => ?_)
    refine (show Code.wp _ _ _ _ _ from ?_)
    refine wp_cond_false rfl ?_
    refine wp_skip ?_
    refine (show Code.wp _ _ _ _ _ from ?_)
    refine wp_seq ?_
    refine wp_region_L (W0 := w) [] (hW3) ?_
    refine lm (v := strV t) rfl rfl ?_
    refine wpL_c (f := 15) (args := #[strV t]) (RdK w A0) rfl (by kernel_rfl) (fun _ => (by kernel_rfl)) (fun W hW => Read_ok hr (by first | omega | (simp only [List.length_append, List.length_cons, List.length_nil]; omega)) W (hW.sub (fun _ h => by cases h))) (fun _ => by simp only [List.setIfInBounds_toArray, List.set_cons_succ, List.set_cons_zero] <;> rfl) ?_
    rintro _ T1 ⟨p1, c1, rfl, M1⟩
    refine lm (v := .tuple #[.slice p1 A0.length c1, .int .i64 0, .int .i64 0]) rfl rfl ?_
    refine lm (v := .slice p1 A0.length c1) rfl rfl ?_
    refine lm (v := .int .i64 0) rfl rfl ?_
    refine lm (v := .int .i64 0) rfl rfl ?_
    refine lm (v := .slice p1 A0.length c1) rfl rfl ?_
    refine lm (v := .int .i64 0) rfl rfl ?_
    refine lm (v := .int .i64 0) rfl rfl ?_
    refine wpL_done (fun W4 hW4 => ?_)
    have HB3 := Lib.hid ((lv_lvp ((sgo_sgr M1) W4 ((hW4).sub (fun p hp => by first | exact hp | (simp only [List.mem_cons, List.mem_append, List.nil_append, List.not_mem_nil, or_assoc, or_false, false_or, List.cons_append, List.append_assoc] at hp ⊢ <;> grind))))))
    have hbz2 : Below w.heap.size w W4 := (hW4).1
    refine (show Code.wp _ _ _ _ _ from ?_)
    refine wp_seq ?_
    refine wp_seq ?_
    refine wp_region_L (W0 := W4) [] (KS.start W4) ?_
    refine lm (v := .int .i64 0) rfl rfl ?_
    refine lm (v := .bool true) rfl rfl ?_
    refine lm (v := .bool true) rfl rfl ?_
    refine ln rfl ?_
    refine ln rfl ?_
    refine lm (v := .bool true) rfl rfl ?_
    refine wpL_done (fun W5 hW5 => ?_)
    refine (show Code.wp _ _ _ _ _ from ?_)
    refine wp_cond_true rfl ?_
    refine wp_seq ?_
    refine wp_region_L (W0 := W4) [] (hW5) ?_
    refine lm (v := .bool true) rfl rfl ?_
    refine wpL_done (fun W6 hW6 => ?_)
    refine (show Code.wp _ _ _ _ _ from ?_)
    refine wp_ret ?_
    try simp only [inBlock_ret, then_ret]
    refine bodyPost_ret (v := .bool true) ?_ rfl ?_
    · kernel_rfl
    · exact ⟨rfl, (Below.trans hbz2 (Below.mono (hW6).1 hbz2.size))⟩
  | bad p er =>
    have hp := read_where hr (by omega)
    have hne : ¬ er = 0 := bad_ne hr
    by_cases h42 : er = 42
    · skip
      go_enter Try.func8, Try.ntmps8
      refine wp_seq ?_
      refine wp_region_L (W0 := w) [] (KS.start w) ?_
      refine lm (v := .bool false) rfl rfl ?_
      refine wpL_done (fun W1 hW1 => ?_)
      refine (show Code.wp _ _ _ _ _ from ?_)
      refine wp_seq ?_
      refine wp_seq ?_
      refine wp_region_L (W0 := w) [] (hW1) ?_
      refine lv (v := .bool true) rfl rfl (yb_call (f := 10) (args := #[]) (fun _ => by kernel_rfl) fun W hW => awake_any W) ?_
      refine lm (v := .bool false) rfl rfl ?_
      refine wpL_done (fun W2 hW2 => ?_)
      refine (show Code.wp _ _ _ _ _ from ?_)
      refine wp_cond_false rfl ?_
      refine wp_skip ?_
      refine (show Code.wp _ _ _ _ _ from ?_)
      refine wp_seq ?_
      refine wp_seq ?_
      refine wp_region_L (W0 := w) [] (hW2) ?_
      refine lm (v := strV t) rfl rfl ?_
      refine lp (v := .int .i64 ((t.length : Nat) : Int)) rfl rfl (run_lenS (l := t) rfl Try.underlying9 (by kernel_rfl)) ?_
      refine lp (v := .bool false) rfl rfl (run_bin rfl (vx := (.int .i64 ((t.length : Nat) : Int))) (vy := (.int .i64 ((2000 : Nat) : Int))) (by kernel_rfl) (by kernel_rfl) fun w => bn_gtr (decide_eq_false hl) w) ?_
      refine lm (v := .bool false) rfl rfl ?_
      refine lm (v := strV o) rfl rfl ?_
      refine lp (v := .int .i64 ((o.length : Nat) : Int)) rfl rfl (run_lenS (l := o) rfl Try.underlying9 (by kernel_rfl)) ?_
      refine lp (v := .bool false) rfl rfl (run_bin rfl (vx := (.int .i64 ((o.length : Nat) : Int))) (vy := (.int .i64 ((2000 : Nat) : Int))) (by kernel_rfl) (by kernel_rfl) fun w => bn_gtr (decide_eq_false hl2) w) ?_
      refine lm (v := .bool false) rfl rfl ?_
      refine wpL_done (fun W3 hW3 => ?_)
      refine (show Code.wp _ _ _ _ _ from ?_)
      refine wp_cond_false rfl ?_
      refine wp_skip ?_
      refine (show Code.wp _ _ _ _ _ from ?_)
      refine wp_seq ?_
      refine wp_region_L (W0 := w) [] (hW3) ?_
      refine lm (v := strV t) rfl rfl ?_
      refine wpL_c (f := 15) (args := #[strV t]) (fun v Tz => v = .tuple #[.slice none 0 0, .int .i64 ((p : Nat) : Int), .int .i64 ((er : Nat) : Int)] ∧ Tz = []) rfl (by kernel_rfl) (fun _ => (by kernel_rfl)) (fun W hW => Read_bad hr (by first | omega | (simp only [List.length_append, List.length_cons, List.length_nil]; omega)) W (hW.sub (fun _ h => by cases h))) (fun _ => by simp only [List.setIfInBounds_toArray, List.set_cons_succ, List.set_cons_zero] <;> rfl) ?_
      rintro _ _ ⟨rfl, rfl⟩
      refine lm (v := .tuple #[.slice none 0 0, .int .i64 ((p : Nat) : Int), .int .i64 ((er : Nat) : Int)]) rfl rfl ?_
      refine lm (v := .slice none 0 0) rfl rfl ?_
      refine lm (v := .int .i64 ((p : Nat) : Int)) rfl rfl ?_
      refine lm (v := .int .i64 ((er : Nat) : Int)) rfl rfl ?_
      refine lm (v := .slice none 0 0) rfl rfl ?_
      refine lm (v := .int .i64 ((p : Nat) : Int)) rfl rfl ?_
      refine lm (v := .int .i64 ((er : Nat) : Int)) rfl rfl ?_
      refine wpL_done (fun W4 hW4 => ?_)
      refine (show Code.wp _ _ _ _ _ from ?_)
      refine wp_seq ?_
      refine wp_seq ?_
      refine wp_region_L (W0 := w) [] (hW4) ?_
      refine lm (v := .int .i64 ((er : Nat) : Int)) rfl rfl ?_
      refine lp (v := .bool false) rfl rfl (run_bin rfl (vx := (.int .i64 ((er : Nat) : Int))) (vy := (.int .i64 ((0 : Nat) : Int))) (by kernel_rfl) (by kernel_rfl) fun w => bn_eql (decide_eq_false hne) w) ?_
      refine lm (v := .bool false) rfl rfl ?_
      refine lm (v := .int .i64 ((er : Nat) : Int)) rfl rfl ?_
      refine lp (v := .bool true) rfl rfl (run_bin rfl (vx := (.int .i64 ((er : Nat) : Int))) (vy := (.int .i64 ((42 : Nat) : Int))) (by kernel_rfl) (by kernel_rfl) fun w => bn_eql (decide_eq_true h42) w) ?_
      refine lm (v := .bool true) rfl rfl ?_
      refine wpL_done (fun W5 hW5 => ?_)
      refine (show Code.wp _ _ _ _ _ from ?_)
      refine wp_cond_true rfl ?_
      refine wp_seq ?_
      refine wp_region_L (W0 := w) [] (hW5) ?_
      refine lm (v := .bool true) rfl rfl ?_
      refine wpL_done (fun W6 hW6 => ?_)
      refine (show Code.wp _ _ _ _ _ from ?_)
      refine wp_ret ?_
      try simp only [inBlock_ret, then_ret]
      refine bodyPost_ret (v := .bool true) ?_ rfl ?_
      · kernel_rfl
      · exact ⟨rfl, (hW6).1⟩
    obtain ⟨x, hx, h1, h2⟩ := read_first hr (by omega) h42
    have hpl := (List.getElem?_eq_some_iff.1 hx).1
    have h1 : ∃ A1, readT (t.take p) = .ok A1 ∨ readT (t.take p) = .bad p 42 := by
      rcases h1 with ⟨A1, h⟩ | h
      · exact ⟨A1, .inl h⟩
      · exact ⟨[], .inr h⟩
    obtain ⟨A1, h1⟩ := h1
    have ltp : (t.take p).length = p := by rw [List.length_take]; omega
    have lt2 : (t.take (p + 2)).length ≤ t.length := by rw [List.length_take]; omega
    have lt1 : (t.take (p + 1)).length ≤ t.length := by rw [List.length_take]; omega
    rcases h1 with h1 | h1
    · skip
      by_cases h63 : x.toNat = 63
      · rcases h2 with ⟨_, he, hend⟩ | h2
        · skip
          go_enter Try.func8, Try.ntmps8
          refine wp_seq ?_
          refine wp_region_L (W0 := w) [] (KS.start w) ?_
          refine lm (v := .bool false) rfl rfl ?_
          refine wpL_done (fun W1 hW1 => ?_)
          refine (show Code.wp _ _ _ _ _ from ?_)
          refine wp_seq ?_
          refine wp_seq ?_
          refine wp_region_L (W0 := w) [] (hW1) ?_
          refine lv (v := .bool true) rfl rfl (yb_call (f := 10) (args := #[]) (fun _ => by kernel_rfl) fun W hW => awake_any W) ?_
          refine lm (v := .bool false) rfl rfl ?_
          refine wpL_done (fun W2 hW2 => ?_)
          refine (show Code.wp _ _ _ _ _ from ?_)
          refine wp_cond_false rfl ?_
          refine wp_skip ?_
          refine (show Code.wp _ _ _ _ _ from ?_)
          refine wp_seq ?_
          refine wp_seq ?_
          refine wp_region_L (W0 := w) [] (hW2) ?_
          refine lm (v := strV t) rfl rfl ?_
          refine lp (v := .int .i64 ((t.length : Nat) : Int)) rfl rfl (run_lenS (l := t) rfl Try.underlying9 (by kernel_rfl)) ?_
          refine lp (v := .bool false) rfl rfl (run_bin rfl (vx := (.int .i64 ((t.length : Nat) : Int))) (vy := (.int .i64 ((2000 : Nat) : Int))) (by kernel_rfl) (by kernel_rfl) fun w => bn_gtr (decide_eq_false hl) w) ?_
          refine lm (v := .bool false) rfl rfl ?_
          refine lm (v := strV o) rfl rfl ?_
          refine lp (v := .int .i64 ((o.length : Nat) : Int)) rfl rfl (run_lenS (l := o) rfl Try.underlying9 (by kernel_rfl)) ?_
          refine lp (v := .bool false) rfl rfl (run_bin rfl (vx := (.int .i64 ((o.length : Nat) : Int))) (vy := (.int .i64 ((2000 : Nat) : Int))) (by kernel_rfl) (by kernel_rfl) fun w => bn_gtr (decide_eq_false hl2) w) ?_
          refine lm (v := .bool false) rfl rfl ?_
          refine wpL_done (fun W3 hW3 => ?_)
          refine (show Code.wp _ _ _ _ _ from ?_)
          refine wp_cond_false rfl ?_
          refine wp_skip ?_
          refine (show Code.wp _ _ _ _ _ from ?_)
          refine wp_seq ?_
          refine wp_region_L (W0 := w) [] (hW3) ?_
          refine lm (v := strV t) rfl rfl ?_
          refine wpL_c (f := 15) (args := #[strV t]) (fun v Tz => v = .tuple #[.slice none 0 0, .int .i64 ((p : Nat) : Int), .int .i64 ((er : Nat) : Int)] ∧ Tz = []) rfl (by kernel_rfl) (fun _ => (by kernel_rfl)) (fun W hW => Read_bad hr (by first | omega | (simp only [List.length_append, List.length_cons, List.length_nil]; omega)) W (hW.sub (fun _ h => by cases h))) (fun _ => by simp only [List.setIfInBounds_toArray, List.set_cons_succ, List.set_cons_zero] <;> rfl) ?_
          rintro _ _ ⟨rfl, rfl⟩
          refine lm (v := .tuple #[.slice none 0 0, .int .i64 ((p : Nat) : Int), .int .i64 ((er : Nat) : Int)]) rfl rfl ?_
          refine lm (v := .slice none 0 0) rfl rfl ?_
          refine lm (v := .int .i64 ((p : Nat) : Int)) rfl rfl ?_
          refine lm (v := .int .i64 ((er : Nat) : Int)) rfl rfl ?_
          refine lm (v := .slice none 0 0) rfl rfl ?_
          refine lm (v := .int .i64 ((p : Nat) : Int)) rfl rfl ?_
          refine lm (v := .int .i64 ((er : Nat) : Int)) rfl rfl ?_
          refine wpL_done (fun W4 hW4 => ?_)
          refine (show Code.wp _ _ _ _ _ from ?_)
          refine wp_seq ?_
          refine wp_seq ?_
          refine wp_region_L (W0 := w) [] (hW4) ?_
          refine lm (v := .int .i64 ((er : Nat) : Int)) rfl rfl ?_
          refine lp (v := .bool false) rfl rfl (run_bin rfl (vx := (.int .i64 ((er : Nat) : Int))) (vy := (.int .i64 ((0 : Nat) : Int))) (by kernel_rfl) (by kernel_rfl) fun w => bn_eql (decide_eq_false hne) w) ?_
          refine lm (v := .bool false) rfl rfl ?_
          refine lm (v := .int .i64 ((er : Nat) : Int)) rfl rfl ?_
          refine lp (v := .bool false) rfl rfl (run_bin rfl (vx := (.int .i64 ((er : Nat) : Int))) (vy := (.int .i64 ((42 : Nat) : Int))) (by kernel_rfl) (by kernel_rfl) fun w => bn_eql (decide_eq_false h42) w) ?_
          refine lm (v := .bool false) rfl rfl ?_
          refine wpL_done (fun W5 hW5 => ?_)
          refine (show Code.wp _ _ _ _ _ from ?_)
          refine wp_cond_false rfl ?_
          refine wp_skip ?_
          refine (show Code.wp _ _ _ _ _ from ?_)
          refine wp_seq ?_
          refine wp_region_L (W0 := w) [] (hW5) ?_
          refine lm (v := strV t) rfl rfl ?_
          refine lm (v := .int .i64 ((p : Nat) : Int)) rfl rfl ?_
          refine lp (v := strV (t.take p)) rfl rfl (run_slH (k2 := .i64) (l := t) (r := (t.take p)) (j := p) rfl Try.underlying9 (by kernel_rfl) (by kernel_rfl) (by omega) rfl) ?_
          refine wpL_c (f := 15) (args := #[strV (t.take p)]) (RdK w A1) rfl (by kernel_rfl) (fun _ => (by kernel_rfl)) (fun W hW => Read_ok h1 (by omega) W (hW.sub (fun _ h => by cases h))) (fun _ => by simp only [List.setIfInBounds_toArray, List.set_cons_succ, List.set_cons_zero] <;> rfl) ?_
          rintro _ T2 ⟨p2, c2, rfl, M2⟩
          refine lm (v := .tuple #[.slice p2 A1.length c2, .int .i64 0, .int .i64 0]) rfl rfl ?_
          refine lm (v := .slice p2 A1.length c2) rfl rfl ?_
          refine lm (v := .int .i64 0) rfl rfl ?_
          refine lm (v := .int .i64 0) rfl rfl ?_
          refine lm (v := .slice p2 A1.length c2) rfl rfl ?_
          refine lm (v := .int .i64 0) rfl rfl ?_
          refine lm (v := .int .i64 0) rfl rfl ?_
          refine wpL_done (fun W6 hW6 => ?_)
          have HB4 := Lib.hid ((lv_lvp ((sgo_sgr M2) W6 ((hW6).sub (fun p hp => by first | exact hp | (simp only [List.mem_cons, List.mem_append, List.nil_append, List.not_mem_nil, or_assoc, or_false, false_or, List.cons_append, List.append_assoc] at hp ⊢ <;> grind))))))
          have hbz3 : Below w.heap.size w W6 := (hW6).1
          refine (show Code.wp _ _ _ _ _ from ?_)
          refine wp_seq ?_
          refine wp_seq ?_
          refine wp_region_L (W0 := W6) [] (KS.start W6) ?_
          refine lm (v := .int .i64 0) rfl rfl ?_
          refine lm (v := .bool false) rfl rfl ?_
          refine lm (v := .bool false) rfl rfl ?_
          refine ln rfl ?_
          refine ln rfl ?_
          refine ln rfl ?_
          refine ln rfl ?_
          refine ln rfl ?_
          refine ln rfl ?_
          refine ln rfl ?_
          refine lm (v := .bool false) rfl rfl ?_
          refine wpL_done (fun W7 hW7 => ?_)
          refine (show Code.wp _ _ _ _ _ from ?_)
          refine wp_cond_false rfl ?_
          refine wp_skip ?_
          refine (show Code.wp _ _ _ _ _ from ?_)
          refine wp_seq ?_
          refine wp_region_L (W0 := W6) [] (hW7) ?_
          refine lm (v := .int .i64 ((p : Nat) : Int)) rfl rfl ?_
          refine lp (v := .int .i64 (((p + 1) : Nat) : Int)) rfl rfl (run_bin rfl (vx := (.int .i64 ((p : Nat) : Int))) (vy := (.int .i64 ((1 : Nat) : Int))) (by kernel_rfl) (by kernel_rfl) fun w => bn_add (z := (p + 1)) rfl (wr_i64 (by omega)) w) ?_
          refine lm (v := .int .i64 (((p + 1) : Nat) : Int)) rfl rfl ?_
          refine wpL_done (fun W8 hW8 => ?_)
          refine (show Code.wp _ _ _ _ _ from ?_)
          refine wp_seq ?_
          refine wp_seq ?_
          refine wp_region_L (W0 := W6) [] (hW8) ?_
          refine lm (v := strV t) rfl rfl ?_
          refine lm (v := .int .i64 ((p : Nat) : Int)) rfl rfl ?_
          refine lp (v := .int .u8 ((x.toNat : Nat) : Int)) rfl rfl (run_idxS (j := .i64) (l := t) (k := p) (b := x) rfl Try.underlying9 (by kernel_rfl) (by kernel_rfl) hx) ?_
          refine lp (v := .bool true) rfl rfl (run_bin rfl (vx := (.int .u8 ((x.toNat : Nat) : Int))) (vy := (.int .u8 ((63 : Nat) : Int))) (by kernel_rfl) (by kernel_rfl) fun w => bn_eql (decide_eq_true h63) w) ?_
          refine wpL_done (fun W9 hW9 => ?_)
          refine (show Code.wp _ _ _ _ _ from ?_)
          refine wp_cond_true rfl ?_
          refine wp_region_L (W0 := W6) [] (hW9) ?_
          refine lm (v := .int .i64 ((p : Nat) : Int)) rfl rfl ?_
          refine lp (v := .int .i64 (((p + 2) : Nat) : Int)) rfl rfl (run_bin rfl (vx := (.int .i64 ((p : Nat) : Int))) (vy := (.int .i64 ((2 : Nat) : Int))) (by kernel_rfl) (by kernel_rfl) fun w => bn_add (z := (p + 2)) rfl (wr_i64 (by omega)) w) ?_
          refine lm (v := strV t) rfl rfl ?_
          refine lp (v := .int .i64 ((t.length : Nat) : Int)) rfl rfl (run_lenS (l := t) rfl Try.underlying9 (by kernel_rfl)) ?_
          refine lp (v := .int .i64 ((t.length : Nat) : Int)) rfl rfl (run_minR (k := .i64) (k2 := .i64) (u := (((p + 2) : Nat) : Int)) (v := ((t.length : Nat) : Int)) rfl (by kernel_rfl) (by kernel_rfl) (by rw [if_pos (by omega)])) ?_
          refine lm (v := .int .i64 ((t.length : Nat) : Int)) rfl rfl ?_
          refine wpL_done (fun W10 hW10 => ?_)
          refine (show Code.wp _ _ _ _ _ from ?_)
          refine wp_seq ?_
          refine wp_seq ?_
          refine wp_region_L (W0 := W6) [] (hW10) ?_
          refine lm (v := .int .i64 ((er : Nat) : Int)) rfl rfl ?_
          refine lp (v := .bool true) rfl rfl (run_bin rfl (vx := (.int .i64 ((er : Nat) : Int))) (vy := (.int .i64 ((41 : Nat) : Int))) (by kernel_rfl) (by kernel_rfl) fun w => bn_eql (decide_eq_true he) w) ?_
          refine lm (v := .bool true) rfl rfl ?_
          refine lm (v := .int .i64 ((t.length : Nat) : Int)) rfl rfl ?_
          refine lm (v := .int .i64 ((p : Nat) : Int)) rfl rfl ?_
          refine lp (v := .int .i64 (((p + 1) : Nat) : Int)) rfl rfl (run_bin rfl (vx := (.int .i64 ((p : Nat) : Int))) (vy := (.int .i64 ((1 : Nat) : Int))) (by kernel_rfl) (by kernel_rfl) fun w => bn_add (z := (p + 1)) rfl (wr_i64 (by omega)) w) ?_
          refine lp (v := .bool true) rfl rfl (run_bin rfl (vx := (.int .i64 ((t.length : Nat) : Int))) (vy := (.int .i64 (((p + 1) : Nat) : Int))) (by kernel_rfl) (by kernel_rfl) fun w => bn_eql (decide_eq_true hend.symm) w) ?_
          refine lm (v := .bool true) rfl rfl ?_
          refine wpL_done (fun W11 hW11 => ?_)
          refine (show Code.wp _ _ _ _ _ from ?_)
          refine wp_cond_true rfl ?_
          refine wp_seq ?_
          refine wp_region_L (W0 := W6) [] (hW11) ?_
          refine lm (v := .bool true) rfl rfl ?_
          refine wpL_done (fun W12 hW12 => ?_)
          refine (show Code.wp _ _ _ _ _ from ?_)
          refine wp_ret ?_
          try simp only [inBlock_ret, then_ret]
          refine bodyPost_ret (v := .bool true) ?_ rfl ?_
          · kernel_rfl
          · exact ⟨rfl, (Below.trans hbz3 (Below.mono (hW12).1 hbz3.size))⟩
        by_cases hend : t.length < p + 2
        · by_cases he : er = 41
          · skip
            go_enter Try.func8, Try.ntmps8
            refine wp_seq ?_
            refine wp_region_L (W0 := w) [] (KS.start w) ?_
            refine lm (v := .bool false) rfl rfl ?_
            refine wpL_done (fun W1 hW1 => ?_)
            refine (show Code.wp _ _ _ _ _ from ?_)
            refine wp_seq ?_
            refine wp_seq ?_
            refine wp_region_L (W0 := w) [] (hW1) ?_
            refine lv (v := .bool true) rfl rfl (yb_call (f := 10) (args := #[]) (fun _ => by kernel_rfl) fun W hW => awake_any W) ?_
            refine lm (v := .bool false) rfl rfl ?_
            refine wpL_done (fun W2 hW2 => ?_)
            refine (show Code.wp _ _ _ _ _ from ?_)
            refine wp_cond_false rfl ?_
            refine wp_skip ?_
            refine (show Code.wp _ _ _ _ _ from ?_)
            refine wp_seq ?_
            refine wp_seq ?_
            refine wp_region_L (W0 := w) [] (hW2) ?_
            refine lm (v := strV t) rfl rfl ?_
            refine lp (v := .int .i64 ((t.length : Nat) : Int)) rfl rfl (run_lenS (l := t) rfl Try.underlying9 (by kernel_rfl)) ?_
            refine lp (v := .bool false) rfl rfl (run_bin rfl (vx := (.int .i64 ((t.length : Nat) : Int))) (vy := (.int .i64 ((2000 : Nat) : Int))) (by kernel_rfl) (by kernel_rfl) fun w => bn_gtr (decide_eq_false hl) w) ?_
            refine lm (v := .bool false) rfl rfl ?_
            refine lm (v := strV o) rfl rfl ?_
            refine lp (v := .int .i64 ((o.length : Nat) : Int)) rfl rfl (run_lenS (l := o) rfl Try.underlying9 (by kernel_rfl)) ?_
            refine lp (v := .bool false) rfl rfl (run_bin rfl (vx := (.int .i64 ((o.length : Nat) : Int))) (vy := (.int .i64 ((2000 : Nat) : Int))) (by kernel_rfl) (by kernel_rfl) fun w => bn_gtr (decide_eq_false hl2) w) ?_
            refine lm (v := .bool false) rfl rfl ?_
            refine wpL_done (fun W3 hW3 => ?_)
            refine (show Code.wp _ _ _ _ _ from ?_)
            refine wp_cond_false rfl ?_
            refine wp_skip ?_
            refine (show Code.wp _ _ _ _ _ from ?_)
            refine wp_seq ?_
            refine wp_region_L (W0 := w) [] (hW3) ?_
            refine lm (v := strV t) rfl rfl ?_
            refine wpL_c (f := 15) (args := #[strV t]) (fun v Tz => v = .tuple #[.slice none 0 0, .int .i64 ((p : Nat) : Int), .int .i64 ((er : Nat) : Int)] ∧ Tz = []) rfl (by kernel_rfl) (fun _ => (by kernel_rfl)) (fun W hW => Read_bad hr (by first | omega | (simp only [List.length_append, List.length_cons, List.length_nil]; omega)) W (hW.sub (fun _ h => by cases h))) (fun _ => by simp only [List.setIfInBounds_toArray, List.set_cons_succ, List.set_cons_zero] <;> rfl) ?_
            rintro _ _ ⟨rfl, rfl⟩
            refine lm (v := .tuple #[.slice none 0 0, .int .i64 ((p : Nat) : Int), .int .i64 ((er : Nat) : Int)]) rfl rfl ?_
            refine lm (v := .slice none 0 0) rfl rfl ?_
            refine lm (v := .int .i64 ((p : Nat) : Int)) rfl rfl ?_
            refine lm (v := .int .i64 ((er : Nat) : Int)) rfl rfl ?_
            refine lm (v := .slice none 0 0) rfl rfl ?_
            refine lm (v := .int .i64 ((p : Nat) : Int)) rfl rfl ?_
            refine lm (v := .int .i64 ((er : Nat) : Int)) rfl rfl ?_
            refine wpL_done (fun W4 hW4 => ?_)
            refine (show Code.wp _ _ _ _ _ from ?_)
            refine wp_seq ?_
            refine wp_seq ?_
            refine wp_region_L (W0 := w) [] (hW4) ?_
            refine lm (v := .int .i64 ((er : Nat) : Int)) rfl rfl ?_
            refine lp (v := .bool false) rfl rfl (run_bin rfl (vx := (.int .i64 ((er : Nat) : Int))) (vy := (.int .i64 ((0 : Nat) : Int))) (by kernel_rfl) (by kernel_rfl) fun w => bn_eql (decide_eq_false hne) w) ?_
            refine lm (v := .bool false) rfl rfl ?_
            refine lm (v := .int .i64 ((er : Nat) : Int)) rfl rfl ?_
            refine lp (v := .bool false) rfl rfl (run_bin rfl (vx := (.int .i64 ((er : Nat) : Int))) (vy := (.int .i64 ((42 : Nat) : Int))) (by kernel_rfl) (by kernel_rfl) fun w => bn_eql (decide_eq_false h42) w) ?_
            refine lm (v := .bool false) rfl rfl ?_
            refine wpL_done (fun W5 hW5 => ?_)
            refine (show Code.wp _ _ _ _ _ from ?_)
            refine wp_cond_false rfl ?_
            refine wp_skip ?_
            refine (show Code.wp _ _ _ _ _ from ?_)
            refine wp_seq ?_
            refine wp_region_L (W0 := w) [] (hW5) ?_
            refine lm (v := strV t) rfl rfl ?_
            refine lm (v := .int .i64 ((p : Nat) : Int)) rfl rfl ?_
            refine lp (v := strV (t.take p)) rfl rfl (run_slH (k2 := .i64) (l := t) (r := (t.take p)) (j := p) rfl Try.underlying9 (by kernel_rfl) (by kernel_rfl) (by omega) rfl) ?_
            refine wpL_c (f := 15) (args := #[strV (t.take p)]) (RdK w A1) rfl (by kernel_rfl) (fun _ => (by kernel_rfl)) (fun W hW => Read_ok h1 (by omega) W (hW.sub (fun _ h => by cases h))) (fun _ => by simp only [List.setIfInBounds_toArray, List.set_cons_succ, List.set_cons_zero] <;> rfl) ?_
            rintro _ T2 ⟨p2, c2, rfl, M2⟩
            refine lm (v := .tuple #[.slice p2 A1.length c2, .int .i64 0, .int .i64 0]) rfl rfl ?_
            refine lm (v := .slice p2 A1.length c2) rfl rfl ?_
            refine lm (v := .int .i64 0) rfl rfl ?_
            refine lm (v := .int .i64 0) rfl rfl ?_
            refine lm (v := .slice p2 A1.length c2) rfl rfl ?_
            refine lm (v := .int .i64 0) rfl rfl ?_
            refine lm (v := .int .i64 0) rfl rfl ?_
            refine wpL_done (fun W6 hW6 => ?_)
            have HB4 := Lib.hid ((lv_lvp ((sgo_sgr M2) W6 ((hW6).sub (fun p hp => by first | exact hp | (simp only [List.mem_cons, List.mem_append, List.nil_append, List.not_mem_nil, or_assoc, or_false, false_or, List.cons_append, List.append_assoc] at hp ⊢ <;> grind))))))
            have hbz3 : Below w.heap.size w W6 := (hW6).1
            refine (show Code.wp _ _ _ _ _ from ?_)
            refine wp_seq ?_
            refine wp_seq ?_
            refine wp_region_L (W0 := W6) [] (KS.start W6) ?_
            refine lm (v := .int .i64 0) rfl rfl ?_
            refine lm (v := .bool false) rfl rfl ?_
            refine lm (v := .bool false) rfl rfl ?_
            refine ln rfl ?_
            refine ln rfl ?_
            refine ln rfl ?_
            refine ln rfl ?_
            refine ln rfl ?_
            refine ln rfl ?_
            refine ln rfl ?_
            refine lm (v := .bool false) rfl rfl ?_
            refine wpL_done (fun W7 hW7 => ?_)
            refine (show Code.wp _ _ _ _ _ from ?_)
            refine wp_cond_false rfl ?_
            refine wp_skip ?_
            refine (show Code.wp _ _ _ _ _ from ?_)
            refine wp_seq ?_
            refine wp_region_L (W0 := W6) [] (hW7) ?_
            refine lm (v := .int .i64 ((p : Nat) : Int)) rfl rfl ?_
            refine lp (v := .int .i64 (((p + 1) : Nat) : Int)) rfl rfl (run_bin rfl (vx := (.int .i64 ((p : Nat) : Int))) (vy := (.int .i64 ((1 : Nat) : Int))) (by kernel_rfl) (by kernel_rfl) fun w => bn_add (z := (p + 1)) rfl (wr_i64 (by omega)) w) ?_
            refine lm (v := .int .i64 (((p + 1) : Nat) : Int)) rfl rfl ?_
            refine wpL_done (fun W8 hW8 => ?_)
            refine (show Code.wp _ _ _ _ _ from ?_)
            refine wp_seq ?_
            refine wp_seq ?_
            refine wp_region_L (W0 := W6) [] (hW8) ?_
            refine lm (v := strV t) rfl rfl ?_
            refine lm (v := .int .i64 ((p : Nat) : Int)) rfl rfl ?_
            refine lp (v := .int .u8 ((x.toNat : Nat) : Int)) rfl rfl (run_idxS (j := .i64) (l := t) (k := p) (b := x) rfl Try.underlying9 (by kernel_rfl) (by kernel_rfl) hx) ?_
            refine lp (v := .bool true) rfl rfl (run_bin rfl (vx := (.int .u8 ((x.toNat : Nat) : Int))) (vy := (.int .u8 ((63 : Nat) : Int))) (by kernel_rfl) (by kernel_rfl) fun w => bn_eql (decide_eq_true h63) w) ?_
            refine wpL_done (fun W9 hW9 => ?_)
            refine (show Code.wp _ _ _ _ _ from ?_)
            refine wp_cond_true rfl ?_
            refine wp_region_L (W0 := W6) [] (hW9) ?_
            refine lm (v := .int .i64 ((p : Nat) : Int)) rfl rfl ?_
            refine lp (v := .int .i64 (((p + 2) : Nat) : Int)) rfl rfl (run_bin rfl (vx := (.int .i64 ((p : Nat) : Int))) (vy := (.int .i64 ((2 : Nat) : Int))) (by kernel_rfl) (by kernel_rfl) fun w => bn_add (z := (p + 2)) rfl (wr_i64 (by omega)) w) ?_
            refine lm (v := strV t) rfl rfl ?_
            refine lp (v := .int .i64 ((t.length : Nat) : Int)) rfl rfl (run_lenS (l := t) rfl Try.underlying9 (by kernel_rfl)) ?_
            refine lp (v := .int .i64 ((t.length : Nat) : Int)) rfl rfl (run_minR (k := .i64) (k2 := .i64) (u := (((p + 2) : Nat) : Int)) (v := ((t.length : Nat) : Int)) rfl (by kernel_rfl) (by kernel_rfl) (by rw [if_pos (by omega)])) ?_
            refine lm (v := .int .i64 ((t.length : Nat) : Int)) rfl rfl ?_
            refine wpL_done (fun W10 hW10 => ?_)
            refine (show Code.wp _ _ _ _ _ from ?_)
            refine wp_seq ?_
            refine wp_seq ?_
            refine wp_region_L (W0 := W6) [] (hW10) ?_
            refine lm (v := .int .i64 ((er : Nat) : Int)) rfl rfl ?_
            refine lp (v := .bool true) rfl rfl (run_bin rfl (vx := (.int .i64 ((er : Nat) : Int))) (vy := (.int .i64 ((41 : Nat) : Int))) (by kernel_rfl) (by kernel_rfl) fun w => bn_eql (decide_eq_true he) w) ?_
            refine lm (v := .bool true) rfl rfl ?_
            refine lm (v := .int .i64 ((t.length : Nat) : Int)) rfl rfl ?_
            refine lm (v := .int .i64 ((p : Nat) : Int)) rfl rfl ?_
            refine lp (v := .int .i64 (((p + 1) : Nat) : Int)) rfl rfl (run_bin rfl (vx := (.int .i64 ((p : Nat) : Int))) (vy := (.int .i64 ((1 : Nat) : Int))) (by kernel_rfl) (by kernel_rfl) fun w => bn_add (z := (p + 1)) rfl (wr_i64 (by omega)) w) ?_
            refine lp (v := .bool true) rfl rfl (run_bin rfl (vx := (.int .i64 ((t.length : Nat) : Int))) (vy := (.int .i64 (((p + 1) : Nat) : Int))) (by kernel_rfl) (by kernel_rfl) fun w => bn_eql (decide_eq_true (by omega)) w) ?_
            refine lm (v := .bool true) rfl rfl ?_
            refine wpL_done (fun W11 hW11 => ?_)
            refine (show Code.wp _ _ _ _ _ from ?_)
            refine wp_cond_true rfl ?_
            refine wp_seq ?_
            refine wp_region_L (W0 := W6) [] (hW11) ?_
            refine lm (v := .bool true) rfl rfl ?_
            refine wpL_done (fun W12 hW12 => ?_)
            refine (show Code.wp _ _ _ _ _ from ?_)
            refine wp_ret ?_
            try simp only [inBlock_ret, then_ret]
            refine bodyPost_ret (v := .bool true) ?_ rfl ?_
            · kernel_rfl
            · exact ⟨rfl, (Below.trans hbz3 (Below.mono (hW12).1 hbz3.size))⟩
          exact absurd (last_q hr hx h63 (by omega) (by omega)) he
        have h3 : readT (t.take (p + 2) ++ o) = .bad p er := h2 (p + 2) o (by omega) (fun _ => by omega) (by rw [List.length_append, List.length_take]; omega) (by omega)
        go_enter Try.func8, Try.ntmps8
        refine wp_seq ?_
        refine wp_region_L (W0 := w) [] (KS.start w) ?_
        refine lm (v := .bool false) rfl rfl ?_
        refine wpL_done (fun W1 hW1 => ?_)
        refine (show Code.wp _ _ _ _ _ from ?_)
        refine wp_seq ?_
        refine wp_seq ?_
        refine wp_region_L (W0 := w) [] (hW1) ?_
        refine lv (v := .bool true) rfl rfl (yb_call (f := 10) (args := #[]) (fun _ => by kernel_rfl) fun W hW => awake_any W) ?_
        refine lm (v := .bool false) rfl rfl ?_
        refine wpL_done (fun W2 hW2 => ?_)
        refine (show Code.wp _ _ _ _ _ from ?_)
        refine wp_cond_false rfl ?_
        refine wp_skip ?_
        refine (show Code.wp _ _ _ _ _ from ?_)
        refine wp_seq ?_
        refine wp_seq ?_
        refine wp_region_L (W0 := w) [] (hW2) ?_
        refine lm (v := strV t) rfl rfl ?_
        refine lp (v := .int .i64 ((t.length : Nat) : Int)) rfl rfl (run_lenS (l := t) rfl Try.underlying9 (by kernel_rfl)) ?_
        refine lp (v := .bool false) rfl rfl (run_bin rfl (vx := (.int .i64 ((t.length : Nat) : Int))) (vy := (.int .i64 ((2000 : Nat) : Int))) (by kernel_rfl) (by kernel_rfl) fun w => bn_gtr (decide_eq_false hl) w) ?_
        refine lm (v := .bool false) rfl rfl ?_
        refine lm (v := strV o) rfl rfl ?_
        refine lp (v := .int .i64 ((o.length : Nat) : Int)) rfl rfl (run_lenS (l := o) rfl Try.underlying9 (by kernel_rfl)) ?_
        refine lp (v := .bool false) rfl rfl (run_bin rfl (vx := (.int .i64 ((o.length : Nat) : Int))) (vy := (.int .i64 ((2000 : Nat) : Int))) (by kernel_rfl) (by kernel_rfl) fun w => bn_gtr (decide_eq_false hl2) w) ?_
        refine lm (v := .bool false) rfl rfl ?_
        refine wpL_done (fun W3 hW3 => ?_)
        refine (show Code.wp _ _ _ _ _ from ?_)
        refine wp_cond_false rfl ?_
        refine wp_skip ?_
        refine (show Code.wp _ _ _ _ _ from ?_)
        refine wp_seq ?_
        refine wp_region_L (W0 := w) [] (hW3) ?_
        refine lm (v := strV t) rfl rfl ?_
        refine wpL_c (f := 15) (args := #[strV t]) (fun v Tz => v = .tuple #[.slice none 0 0, .int .i64 ((p : Nat) : Int), .int .i64 ((er : Nat) : Int)] ∧ Tz = []) rfl (by kernel_rfl) (fun _ => (by kernel_rfl)) (fun W hW => Read_bad hr (by first | omega | (simp only [List.length_append, List.length_cons, List.length_nil]; omega)) W (hW.sub (fun _ h => by cases h))) (fun _ => by simp only [List.setIfInBounds_toArray, List.set_cons_succ, List.set_cons_zero] <;> rfl) ?_
        rintro _ _ ⟨rfl, rfl⟩
        refine lm (v := .tuple #[.slice none 0 0, .int .i64 ((p : Nat) : Int), .int .i64 ((er : Nat) : Int)]) rfl rfl ?_
        refine lm (v := .slice none 0 0) rfl rfl ?_
        refine lm (v := .int .i64 ((p : Nat) : Int)) rfl rfl ?_
        refine lm (v := .int .i64 ((er : Nat) : Int)) rfl rfl ?_
        refine lm (v := .slice none 0 0) rfl rfl ?_
        refine lm (v := .int .i64 ((p : Nat) : Int)) rfl rfl ?_
        refine lm (v := .int .i64 ((er : Nat) : Int)) rfl rfl ?_
        refine wpL_done (fun W4 hW4 => ?_)
        refine (show Code.wp _ _ _ _ _ from ?_)
        refine wp_seq ?_
        refine wp_seq ?_
        refine wp_region_L (W0 := w) [] (hW4) ?_
        refine lm (v := .int .i64 ((er : Nat) : Int)) rfl rfl ?_
        refine lp (v := .bool false) rfl rfl (run_bin rfl (vx := (.int .i64 ((er : Nat) : Int))) (vy := (.int .i64 ((0 : Nat) : Int))) (by kernel_rfl) (by kernel_rfl) fun w => bn_eql (decide_eq_false hne) w) ?_
        refine lm (v := .bool false) rfl rfl ?_
        refine lm (v := .int .i64 ((er : Nat) : Int)) rfl rfl ?_
        refine lp (v := .bool false) rfl rfl (run_bin rfl (vx := (.int .i64 ((er : Nat) : Int))) (vy := (.int .i64 ((42 : Nat) : Int))) (by kernel_rfl) (by kernel_rfl) fun w => bn_eql (decide_eq_false h42) w) ?_
        refine lm (v := .bool false) rfl rfl ?_
        refine wpL_done (fun W5 hW5 => ?_)
        refine (show Code.wp _ _ _ _ _ from ?_)
        refine wp_cond_false rfl ?_
        refine wp_skip ?_
        refine (show Code.wp _ _ _ _ _ from ?_)
        refine wp_seq ?_
        refine wp_region_L (W0 := w) [] (hW5) ?_
        refine lm (v := strV t) rfl rfl ?_
        refine lm (v := .int .i64 ((p : Nat) : Int)) rfl rfl ?_
        refine lp (v := strV (t.take p)) rfl rfl (run_slH (k2 := .i64) (l := t) (r := (t.take p)) (j := p) rfl Try.underlying9 (by kernel_rfl) (by kernel_rfl) (by omega) rfl) ?_
        refine wpL_c (f := 15) (args := #[strV (t.take p)]) (RdK w A1) rfl (by kernel_rfl) (fun _ => (by kernel_rfl)) (fun W hW => Read_ok h1 (by omega) W (hW.sub (fun _ h => by cases h))) (fun _ => by simp only [List.setIfInBounds_toArray, List.set_cons_succ, List.set_cons_zero] <;> rfl) ?_
        rintro _ T2 ⟨p2, c2, rfl, M2⟩
        refine lm (v := .tuple #[.slice p2 A1.length c2, .int .i64 0, .int .i64 0]) rfl rfl ?_
        refine lm (v := .slice p2 A1.length c2) rfl rfl ?_
        refine lm (v := .int .i64 0) rfl rfl ?_
        refine lm (v := .int .i64 0) rfl rfl ?_
        refine lm (v := .slice p2 A1.length c2) rfl rfl ?_
        refine lm (v := .int .i64 0) rfl rfl ?_
        refine lm (v := .int .i64 0) rfl rfl ?_
        refine wpL_done (fun W6 hW6 => ?_)
        have HB4 := Lib.hid ((lv_lvp ((sgo_sgr M2) W6 ((hW6).sub (fun p hp => by first | exact hp | (simp only [List.mem_cons, List.mem_append, List.nil_append, List.not_mem_nil, or_assoc, or_false, false_or, List.cons_append, List.append_assoc] at hp ⊢ <;> grind))))))
        have hbz3 : Below w.heap.size w W6 := (hW6).1
        refine (show Code.wp _ _ _ _ _ from ?_)
        refine wp_seq ?_
        refine wp_seq ?_
        refine wp_region_L (W0 := W6) [] (KS.start W6) ?_
        refine lm (v := .int .i64 0) rfl rfl ?_
        refine lm (v := .bool false) rfl rfl ?_
        refine lm (v := .bool false) rfl rfl ?_
        refine ln rfl ?_
        refine ln rfl ?_
        refine ln rfl ?_
        refine ln rfl ?_
        refine ln rfl ?_
        refine ln rfl ?_
        refine ln rfl ?_
        refine lm (v := .bool false) rfl rfl ?_
        refine wpL_done (fun W7 hW7 => ?_)
        refine (show Code.wp _ _ _ _ _ from ?_)
        refine wp_cond_false rfl ?_
        refine wp_skip ?_
        refine (show Code.wp _ _ _ _ _ from ?_)
        refine wp_seq ?_
        refine wp_region_L (W0 := W6) [] (hW7) ?_
        refine lm (v := .int .i64 ((p : Nat) : Int)) rfl rfl ?_
        refine lp (v := .int .i64 (((p + 1) : Nat) : Int)) rfl rfl (run_bin rfl (vx := (.int .i64 ((p : Nat) : Int))) (vy := (.int .i64 ((1 : Nat) : Int))) (by kernel_rfl) (by kernel_rfl) fun w => bn_add (z := (p + 1)) rfl (wr_i64 (by omega)) w) ?_
        refine lm (v := .int .i64 (((p + 1) : Nat) : Int)) rfl rfl ?_
        refine wpL_done (fun W8 hW8 => ?_)
        refine (show Code.wp _ _ _ _ _ from ?_)
        refine wp_seq ?_
        refine wp_seq ?_
        refine wp_region_L (W0 := W6) [] (hW8) ?_
        refine lm (v := strV t) rfl rfl ?_
        refine lm (v := .int .i64 ((p : Nat) : Int)) rfl rfl ?_
        refine lp (v := .int .u8 ((x.toNat : Nat) : Int)) rfl rfl (run_idxS (j := .i64) (l := t) (k := p) (b := x) rfl Try.underlying9 (by kernel_rfl) (by kernel_rfl) hx) ?_
        refine lp (v := .bool true) rfl rfl (run_bin rfl (vx := (.int .u8 ((x.toNat : Nat) : Int))) (vy := (.int .u8 ((63 : Nat) : Int))) (by kernel_rfl) (by kernel_rfl) fun w => bn_eql (decide_eq_true h63) w) ?_
        refine wpL_done (fun W9 hW9 => ?_)
        refine (show Code.wp _ _ _ _ _ from ?_)
        refine wp_cond_true rfl ?_
        refine wp_region_L (W0 := W6) [] (hW9) ?_
        refine lm (v := .int .i64 ((p : Nat) : Int)) rfl rfl ?_
        refine lp (v := .int .i64 (((p + 2) : Nat) : Int)) rfl rfl (run_bin rfl (vx := (.int .i64 ((p : Nat) : Int))) (vy := (.int .i64 ((2 : Nat) : Int))) (by kernel_rfl) (by kernel_rfl) fun w => bn_add (z := (p + 2)) rfl (wr_i64 (by omega)) w) ?_
        refine lm (v := strV t) rfl rfl ?_
        refine lp (v := .int .i64 ((t.length : Nat) : Int)) rfl rfl (run_lenS (l := t) rfl Try.underlying9 (by kernel_rfl)) ?_
        refine lp (v := .int .i64 (((p + 2) : Nat) : Int)) rfl rfl (run_minR (k := .i64) (k2 := .i64) (u := (((p + 2) : Nat) : Int)) (v := ((t.length : Nat) : Int)) rfl (by kernel_rfl) (by kernel_rfl) (by rw [if_neg (by omega)])) ?_
        refine lm (v := .int .i64 (((p + 2) : Nat) : Int)) rfl rfl ?_
        refine wpL_done (fun W10 hW10 => ?_)
        refine (show Code.wp _ _ _ _ _ from ?_)
        refine wp_seq ?_
        refine wp_seq ?_
        refine wp_region_L (W0 := W6) [] (hW10) ?_
        refine lm (v := .int .i64 ((er : Nat) : Int)) rfl rfl ?_
        refine lp (v := .bool (decide (er = 41))) rfl rfl (run_bin rfl (vx := (.int .i64 ((er : Nat) : Int))) (vy := (.int .i64 ((41 : Nat) : Int))) (by kernel_rfl) (by kernel_rfl) fun w => bn_eql rfl w) ?_
        refine lm (v := .bool (decide (er = 41))) rfl rfl ?_
        cases hd1 : (decide (er = 41)) with
        | false =>
          have h1 : ¬ (er = 41) := of_decide_eq_false hd1
          clear hd1
          refine ln rfl ?_
          refine ln rfl ?_
          refine ln rfl ?_
          refine ln rfl ?_
          refine lm (v := .bool false) rfl rfl ?_
          refine wpL_done (fun W11 hW11 => ?_)
          refine (show Code.wp _ _ _ _ _ from ?_)
          refine wp_cond_false rfl ?_
          refine wp_skip ?_
          refine (show Code.wp _ _ _ _ _ from ?_)
          refine wp_seq ?_
          refine wp_region_L (W0 := W6) [] (hW11) ?_
          refine lm (v := strV t) rfl rfl ?_
          refine lm (v := .int .i64 (((p + 2) : Nat) : Int)) rfl rfl ?_
          refine lp (v := strV (t.take (p + 2))) rfl rfl (run_slH (k2 := .i64) (l := t) (r := (t.take (p + 2))) (j := (p + 2)) rfl Try.underlying9 (by kernel_rfl) (by kernel_rfl) (by omega) rfl) ?_
          refine lm (v := strV o) rfl rfl ?_
          refine lp (v := strV ((t.take (p + 2)) ++ o)) rfl rfl (run_bin rfl (vx := strV (t.take (p + 2))) (vy := strV o) (by kernel_rfl) (by kernel_rfl) fun w => bs_add (c := ((t.take (p + 2)) ++ o)) rfl (by first | omega | (simp; omega)) w) ?_
          refine wpL_c (f := 15) (args := #[strV ((t.take (p + 2)) ++ o)]) (fun v Tz => v = .tuple #[.slice none 0 0, .int .i64 ((p : Nat) : Int), .int .i64 ((er : Nat) : Int)] ∧ Tz = []) rfl (by kernel_rfl) (fun _ => (by kernel_rfl)) (fun W hW => Read_bad h3 (by first | omega | (simp only [List.length_append, List.length_cons, List.length_nil]; omega)) W (hW.sub (fun _ h => by cases h))) (fun _ => by simp only [List.setIfInBounds_toArray, List.set_cons_succ, List.set_cons_zero] <;> rfl) ?_
          rintro _ _ ⟨rfl, rfl⟩
          refine lm (v := .tuple #[.slice none 0 0, .int .i64 ((p : Nat) : Int), .int .i64 ((er : Nat) : Int)]) rfl rfl ?_
          refine lm (v := .slice none 0 0) rfl rfl ?_
          refine lm (v := .int .i64 ((p : Nat) : Int)) rfl rfl ?_
          refine lm (v := .int .i64 ((er : Nat) : Int)) rfl rfl ?_
          refine lm (v := .int .i64 ((p : Nat) : Int)) rfl rfl ?_
          refine lm (v := .int .i64 ((er : Nat) : Int)) rfl rfl ?_
          refine wpL_done (fun W12 hW12 => ?_)
          refine (show Code.wp _ _ _ _ _ from ?_)
          refine wp_seq ?_
          refine wp_region_L (W0 := W6) [] (hW12) ?_
          refine lm (v := .int .i64 ((er : Nat) : Int)) rfl rfl ?_
          refine lm (v := .int .i64 ((er : Nat) : Int)) rfl rfl ?_
          refine lp (v := .bool true) rfl rfl (run_bin rfl (vx := (.int .i64 ((er : Nat) : Int))) (vy := (.int .i64 ((er : Nat) : Int))) (by kernel_rfl) (by kernel_rfl) fun w => bn_eql (decide_eq_true rfl) w) ?_
          refine lm (v := .bool true) rfl rfl ?_
          refine lm (v := .int .i64 ((p : Nat) : Int)) rfl rfl ?_
          refine lm (v := .int .i64 ((p : Nat) : Int)) rfl rfl ?_
          refine lp (v := .bool true) rfl rfl (run_bin rfl (vx := (.int .i64 ((p : Nat) : Int))) (vy := (.int .i64 ((p : Nat) : Int))) (by kernel_rfl) (by kernel_rfl) fun w => bn_eql (decide_eq_true rfl) w) ?_
          refine lm (v := .bool true) rfl rfl ?_
          refine lm (v := .bool true) rfl rfl ?_
          refine wpL_done (fun W13 hW13 => ?_)
          refine (show Code.wp _ _ _ _ _ from ?_)
          refine wp_ret ?_
          try simp only [inBlock_ret, then_ret]
          refine bodyPost_ret (v := .bool true) ?_ rfl ?_
          · kernel_rfl
          · exact ⟨rfl, (Below.trans hbz3 (Below.mono (hW13).1 hbz3.size))⟩
        | true =>
          have h1 : er = 41 := of_decide_eq_true hd1
          clear hd1
          refine lm (v := .int .i64 (((p + 2) : Nat) : Int)) rfl rfl ?_
          refine lm (v := .int .i64 ((p : Nat) : Int)) rfl rfl ?_
          refine lp (v := .int .i64 (((p + 1) : Nat) : Int)) rfl rfl (run_bin rfl (vx := (.int .i64 ((p : Nat) : Int))) (vy := (.int .i64 ((1 : Nat) : Int))) (by kernel_rfl) (by kernel_rfl) fun w => bn_add (z := (p + 1)) rfl (wr_i64 (by omega)) w) ?_
          refine lp (v := .bool false) rfl rfl (run_bin rfl (vx := (.int .i64 (((p + 2) : Nat) : Int))) (vy := (.int .i64 (((p + 1) : Nat) : Int))) (by kernel_rfl) (by kernel_rfl) fun w => bn_eql (decide_eq_false (by omega)) w) ?_
          refine lm (v := .bool false) rfl rfl ?_
          refine wpL_done (fun W14 hW14 => ?_)
          refine (show Code.wp _ _ _ _ _ from ?_)
          refine wp_cond_false rfl ?_
          refine wp_skip ?_
          refine (show Code.wp _ _ _ _ _ from ?_)
          refine wp_seq ?_
          refine wp_region_L (W0 := W6) [] (hW14) ?_
          refine lm (v := strV t) rfl rfl ?_
          refine lm (v := .int .i64 (((p + 2) : Nat) : Int)) rfl rfl ?_
          refine lp (v := strV (t.take (p + 2))) rfl rfl (run_slH (k2 := .i64) (l := t) (r := (t.take (p + 2))) (j := (p + 2)) rfl Try.underlying9 (by kernel_rfl) (by kernel_rfl) (by omega) rfl) ?_
          refine lm (v := strV o) rfl rfl ?_
          refine lp (v := strV ((t.take (p + 2)) ++ o)) rfl rfl (run_bin rfl (vx := strV (t.take (p + 2))) (vy := strV o) (by kernel_rfl) (by kernel_rfl) fun w => bs_add (c := ((t.take (p + 2)) ++ o)) rfl (by first | omega | (simp; omega)) w) ?_
          refine wpL_c (f := 15) (args := #[strV ((t.take (p + 2)) ++ o)]) (fun v Tz => v = .tuple #[.slice none 0 0, .int .i64 ((p : Nat) : Int), .int .i64 ((er : Nat) : Int)] ∧ Tz = []) rfl (by kernel_rfl) (fun _ => (by kernel_rfl)) (fun W hW => Read_bad h3 (by first | omega | (simp only [List.length_append, List.length_cons, List.length_nil]; omega)) W (hW.sub (fun _ h => by cases h))) (fun _ => by simp only [List.setIfInBounds_toArray, List.set_cons_succ, List.set_cons_zero] <;> rfl) ?_
          rintro _ _ ⟨rfl, rfl⟩
          refine lm (v := .tuple #[.slice none 0 0, .int .i64 ((p : Nat) : Int), .int .i64 ((er : Nat) : Int)]) rfl rfl ?_
          refine lm (v := .slice none 0 0) rfl rfl ?_
          refine lm (v := .int .i64 ((p : Nat) : Int)) rfl rfl ?_
          refine lm (v := .int .i64 ((er : Nat) : Int)) rfl rfl ?_
          refine lm (v := .int .i64 ((p : Nat) : Int)) rfl rfl ?_
          refine lm (v := .int .i64 ((er : Nat) : Int)) rfl rfl ?_
          refine wpL_done (fun W15 hW15 => ?_)
          refine (show Code.wp _ _ _ _ _ from ?_)
          refine wp_seq ?_
          refine wp_region_L (W0 := W6) [] (hW15) ?_
          refine lm (v := .int .i64 ((er : Nat) : Int)) rfl rfl ?_
          refine lm (v := .int .i64 ((er : Nat) : Int)) rfl rfl ?_
          refine lp (v := .bool true) rfl rfl (run_bin rfl (vx := (.int .i64 ((er : Nat) : Int))) (vy := (.int .i64 ((er : Nat) : Int))) (by kernel_rfl) (by kernel_rfl) fun w => bn_eql (decide_eq_true rfl) w) ?_
          refine lm (v := .bool true) rfl rfl ?_
          refine lm (v := .int .i64 ((p : Nat) : Int)) rfl rfl ?_
          refine lm (v := .int .i64 ((p : Nat) : Int)) rfl rfl ?_
          refine lp (v := .bool true) rfl rfl (run_bin rfl (vx := (.int .i64 ((p : Nat) : Int))) (vy := (.int .i64 ((p : Nat) : Int))) (by kernel_rfl) (by kernel_rfl) fun w => bn_eql (decide_eq_true rfl) w) ?_
          refine lm (v := .bool true) rfl rfl ?_
          refine lm (v := .bool true) rfl rfl ?_
          refine wpL_done (fun W16 hW16 => ?_)
          refine (show Code.wp _ _ _ _ _ from ?_)
          refine wp_ret ?_
          try simp only [inBlock_ret, then_ret]
          refine bodyPost_ret (v := .bool true) ?_ rfl ?_
          · kernel_rfl
          · exact ⟨rfl, (Below.trans hbz3 (Below.mono (hW16).1 hbz3.size))⟩
      · rcases h2 with ⟨h, _⟩ | h2
        · exact absurd h h63
        have h3 : readT (t.take (p + 1) ++ o) = .bad p er := h2 (p + 1) o (Nat.le_refl _) (fun h => absurd h h63) (by rw [List.length_append, List.length_take]; omega) (by omega)
        go_enter Try.func8, Try.ntmps8
        refine wp_seq ?_
        refine wp_region_L (W0 := w) [] (KS.start w) ?_
        refine lm (v := .bool false) rfl rfl ?_
        refine wpL_done (fun W1 hW1 => ?_)
        refine (show Code.wp _ _ _ _ _ from ?_)
        refine wp_seq ?_
        refine wp_seq ?_
        refine wp_region_L (W0 := w) [] (hW1) ?_
        refine lv (v := .bool true) rfl rfl (yb_call (f := 10) (args := #[]) (fun _ => by kernel_rfl) fun W hW => awake_any W) ?_
        refine lm (v := .bool false) rfl rfl ?_
        refine wpL_done (fun W2 hW2 => ?_)
        refine (show Code.wp _ _ _ _ _ from ?_)
        refine wp_cond_false rfl ?_
        refine wp_skip ?_
        refine (show Code.wp _ _ _ _ _ from ?_)
        refine wp_seq ?_
        refine wp_seq ?_
        refine wp_region_L (W0 := w) [] (hW2) ?_
        refine lm (v := strV t) rfl rfl ?_
        refine lp (v := .int .i64 ((t.length : Nat) : Int)) rfl rfl (run_lenS (l := t) rfl Try.underlying9 (by kernel_rfl)) ?_
        refine lp (v := .bool false) rfl rfl (run_bin rfl (vx := (.int .i64 ((t.length : Nat) : Int))) (vy := (.int .i64 ((2000 : Nat) : Int))) (by kernel_rfl) (by kernel_rfl) fun w => bn_gtr (decide_eq_false hl) w) ?_
        refine lm (v := .bool false) rfl rfl ?_
        refine lm (v := strV o) rfl rfl ?_
        refine lp (v := .int .i64 ((o.length : Nat) : Int)) rfl rfl (run_lenS (l := o) rfl Try.underlying9 (by kernel_rfl)) ?_
        refine lp (v := .bool false) rfl rfl (run_bin rfl (vx := (.int .i64 ((o.length : Nat) : Int))) (vy := (.int .i64 ((2000 : Nat) : Int))) (by kernel_rfl) (by kernel_rfl) fun w => bn_gtr (decide_eq_false hl2) w) ?_
        refine lm (v := .bool false) rfl rfl ?_
        refine wpL_done (fun W3 hW3 => ?_)
        refine (show Code.wp _ _ _ _ _ from ?_)
        refine wp_cond_false rfl ?_
        refine wp_skip ?_
        refine (show Code.wp _ _ _ _ _ from ?_)
        refine wp_seq ?_
        refine wp_region_L (W0 := w) [] (hW3) ?_
        refine lm (v := strV t) rfl rfl ?_
        refine wpL_c (f := 15) (args := #[strV t]) (fun v Tz => v = .tuple #[.slice none 0 0, .int .i64 ((p : Nat) : Int), .int .i64 ((er : Nat) : Int)] ∧ Tz = []) rfl (by kernel_rfl) (fun _ => (by kernel_rfl)) (fun W hW => Read_bad hr (by first | omega | (simp only [List.length_append, List.length_cons, List.length_nil]; omega)) W (hW.sub (fun _ h => by cases h))) (fun _ => by simp only [List.setIfInBounds_toArray, List.set_cons_succ, List.set_cons_zero] <;> rfl) ?_
        rintro _ _ ⟨rfl, rfl⟩
        refine lm (v := .tuple #[.slice none 0 0, .int .i64 ((p : Nat) : Int), .int .i64 ((er : Nat) : Int)]) rfl rfl ?_
        refine lm (v := .slice none 0 0) rfl rfl ?_
        refine lm (v := .int .i64 ((p : Nat) : Int)) rfl rfl ?_
        refine lm (v := .int .i64 ((er : Nat) : Int)) rfl rfl ?_
        refine lm (v := .slice none 0 0) rfl rfl ?_
        refine lm (v := .int .i64 ((p : Nat) : Int)) rfl rfl ?_
        refine lm (v := .int .i64 ((er : Nat) : Int)) rfl rfl ?_
        refine wpL_done (fun W4 hW4 => ?_)
        refine (show Code.wp _ _ _ _ _ from ?_)
        refine wp_seq ?_
        refine wp_seq ?_
        refine wp_region_L (W0 := w) [] (hW4) ?_
        refine lm (v := .int .i64 ((er : Nat) : Int)) rfl rfl ?_
        refine lp (v := .bool false) rfl rfl (run_bin rfl (vx := (.int .i64 ((er : Nat) : Int))) (vy := (.int .i64 ((0 : Nat) : Int))) (by kernel_rfl) (by kernel_rfl) fun w => bn_eql (decide_eq_false hne) w) ?_
        refine lm (v := .bool false) rfl rfl ?_
        refine lm (v := .int .i64 ((er : Nat) : Int)) rfl rfl ?_
        refine lp (v := .bool false) rfl rfl (run_bin rfl (vx := (.int .i64 ((er : Nat) : Int))) (vy := (.int .i64 ((42 : Nat) : Int))) (by kernel_rfl) (by kernel_rfl) fun w => bn_eql (decide_eq_false h42) w) ?_
        refine lm (v := .bool false) rfl rfl ?_
        refine wpL_done (fun W5 hW5 => ?_)
        refine (show Code.wp _ _ _ _ _ from ?_)
        refine wp_cond_false rfl ?_
        refine wp_skip ?_
        refine (show Code.wp _ _ _ _ _ from ?_)
        refine wp_seq ?_
        refine wp_region_L (W0 := w) [] (hW5) ?_
        refine lm (v := strV t) rfl rfl ?_
        refine lm (v := .int .i64 ((p : Nat) : Int)) rfl rfl ?_
        refine lp (v := strV (t.take p)) rfl rfl (run_slH (k2 := .i64) (l := t) (r := (t.take p)) (j := p) rfl Try.underlying9 (by kernel_rfl) (by kernel_rfl) (by omega) rfl) ?_
        refine wpL_c (f := 15) (args := #[strV (t.take p)]) (RdK w A1) rfl (by kernel_rfl) (fun _ => (by kernel_rfl)) (fun W hW => Read_ok h1 (by omega) W (hW.sub (fun _ h => by cases h))) (fun _ => by simp only [List.setIfInBounds_toArray, List.set_cons_succ, List.set_cons_zero] <;> rfl) ?_
        rintro _ T2 ⟨p2, c2, rfl, M2⟩
        refine lm (v := .tuple #[.slice p2 A1.length c2, .int .i64 0, .int .i64 0]) rfl rfl ?_
        refine lm (v := .slice p2 A1.length c2) rfl rfl ?_
        refine lm (v := .int .i64 0) rfl rfl ?_
        refine lm (v := .int .i64 0) rfl rfl ?_
        refine lm (v := .slice p2 A1.length c2) rfl rfl ?_
        refine lm (v := .int .i64 0) rfl rfl ?_
        refine lm (v := .int .i64 0) rfl rfl ?_
        refine wpL_done (fun W6 hW6 => ?_)
        have HB4 := Lib.hid ((lv_lvp ((sgo_sgr M2) W6 ((hW6).sub (fun p hp => by first | exact hp | (simp only [List.mem_cons, List.mem_append, List.nil_append, List.not_mem_nil, or_assoc, or_false, false_or, List.cons_append, List.append_assoc] at hp ⊢ <;> grind))))))
        have hbz3 : Below w.heap.size w W6 := (hW6).1
        refine (show Code.wp _ _ _ _ _ from ?_)
        refine wp_seq ?_
        refine wp_seq ?_
        refine wp_region_L (W0 := W6) [] (KS.start W6) ?_
        refine lm (v := .int .i64 0) rfl rfl ?_
        refine lm (v := .bool false) rfl rfl ?_
        refine lm (v := .bool false) rfl rfl ?_
        refine ln rfl ?_
        refine ln rfl ?_
        refine ln rfl ?_
        refine ln rfl ?_
        refine ln rfl ?_
        refine ln rfl ?_
        refine ln rfl ?_
        refine lm (v := .bool false) rfl rfl ?_
        refine wpL_done (fun W7 hW7 => ?_)
        refine (show Code.wp _ _ _ _ _ from ?_)
        refine wp_cond_false rfl ?_
        refine wp_skip ?_
        refine (show Code.wp _ _ _ _ _ from ?_)
        refine wp_seq ?_
        refine wp_region_L (W0 := W6) [] (hW7) ?_
        refine lm (v := .int .i64 ((p : Nat) : Int)) rfl rfl ?_
        refine lp (v := .int .i64 (((p + 1) : Nat) : Int)) rfl rfl (run_bin rfl (vx := (.int .i64 ((p : Nat) : Int))) (vy := (.int .i64 ((1 : Nat) : Int))) (by kernel_rfl) (by kernel_rfl) fun w => bn_add (z := (p + 1)) rfl (wr_i64 (by omega)) w) ?_
        refine lm (v := .int .i64 (((p + 1) : Nat) : Int)) rfl rfl ?_
        refine wpL_done (fun W8 hW8 => ?_)
        refine (show Code.wp _ _ _ _ _ from ?_)
        refine wp_seq ?_
        refine wp_seq ?_
        refine wp_region_L (W0 := W6) [] (hW8) ?_
        refine lm (v := strV t) rfl rfl ?_
        refine lm (v := .int .i64 ((p : Nat) : Int)) rfl rfl ?_
        refine lp (v := .int .u8 ((x.toNat : Nat) : Int)) rfl rfl (run_idxS (j := .i64) (l := t) (k := p) (b := x) rfl Try.underlying9 (by kernel_rfl) (by kernel_rfl) hx) ?_
        refine lp (v := .bool false) rfl rfl (run_bin rfl (vx := (.int .u8 ((x.toNat : Nat) : Int))) (vy := (.int .u8 ((63 : Nat) : Int))) (by kernel_rfl) (by kernel_rfl) fun w => bn_eql (decide_eq_false h63) w) ?_
        refine wpL_done (fun W9 hW9 => ?_)
        refine (show Code.wp _ _ _ _ _ from ?_)
        refine wp_cond_false rfl ?_
        refine wp_skip ?_
        refine (show Code.wp _ _ _ _ _ from ?_)
        refine wp_seq ?_
        refine wp_seq ?_
        refine wp_region_L (W0 := W6) [] (hW9) ?_
        refine lm (v := .int .i64 ((er : Nat) : Int)) rfl rfl ?_
        refine lp (v := .bool (decide (er = 41))) rfl rfl (run_bin rfl (vx := (.int .i64 ((er : Nat) : Int))) (vy := (.int .i64 ((41 : Nat) : Int))) (by kernel_rfl) (by kernel_rfl) fun w => bn_eql rfl w) ?_
        refine lm (v := .bool (decide (er = 41))) rfl rfl ?_
        cases hd1 : (decide (er = 41)) with
        | false =>
          have h1 : ¬ (er = 41) := of_decide_eq_false hd1
          clear hd1
          refine ln rfl ?_
          refine ln rfl ?_
          refine ln rfl ?_
          refine ln rfl ?_
          refine lm (v := .bool false) rfl rfl ?_
          refine wpL_done (fun W10 hW10 => ?_)
          refine (show Code.wp _ _ _ _ _ from ?_)
          refine wp_cond_false rfl ?_
          refine wp_skip ?_
          refine (show Code.wp _ _ _ _ _ from ?_)
          refine wp_seq ?_
          refine wp_region_L (W0 := W6) [] (hW10) ?_
          refine lm (v := strV t) rfl rfl ?_
          refine lm (v := .int .i64 (((p + 1) : Nat) : Int)) rfl rfl ?_
          refine lp (v := strV (t.take (p + 1))) rfl rfl (run_slH (k2 := .i64) (l := t) (r := (t.take (p + 1))) (j := (p + 1)) rfl Try.underlying9 (by kernel_rfl) (by kernel_rfl) (by omega) rfl) ?_
          refine lm (v := strV o) rfl rfl ?_
          refine lp (v := strV ((t.take (p + 1)) ++ o)) rfl rfl (run_bin rfl (vx := strV (t.take (p + 1))) (vy := strV o) (by kernel_rfl) (by kernel_rfl) fun w => bs_add (c := ((t.take (p + 1)) ++ o)) rfl (by first | omega | (simp; omega)) w) ?_
          refine wpL_c (f := 15) (args := #[strV ((t.take (p + 1)) ++ o)]) (fun v Tz => v = .tuple #[.slice none 0 0, .int .i64 ((p : Nat) : Int), .int .i64 ((er : Nat) : Int)] ∧ Tz = []) rfl (by kernel_rfl) (fun _ => (by kernel_rfl)) (fun W hW => Read_bad h3 (by first | omega | (simp only [List.length_append, List.length_cons, List.length_nil]; omega)) W (hW.sub (fun _ h => by cases h))) (fun _ => by simp only [List.setIfInBounds_toArray, List.set_cons_succ, List.set_cons_zero] <;> rfl) ?_
          rintro _ _ ⟨rfl, rfl⟩
          refine lm (v := .tuple #[.slice none 0 0, .int .i64 ((p : Nat) : Int), .int .i64 ((er : Nat) : Int)]) rfl rfl ?_
          refine lm (v := .slice none 0 0) rfl rfl ?_
          refine lm (v := .int .i64 ((p : Nat) : Int)) rfl rfl ?_
          refine lm (v := .int .i64 ((er : Nat) : Int)) rfl rfl ?_
          refine lm (v := .int .i64 ((p : Nat) : Int)) rfl rfl ?_
          refine lm (v := .int .i64 ((er : Nat) : Int)) rfl rfl ?_
          refine wpL_done (fun W11 hW11 => ?_)
          refine (show Code.wp _ _ _ _ _ from ?_)
          refine wp_seq ?_
          refine wp_region_L (W0 := W6) [] (hW11) ?_
          refine lm (v := .int .i64 ((er : Nat) : Int)) rfl rfl ?_
          refine lm (v := .int .i64 ((er : Nat) : Int)) rfl rfl ?_
          refine lp (v := .bool true) rfl rfl (run_bin rfl (vx := (.int .i64 ((er : Nat) : Int))) (vy := (.int .i64 ((er : Nat) : Int))) (by kernel_rfl) (by kernel_rfl) fun w => bn_eql (decide_eq_true rfl) w) ?_
          refine lm (v := .bool true) rfl rfl ?_
          refine lm (v := .int .i64 ((p : Nat) : Int)) rfl rfl ?_
          refine lm (v := .int .i64 ((p : Nat) : Int)) rfl rfl ?_
          refine lp (v := .bool true) rfl rfl (run_bin rfl (vx := (.int .i64 ((p : Nat) : Int))) (vy := (.int .i64 ((p : Nat) : Int))) (by kernel_rfl) (by kernel_rfl) fun w => bn_eql (decide_eq_true rfl) w) ?_
          refine lm (v := .bool true) rfl rfl ?_
          refine lm (v := .bool true) rfl rfl ?_
          refine wpL_done (fun W12 hW12 => ?_)
          refine (show Code.wp _ _ _ _ _ from ?_)
          refine wp_ret ?_
          try simp only [inBlock_ret, then_ret]
          refine bodyPost_ret (v := .bool true) ?_ rfl ?_
          · kernel_rfl
          · exact ⟨rfl, (Below.trans hbz3 (Below.mono (hW12).1 hbz3.size))⟩
        | true =>
          have h1 : er = 41 := of_decide_eq_true hd1
          clear hd1
          refine lm (v := .int .i64 (((p + 1) : Nat) : Int)) rfl rfl ?_
          refine lm (v := .int .i64 ((p : Nat) : Int)) rfl rfl ?_
          refine lp (v := .int .i64 (((p + 1) : Nat) : Int)) rfl rfl (run_bin rfl (vx := (.int .i64 ((p : Nat) : Int))) (vy := (.int .i64 ((1 : Nat) : Int))) (by kernel_rfl) (by kernel_rfl) fun w => bn_add (z := (p + 1)) rfl (wr_i64 (by omega)) w) ?_
          refine lp (v := .bool true) rfl rfl (run_bin rfl (vx := (.int .i64 (((p + 1) : Nat) : Int))) (vy := (.int .i64 (((p + 1) : Nat) : Int))) (by kernel_rfl) (by kernel_rfl) fun w => bn_eql (decide_eq_true rfl) w) ?_
          refine lm (v := .bool true) rfl rfl ?_
          refine wpL_done (fun W13 hW13 => ?_)
          refine (show Code.wp _ _ _ _ _ from ?_)
          refine wp_cond_true rfl ?_
          refine wp_seq ?_
          refine wp_region_L (W0 := W6) [] (hW13) ?_
          refine lm (v := .bool true) rfl rfl ?_
          refine wpL_done (fun W14 hW14 => ?_)
          refine (show Code.wp _ _ _ _ _ from ?_)
          refine wp_ret ?_
          try simp only [inBlock_ret, then_ret]
          refine bodyPost_ret (v := .bool true) ?_ rfl ?_
          · kernel_rfl
          · exact ⟨rfl, (Below.trans hbz3 (Below.mono (hW14).1 hbz3.size))⟩
    · skip
      by_cases h63 : x.toNat = 63
      · rcases h2 with ⟨_, he, hend⟩ | h2
        · skip
          go_enter Try.func8, Try.ntmps8
          refine wp_seq ?_
          refine wp_region_L (W0 := w) [] (KS.start w) ?_
          refine lm (v := .bool false) rfl rfl ?_
          refine wpL_done (fun W1 hW1 => ?_)
          refine (show Code.wp _ _ _ _ _ from ?_)
          refine wp_seq ?_
          refine wp_seq ?_
          refine wp_region_L (W0 := w) [] (hW1) ?_
          refine lv (v := .bool true) rfl rfl (yb_call (f := 10) (args := #[]) (fun _ => by kernel_rfl) fun W hW => awake_any W) ?_
          refine lm (v := .bool false) rfl rfl ?_
          refine wpL_done (fun W2 hW2 => ?_)
          refine (show Code.wp _ _ _ _ _ from ?_)
          refine wp_cond_false rfl ?_
          refine wp_skip ?_
          refine (show Code.wp _ _ _ _ _ from ?_)
          refine wp_seq ?_
          refine wp_seq ?_
          refine wp_region_L (W0 := w) [] (hW2) ?_
          refine lm (v := strV t) rfl rfl ?_
          refine lp (v := .int .i64 ((t.length : Nat) : Int)) rfl rfl (run_lenS (l := t) rfl Try.underlying9 (by kernel_rfl)) ?_
          refine lp (v := .bool false) rfl rfl (run_bin rfl (vx := (.int .i64 ((t.length : Nat) : Int))) (vy := (.int .i64 ((2000 : Nat) : Int))) (by kernel_rfl) (by kernel_rfl) fun w => bn_gtr (decide_eq_false hl) w) ?_
          refine lm (v := .bool false) rfl rfl ?_
          refine lm (v := strV o) rfl rfl ?_
          refine lp (v := .int .i64 ((o.length : Nat) : Int)) rfl rfl (run_lenS (l := o) rfl Try.underlying9 (by kernel_rfl)) ?_
          refine lp (v := .bool false) rfl rfl (run_bin rfl (vx := (.int .i64 ((o.length : Nat) : Int))) (vy := (.int .i64 ((2000 : Nat) : Int))) (by kernel_rfl) (by kernel_rfl) fun w => bn_gtr (decide_eq_false hl2) w) ?_
          refine lm (v := .bool false) rfl rfl ?_
          refine wpL_done (fun W3 hW3 => ?_)
          refine (show Code.wp _ _ _ _ _ from ?_)
          refine wp_cond_false rfl ?_
          refine wp_skip ?_
          refine (show Code.wp _ _ _ _ _ from ?_)
          refine wp_seq ?_
          refine wp_region_L (W0 := w) [] (hW3) ?_
          refine lm (v := strV t) rfl rfl ?_
          refine wpL_c (f := 15) (args := #[strV t]) (fun v Tz => v = .tuple #[.slice none 0 0, .int .i64 ((p : Nat) : Int), .int .i64 ((er : Nat) : Int)] ∧ Tz = []) rfl (by kernel_rfl) (fun _ => (by kernel_rfl)) (fun W hW => Read_bad hr (by first | omega | (simp only [List.length_append, List.length_cons, List.length_nil]; omega)) W (hW.sub (fun _ h => by cases h))) (fun _ => by simp only [List.setIfInBounds_toArray, List.set_cons_succ, List.set_cons_zero] <;> rfl) ?_
          rintro _ _ ⟨rfl, rfl⟩
          refine lm (v := .tuple #[.slice none 0 0, .int .i64 ((p : Nat) : Int), .int .i64 ((er : Nat) : Int)]) rfl rfl ?_
          refine lm (v := .slice none 0 0) rfl rfl ?_
          refine lm (v := .int .i64 ((p : Nat) : Int)) rfl rfl ?_
          refine lm (v := .int .i64 ((er : Nat) : Int)) rfl rfl ?_
          refine lm (v := .slice none 0 0) rfl rfl ?_
          refine lm (v := .int .i64 ((p : Nat) : Int)) rfl rfl ?_
          refine lm (v := .int .i64 ((er : Nat) : Int)) rfl rfl ?_
          refine wpL_done (fun W4 hW4 => ?_)
          refine (show Code.wp _ _ _ _ _ from ?_)
          refine wp_seq ?_
          refine wp_seq ?_
          refine wp_region_L (W0 := w) [] (hW4) ?_
          refine lm (v := .int .i64 ((er : Nat) : Int)) rfl rfl ?_
          refine lp (v := .bool false) rfl rfl (run_bin rfl (vx := (.int .i64 ((er : Nat) : Int))) (vy := (.int .i64 ((0 : Nat) : Int))) (by kernel_rfl) (by kernel_rfl) fun w => bn_eql (decide_eq_false hne) w) ?_
          refine lm (v := .bool false) rfl rfl ?_
          refine lm (v := .int .i64 ((er : Nat) : Int)) rfl rfl ?_
          refine lp (v := .bool false) rfl rfl (run_bin rfl (vx := (.int .i64 ((er : Nat) : Int))) (vy := (.int .i64 ((42 : Nat) : Int))) (by kernel_rfl) (by kernel_rfl) fun w => bn_eql (decide_eq_false h42) w) ?_
          refine lm (v := .bool false) rfl rfl ?_
          refine wpL_done (fun W5 hW5 => ?_)
          refine (show Code.wp _ _ _ _ _ from ?_)
          refine wp_cond_false rfl ?_
          refine wp_skip ?_
          refine (show Code.wp _ _ _ _ _ from ?_)
          refine wp_seq ?_
          refine wp_region_L (W0 := w) [] (hW5) ?_
          refine lm (v := strV t) rfl rfl ?_
          refine lm (v := .int .i64 ((p : Nat) : Int)) rfl rfl ?_
          refine lp (v := strV (t.take p)) rfl rfl (run_slH (k2 := .i64) (l := t) (r := (t.take p)) (j := p) rfl Try.underlying9 (by kernel_rfl) (by kernel_rfl) (by omega) rfl) ?_
          refine wpL_c (f := 15) (args := #[strV (t.take p)]) (fun v Tz => v = .tuple #[.slice none 0 0, .int .i64 ((p : Nat) : Int), .int .i64 ((42 : Nat) : Int)] ∧ Tz = []) rfl (by kernel_rfl) (fun _ => (by kernel_rfl)) (fun W hW => Read_bad h1 (by omega) W (hW.sub (fun _ h => by cases h))) (fun _ => by simp only [List.setIfInBounds_toArray, List.set_cons_succ, List.set_cons_zero] <;> rfl) ?_
          rintro _ _ ⟨rfl, rfl⟩
          refine lm (v := .tuple #[.slice none 0 0, .int .i64 ((p : Nat) : Int), .int .i64 42]) rfl rfl ?_
          refine lm (v := .slice none 0 0) rfl rfl ?_
          refine lm (v := .int .i64 ((p : Nat) : Int)) rfl rfl ?_
          refine lm (v := .int .i64 42) rfl rfl ?_
          refine lm (v := .slice none 0 0) rfl rfl ?_
          refine lm (v := .int .i64 ((p : Nat) : Int)) rfl rfl ?_
          refine lm (v := .int .i64 42) rfl rfl ?_
          refine wpL_done (fun W6 hW6 => ?_)
          refine (show Code.wp _ _ _ _ _ from ?_)
          refine wp_seq ?_
          refine wp_seq ?_
          refine wp_region_L (W0 := w) [] (hW6) ?_
          refine lm (v := .int .i64 42) rfl rfl ?_
          refine lm (v := .bool true) rfl rfl ?_
          refine lm (v := .bool true) rfl rfl ?_
          refine lm (v := .int .i64 42) rfl rfl ?_
          refine lm (v := .bool false) rfl rfl ?_
          refine lm (v := .bool false) rfl rfl ?_
          refine lm (v := .int .i64 ((p : Nat) : Int)) rfl rfl ?_
          refine lm (v := .int .i64 ((p : Nat) : Int)) rfl rfl ?_
          refine lp (v := .bool false) rfl rfl (run_bin rfl (vx := (.int .i64 ((p : Nat) : Int))) (vy := (.int .i64 ((p : Nat) : Int))) (by kernel_rfl) (by kernel_rfl) fun w => bn_neq (decide_eq_true rfl) w) ?_
          refine lm (v := .bool false) rfl rfl ?_
          refine lm (v := .bool false) rfl rfl ?_
          refine wpL_done (fun W7 hW7 => ?_)
          refine (show Code.wp _ _ _ _ _ from ?_)
          refine wp_cond_false rfl ?_
          refine wp_skip ?_
          refine (show Code.wp _ _ _ _ _ from ?_)
          refine wp_seq ?_
          refine wp_region_L (W0 := w) [] (hW7) ?_
          refine lm (v := .int .i64 ((p : Nat) : Int)) rfl rfl ?_
          refine lp (v := .int .i64 (((p + 1) : Nat) : Int)) rfl rfl (run_bin rfl (vx := (.int .i64 ((p : Nat) : Int))) (vy := (.int .i64 ((1 : Nat) : Int))) (by kernel_rfl) (by kernel_rfl) fun w => bn_add (z := (p + 1)) rfl (wr_i64 (by omega)) w) ?_
          refine lm (v := .int .i64 (((p + 1) : Nat) : Int)) rfl rfl ?_
          refine wpL_done (fun W8 hW8 => ?_)
          refine (show Code.wp _ _ _ _ _ from ?_)
          refine wp_seq ?_
          refine wp_seq ?_
          refine wp_region_L (W0 := w) [] (hW8) ?_
          refine lm (v := strV t) rfl rfl ?_
          refine lm (v := .int .i64 ((p : Nat) : Int)) rfl rfl ?_
          refine lp (v := .int .u8 ((x.toNat : Nat) : Int)) rfl rfl (run_idxS (j := .i64) (l := t) (k := p) (b := x) rfl Try.underlying9 (by kernel_rfl) (by kernel_rfl) hx) ?_
          refine lp (v := .bool true) rfl rfl (run_bin rfl (vx := (.int .u8 ((x.toNat : Nat) : Int))) (vy := (.int .u8 ((63 : Nat) : Int))) (by kernel_rfl) (by kernel_rfl) fun w => bn_eql (decide_eq_true h63) w) ?_
          refine wpL_done (fun W9 hW9 => ?_)
          refine (show Code.wp _ _ _ _ _ from ?_)
          refine wp_cond_true rfl ?_
          refine wp_region_L (W0 := w) [] (hW9) ?_
          refine lm (v := .int .i64 ((p : Nat) : Int)) rfl rfl ?_
          refine lp (v := .int .i64 (((p + 2) : Nat) : Int)) rfl rfl (run_bin rfl (vx := (.int .i64 ((p : Nat) : Int))) (vy := (.int .i64 ((2 : Nat) : Int))) (by kernel_rfl) (by kernel_rfl) fun w => bn_add (z := (p + 2)) rfl (wr_i64 (by omega)) w) ?_
          refine lm (v := strV t) rfl rfl ?_
          refine lp (v := .int .i64 ((t.length : Nat) : Int)) rfl rfl (run_lenS (l := t) rfl Try.underlying9 (by kernel_rfl)) ?_
          refine lp (v := .int .i64 ((t.length : Nat) : Int)) rfl rfl (run_minR (k := .i64) (k2 := .i64) (u := (((p + 2) : Nat) : Int)) (v := ((t.length : Nat) : Int)) rfl (by kernel_rfl) (by kernel_rfl) (by rw [if_pos (by omega)])) ?_
          refine lm (v := .int .i64 ((t.length : Nat) : Int)) rfl rfl ?_
          refine wpL_done (fun W10 hW10 => ?_)
          refine (show Code.wp _ _ _ _ _ from ?_)
          refine wp_seq ?_
          refine wp_seq ?_
          refine wp_region_L (W0 := w) [] (hW10) ?_
          refine lm (v := .int .i64 ((er : Nat) : Int)) rfl rfl ?_
          refine lp (v := .bool true) rfl rfl (run_bin rfl (vx := (.int .i64 ((er : Nat) : Int))) (vy := (.int .i64 ((41 : Nat) : Int))) (by kernel_rfl) (by kernel_rfl) fun w => bn_eql (decide_eq_true he) w) ?_
          refine lm (v := .bool true) rfl rfl ?_
          refine lm (v := .int .i64 ((t.length : Nat) : Int)) rfl rfl ?_
          refine lm (v := .int .i64 ((p : Nat) : Int)) rfl rfl ?_
          refine lp (v := .int .i64 (((p + 1) : Nat) : Int)) rfl rfl (run_bin rfl (vx := (.int .i64 ((p : Nat) : Int))) (vy := (.int .i64 ((1 : Nat) : Int))) (by kernel_rfl) (by kernel_rfl) fun w => bn_add (z := (p + 1)) rfl (wr_i64 (by omega)) w) ?_
          refine lp (v := .bool true) rfl rfl (run_bin rfl (vx := (.int .i64 ((t.length : Nat) : Int))) (vy := (.int .i64 (((p + 1) : Nat) : Int))) (by kernel_rfl) (by kernel_rfl) fun w => bn_eql (decide_eq_true hend.symm) w) ?_
          refine lm (v := .bool true) rfl rfl ?_
          refine wpL_done (fun W11 hW11 => ?_)
          refine (show Code.wp _ _ _ _ _ from ?_)
          refine wp_cond_true rfl ?_
          refine wp_seq ?_
          refine wp_region_L (W0 := w) [] (hW11) ?_
          refine lm (v := .bool true) rfl rfl ?_
          refine wpL_done (fun W12 hW12 => ?_)
          refine (show Code.wp _ _ _ _ _ from ?_)
          refine wp_ret ?_
          try simp only [inBlock_ret, then_ret]
          refine bodyPost_ret (v := .bool true) ?_ rfl ?_
          · kernel_rfl
          · exact ⟨rfl, (hW12).1⟩
        by_cases hend : t.length < p + 2
        · by_cases he : er = 41
          · skip
            go_enter Try.func8, Try.ntmps8
            refine wp_seq ?_
            refine wp_region_L (W0 := w) [] (KS.start w) ?_
            refine lm (v := .bool false) rfl rfl ?_
            refine wpL_done (fun W1 hW1 => ?_)
            refine (show Code.wp _ _ _ _ _ from ?_)
            refine wp_seq ?_
            refine wp_seq ?_
            refine wp_region_L (W0 := w) [] (hW1) ?_
            refine lv (v := .bool true) rfl rfl (yb_call (f := 10) (args := #[]) (fun _ => by kernel_rfl) fun W hW => awake_any W) ?_
            refine lm (v := .bool false) rfl rfl ?_
            refine wpL_done (fun W2 hW2 => ?_)
            refine (show Code.wp _ _ _ _ _ from ?_)
            refine wp_cond_false rfl ?_
            refine wp_skip ?_
            refine (show Code.wp _ _ _ _ _ from ?_)
            refine wp_seq ?_
            refine wp_seq ?_
            refine wp_region_L (W0 := w) [] (hW2) ?_
            refine lm (v := strV t) rfl rfl ?_
            refine lp (v := .int .i64 ((t.length : Nat) : Int)) rfl rfl (run_lenS (l := t) rfl Try.underlying9 (by kernel_rfl)) ?_
            refine lp (v := .bool false) rfl rfl (run_bin rfl (vx := (.int .i64 ((t.length : Nat) : Int))) (vy := (.int .i64 ((2000 : Nat) : Int))) (by kernel_rfl) (by kernel_rfl) fun w => bn_gtr (decide_eq_false hl) w) ?_
            refine lm (v := .bool false) rfl rfl ?_
            refine lm (v := strV o) rfl rfl ?_
            refine lp (v := .int .i64 ((o.length : Nat) : Int)) rfl rfl (run_lenS (l := o) rfl Try.underlying9 (by kernel_rfl)) ?_
            refine lp (v := .bool false) rfl rfl (run_bin rfl (vx := (.int .i64 ((o.length : Nat) : Int))) (vy := (.int .i64 ((2000 : Nat) : Int))) (by kernel_rfl) (by kernel_rfl) fun w => bn_gtr (decide_eq_false hl2) w) ?_
            refine lm (v := .bool false) rfl rfl ?_
            refine wpL_done (fun W3 hW3 => ?_)
            refine (show Code.wp _ _ _ _ _ from ?_)
            refine wp_cond_false rfl ?_
            refine wp_skip ?_
            refine (show Code.wp _ _ _ _ _ from ?_)
            refine wp_seq ?_
            refine wp_region_L (W0 := w) [] (hW3) ?_
            refine lm (v := strV t) rfl rfl ?_
            refine wpL_c (f := 15) (args := #[strV t]) (fun v Tz => v = .tuple #[.slice none 0 0, .int .i64 ((p : Nat) : Int), .int .i64 ((er : Nat) : Int)] ∧ Tz = []) rfl (by kernel_rfl) (fun _ => (by kernel_rfl)) (fun W hW => Read_bad hr (by first | omega | (simp only [List.length_append, List.length_cons, List.length_nil]; omega)) W (hW.sub (fun _ h => by cases h))) (fun _ => by simp only [List.setIfInBounds_toArray, List.set_cons_succ, List.set_cons_zero] <;> rfl) ?_
            rintro _ _ ⟨rfl, rfl⟩
            refine lm (v := .tuple #[.slice none 0 0, .int .i64 ((p : Nat) : Int), .int .i64 ((er : Nat) : Int)]) rfl rfl ?_
            refine lm (v := .slice none 0 0) rfl rfl ?_
            refine lm (v := .int .i64 ((p : Nat) : Int)) rfl rfl ?_
            refine lm (v := .int .i64 ((er : Nat) : Int)) rfl rfl ?_
            refine lm (v := .slice none 0 0) rfl rfl ?_
            refine lm (v := .int .i64 ((p : Nat) : Int)) rfl rfl ?_
            refine lm (v := .int .i64 ((er : Nat) : Int)) rfl rfl ?_
            refine wpL_done (fun W4 hW4 => ?_)
            refine (show Code.wp _ _ _ _ _ from ?_)
            refine wp_seq ?_
            refine wp_seq ?_
            refine wp_region_L (W0 := w) [] (hW4) ?_
            refine lm (v := .int .i64 ((er : Nat) : Int)) rfl rfl ?_
            refine lp (v := .bool false) rfl rfl (run_bin rfl (vx := (.int .i64 ((er : Nat) : Int))) (vy := (.int .i64 ((0 : Nat) : Int))) (by kernel_rfl) (by kernel_rfl) fun w => bn_eql (decide_eq_false hne) w) ?_
            refine lm (v := .bool false) rfl rfl ?_
            refine lm (v := .int .i64 ((er : Nat) : Int)) rfl rfl ?_
            refine lp (v := .bool false) rfl rfl (run_bin rfl (vx := (.int .i64 ((er : Nat) : Int))) (vy := (.int .i64 ((42 : Nat) : Int))) (by kernel_rfl) (by kernel_rfl) fun w => bn_eql (decide_eq_false h42) w) ?_
            refine lm (v := .bool false) rfl rfl ?_
            refine wpL_done (fun W5 hW5 => ?_)
            refine (show Code.wp _ _ _ _ _ from ?_)
            refine wp_cond_false rfl ?_
            refine wp_skip ?_
            refine (show Code.wp _ _ _ _ _ from ?_)
            refine wp_seq ?_
            refine wp_region_L (W0 := w) [] (hW5) ?_
            refine lm (v := strV t) rfl rfl ?_
            refine lm (v := .int .i64 ((p : Nat) : Int)) rfl rfl ?_
            refine lp (v := strV (t.take p)) rfl rfl (run_slH (k2 := .i64) (l := t) (r := (t.take p)) (j := p) rfl Try.underlying9 (by kernel_rfl) (by kernel_rfl) (by omega) rfl) ?_
            refine wpL_c (f := 15) (args := #[strV (t.take p)]) (fun v Tz => v = .tuple #[.slice none 0 0, .int .i64 ((p : Nat) : Int), .int .i64 ((42 : Nat) : Int)] ∧ Tz = []) rfl (by kernel_rfl) (fun _ => (by kernel_rfl)) (fun W hW => Read_bad h1 (by omega) W (hW.sub (fun _ h => by cases h))) (fun _ => by simp only [List.setIfInBounds_toArray, List.set_cons_succ, List.set_cons_zero] <;> rfl) ?_
            rintro _ _ ⟨rfl, rfl⟩
            refine lm (v := .tuple #[.slice none 0 0, .int .i64 ((p : Nat) : Int), .int .i64 42]) rfl rfl ?_
            refine lm (v := .slice none 0 0) rfl rfl ?_
            refine lm (v := .int .i64 ((p : Nat) : Int)) rfl rfl ?_
            refine lm (v := .int .i64 42) rfl rfl ?_
            refine lm (v := .slice none 0 0) rfl rfl ?_
            refine lm (v := .int .i64 ((p : Nat) : Int)) rfl rfl ?_
            refine lm (v := .int .i64 42) rfl rfl ?_
            refine wpL_done (fun W6 hW6 => ?_)
            refine (show Code.wp _ _ _ _ _ from ?_)
            refine wp_seq ?_
            refine wp_seq ?_
            refine wp_region_L (W0 := w) [] (hW6) ?_
            refine lm (v := .int .i64 42) rfl rfl ?_
            refine lm (v := .bool true) rfl rfl ?_
            refine lm (v := .bool true) rfl rfl ?_
            refine lm (v := .int .i64 42) rfl rfl ?_
            refine lm (v := .bool false) rfl rfl ?_
            refine lm (v := .bool false) rfl rfl ?_
            refine lm (v := .int .i64 ((p : Nat) : Int)) rfl rfl ?_
            refine lm (v := .int .i64 ((p : Nat) : Int)) rfl rfl ?_
            refine lp (v := .bool false) rfl rfl (run_bin rfl (vx := (.int .i64 ((p : Nat) : Int))) (vy := (.int .i64 ((p : Nat) : Int))) (by kernel_rfl) (by kernel_rfl) fun w => bn_neq (decide_eq_true rfl) w) ?_
            refine lm (v := .bool false) rfl rfl ?_
            refine lm (v := .bool false) rfl rfl ?_
            refine wpL_done (fun W7 hW7 => ?_)
            refine (show Code.wp _ _ _ _ _ from ?_)
            refine wp_cond_false rfl ?_
            refine wp_skip ?_
            refine (show Code.wp _ _ _ _ _ from ?_)
            refine wp_seq ?_
            refine wp_region_L (W0 := w) [] (hW7) ?_
            refine lm (v := .int .i64 ((p : Nat) : Int)) rfl rfl ?_
            refine lp (v := .int .i64 (((p + 1) : Nat) : Int)) rfl rfl (run_bin rfl (vx := (.int .i64 ((p : Nat) : Int))) (vy := (.int .i64 ((1 : Nat) : Int))) (by kernel_rfl) (by kernel_rfl) fun w => bn_add (z := (p + 1)) rfl (wr_i64 (by omega)) w) ?_
            refine lm (v := .int .i64 (((p + 1) : Nat) : Int)) rfl rfl ?_
            refine wpL_done (fun W8 hW8 => ?_)
            refine (show Code.wp _ _ _ _ _ from ?_)
            refine wp_seq ?_
            refine wp_seq ?_
            refine wp_region_L (W0 := w) [] (hW8) ?_
            refine lm (v := strV t) rfl rfl ?_
            refine lm (v := .int .i64 ((p : Nat) : Int)) rfl rfl ?_
            refine lp (v := .int .u8 ((x.toNat : Nat) : Int)) rfl rfl (run_idxS (j := .i64) (l := t) (k := p) (b := x) rfl Try.underlying9 (by kernel_rfl) (by kernel_rfl) hx) ?_
            refine lp (v := .bool true) rfl rfl (run_bin rfl (vx := (.int .u8 ((x.toNat : Nat) : Int))) (vy := (.int .u8 ((63 : Nat) : Int))) (by kernel_rfl) (by kernel_rfl) fun w => bn_eql (decide_eq_true h63) w) ?_
            refine wpL_done (fun W9 hW9 => ?_)
            refine (show Code.wp _ _ _ _ _ from ?_)
            refine wp_cond_true rfl ?_
            refine wp_region_L (W0 := w) [] (hW9) ?_
            refine lm (v := .int .i64 ((p : Nat) : Int)) rfl rfl ?_
            refine lp (v := .int .i64 (((p + 2) : Nat) : Int)) rfl rfl (run_bin rfl (vx := (.int .i64 ((p : Nat) : Int))) (vy := (.int .i64 ((2 : Nat) : Int))) (by kernel_rfl) (by kernel_rfl) fun w => bn_add (z := (p + 2)) rfl (wr_i64 (by omega)) w) ?_
            refine lm (v := strV t) rfl rfl ?_
            refine lp (v := .int .i64 ((t.length : Nat) : Int)) rfl rfl (run_lenS (l := t) rfl Try.underlying9 (by kernel_rfl)) ?_
            refine lp (v := .int .i64 ((t.length : Nat) : Int)) rfl rfl (run_minR (k := .i64) (k2 := .i64) (u := (((p + 2) : Nat) : Int)) (v := ((t.length : Nat) : Int)) rfl (by kernel_rfl) (by kernel_rfl) (by rw [if_pos (by omega)])) ?_
            refine lm (v := .int .i64 ((t.length : Nat) : Int)) rfl rfl ?_
            refine wpL_done (fun W10 hW10 => ?_)
            refine (show Code.wp _ _ _ _ _ from ?_)
            refine wp_seq ?_
            refine wp_seq ?_
            refine wp_region_L (W0 := w) [] (hW10) ?_
            refine lm (v := .int .i64 ((er : Nat) : Int)) rfl rfl ?_
            refine lp (v := .bool true) rfl rfl (run_bin rfl (vx := (.int .i64 ((er : Nat) : Int))) (vy := (.int .i64 ((41 : Nat) : Int))) (by kernel_rfl) (by kernel_rfl) fun w => bn_eql (decide_eq_true he) w) ?_
            refine lm (v := .bool true) rfl rfl ?_
            refine lm (v := .int .i64 ((t.length : Nat) : Int)) rfl rfl ?_
            refine lm (v := .int .i64 ((p : Nat) : Int)) rfl rfl ?_
            refine lp (v := .int .i64 (((p + 1) : Nat) : Int)) rfl rfl (run_bin rfl (vx := (.int .i64 ((p : Nat) : Int))) (vy := (.int .i64 ((1 : Nat) : Int))) (by kernel_rfl) (by kernel_rfl) fun w => bn_add (z := (p + 1)) rfl (wr_i64 (by omega)) w) ?_
            refine lp (v := .bool true) rfl rfl (run_bin rfl (vx := (.int .i64 ((t.length : Nat) : Int))) (vy := (.int .i64 (((p + 1) : Nat) : Int))) (by kernel_rfl) (by kernel_rfl) fun w => bn_eql (decide_eq_true (by omega)) w) ?_
            refine lm (v := .bool true) rfl rfl ?_
            refine wpL_done (fun W11 hW11 => ?_)
            refine (show Code.wp _ _ _ _ _ from ?_)
            refine wp_cond_true rfl ?_
            refine wp_seq ?_
            refine wp_region_L (W0 := w) [] (hW11) ?_
            refine lm (v := .bool true) rfl rfl ?_
            refine wpL_done (fun W12 hW12 => ?_)
            refine (show Code.wp _ _ _ _ _ from ?_)
            refine wp_ret ?_
            try simp only [inBlock_ret, then_ret]
            refine bodyPost_ret (v := .bool true) ?_ rfl ?_
            · kernel_rfl
            · exact ⟨rfl, (hW12).1⟩
          exact absurd (last_q hr hx h63 (by omega) (by omega)) he
        have h3 : readT (t.take (p + 2) ++ o) = .bad p er := h2 (p + 2) o (by omega) (fun _ => by omega) (by rw [List.length_append, List.length_take]; omega) (by omega)
        go_enter Try.func8, Try.ntmps8
        refine wp_seq ?_
        refine wp_region_L (W0 := w) [] (KS.start w) ?_
        refine lm (v := .bool false) rfl rfl ?_
        refine wpL_done (fun W1 hW1 => ?_)
        refine (show Code.wp _ _ _ _ _ from ?_)
        refine wp_seq ?_
        refine wp_seq ?_
        refine wp_region_L (W0 := w) [] (hW1) ?_
        refine lv (v := .bool true) rfl rfl (yb_call (f := 10) (args := #[]) (fun _ => by kernel_rfl) fun W hW => awake_any W) ?_
        refine lm (v := .bool false) rfl rfl ?_
        refine wpL_done (fun W2 hW2 => ?_)
        refine (show Code.wp _ _ _ _ _ from ?_)
        refine wp_cond_false rfl ?_
        refine wp_skip ?_
        refine (show Code.wp _ _ _ _ _ from ?_)
        refine wp_seq ?_
        refine wp_seq ?_
        refine wp_region_L (W0 := w) [] (hW2) ?_
        refine lm (v := strV t) rfl rfl ?_
        refine lp (v := .int .i64 ((t.length : Nat) : Int)) rfl rfl (run_lenS (l := t) rfl Try.underlying9 (by kernel_rfl)) ?_
        refine lp (v := .bool false) rfl rfl (run_bin rfl (vx := (.int .i64 ((t.length : Nat) : Int))) (vy := (.int .i64 ((2000 : Nat) : Int))) (by kernel_rfl) (by kernel_rfl) fun w => bn_gtr (decide_eq_false hl) w) ?_
        refine lm (v := .bool false) rfl rfl ?_
        refine lm (v := strV o) rfl rfl ?_
        refine lp (v := .int .i64 ((o.length : Nat) : Int)) rfl rfl (run_lenS (l := o) rfl Try.underlying9 (by kernel_rfl)) ?_
        refine lp (v := .bool false) rfl rfl (run_bin rfl (vx := (.int .i64 ((o.length : Nat) : Int))) (vy := (.int .i64 ((2000 : Nat) : Int))) (by kernel_rfl) (by kernel_rfl) fun w => bn_gtr (decide_eq_false hl2) w) ?_
        refine lm (v := .bool false) rfl rfl ?_
        refine wpL_done (fun W3 hW3 => ?_)
        refine (show Code.wp _ _ _ _ _ from ?_)
        refine wp_cond_false rfl ?_
        refine wp_skip ?_
        refine (show Code.wp _ _ _ _ _ from ?_)
        refine wp_seq ?_
        refine wp_region_L (W0 := w) [] (hW3) ?_
        refine lm (v := strV t) rfl rfl ?_
        refine wpL_c (f := 15) (args := #[strV t]) (fun v Tz => v = .tuple #[.slice none 0 0, .int .i64 ((p : Nat) : Int), .int .i64 ((er : Nat) : Int)] ∧ Tz = []) rfl (by kernel_rfl) (fun _ => (by kernel_rfl)) (fun W hW => Read_bad hr (by first | omega | (simp only [List.length_append, List.length_cons, List.length_nil]; omega)) W (hW.sub (fun _ h => by cases h))) (fun _ => by simp only [List.setIfInBounds_toArray, List.set_cons_succ, List.set_cons_zero] <;> rfl) ?_
        rintro _ _ ⟨rfl, rfl⟩
        refine lm (v := .tuple #[.slice none 0 0, .int .i64 ((p : Nat) : Int), .int .i64 ((er : Nat) : Int)]) rfl rfl ?_
        refine lm (v := .slice none 0 0) rfl rfl ?_
        refine lm (v := .int .i64 ((p : Nat) : Int)) rfl rfl ?_
        refine lm (v := .int .i64 ((er : Nat) : Int)) rfl rfl ?_
        refine lm (v := .slice none 0 0) rfl rfl ?_
        refine lm (v := .int .i64 ((p : Nat) : Int)) rfl rfl ?_
        refine lm (v := .int .i64 ((er : Nat) : Int)) rfl rfl ?_
        refine wpL_done (fun W4 hW4 => ?_)
        refine (show Code.wp _ _ _ _ _ from ?_)
        refine wp_seq ?_
        refine wp_seq ?_
        refine wp_region_L (W0 := w) [] (hW4) ?_
        refine lm (v := .int .i64 ((er : Nat) : Int)) rfl rfl ?_
        refine lp (v := .bool false) rfl rfl (run_bin rfl (vx := (.int .i64 ((er : Nat) : Int))) (vy := (.int .i64 ((0 : Nat) : Int))) (by kernel_rfl) (by kernel_rfl) fun w => bn_eql (decide_eq_false hne) w) ?_
        refine lm (v := .bool false) rfl rfl ?_
        refine lm (v := .int .i64 ((er : Nat) : Int)) rfl rfl ?_
        refine lp (v := .bool false) rfl rfl (run_bin rfl (vx := (.int .i64 ((er : Nat) : Int))) (vy := (.int .i64 ((42 : Nat) : Int))) (by kernel_rfl) (by kernel_rfl) fun w => bn_eql (decide_eq_false h42) w) ?_
        refine lm (v := .bool false) rfl rfl ?_
        refine wpL_done (fun W5 hW5 => ?_)
        refine (show Code.wp _ _ _ _ _ from ?_)
        refine wp_cond_false rfl ?_
        refine wp_skip ?_
        refine (show Code.wp _ _ _ _ _ from ?_)
        refine wp_seq ?_
        refine wp_region_L (W0 := w) [] (hW5) ?_
        refine lm (v := strV t) rfl rfl ?_
        refine lm (v := .int .i64 ((p : Nat) : Int)) rfl rfl ?_
        refine lp (v := strV (t.take p)) rfl rfl (run_slH (k2 := .i64) (l := t) (r := (t.take p)) (j := p) rfl Try.underlying9 (by kernel_rfl) (by kernel_rfl) (by omega) rfl) ?_
        refine wpL_c (f := 15) (args := #[strV (t.take p)]) (fun v Tz => v = .tuple #[.slice none 0 0, .int .i64 ((p : Nat) : Int), .int .i64 ((42 : Nat) : Int)] ∧ Tz = []) rfl (by kernel_rfl) (fun _ => (by kernel_rfl)) (fun W hW => Read_bad h1 (by omega) W (hW.sub (fun _ h => by cases h))) (fun _ => by simp only [List.setIfInBounds_toArray, List.set_cons_succ, List.set_cons_zero] <;> rfl) ?_
        rintro _ _ ⟨rfl, rfl⟩
        refine lm (v := .tuple #[.slice none 0 0, .int .i64 ((p : Nat) : Int), .int .i64 42]) rfl rfl ?_
        refine lm (v := .slice none 0 0) rfl rfl ?_
        refine lm (v := .int .i64 ((p : Nat) : Int)) rfl rfl ?_
        refine lm (v := .int .i64 42) rfl rfl ?_
        refine lm (v := .slice none 0 0) rfl rfl ?_
        refine lm (v := .int .i64 ((p : Nat) : Int)) rfl rfl ?_
        refine lm (v := .int .i64 42) rfl rfl ?_
        refine wpL_done (fun W6 hW6 => ?_)
        refine (show Code.wp _ _ _ _ _ from ?_)
        refine wp_seq ?_
        refine wp_seq ?_
        refine wp_region_L (W0 := w) [] (hW6) ?_
        refine lm (v := .int .i64 42) rfl rfl ?_
        refine lm (v := .bool true) rfl rfl ?_
        refine lm (v := .bool true) rfl rfl ?_
        refine lm (v := .int .i64 42) rfl rfl ?_
        refine lm (v := .bool false) rfl rfl ?_
        refine lm (v := .bool false) rfl rfl ?_
        refine lm (v := .int .i64 ((p : Nat) : Int)) rfl rfl ?_
        refine lm (v := .int .i64 ((p : Nat) : Int)) rfl rfl ?_
        refine lp (v := .bool false) rfl rfl (run_bin rfl (vx := (.int .i64 ((p : Nat) : Int))) (vy := (.int .i64 ((p : Nat) : Int))) (by kernel_rfl) (by kernel_rfl) fun w => bn_neq (decide_eq_true rfl) w) ?_
        refine lm (v := .bool false) rfl rfl ?_
        refine lm (v := .bool false) rfl rfl ?_
        refine wpL_done (fun W7 hW7 => ?_)
        refine (show Code.wp _ _ _ _ _ from ?_)
        refine wp_cond_false rfl ?_
        refine wp_skip ?_
        refine (show Code.wp _ _ _ _ _ from ?_)
        refine wp_seq ?_
        refine wp_region_L (W0 := w) [] (hW7) ?_
        refine lm (v := .int .i64 ((p : Nat) : Int)) rfl rfl ?_
        refine lp (v := .int .i64 (((p + 1) : Nat) : Int)) rfl rfl (run_bin rfl (vx := (.int .i64 ((p : Nat) : Int))) (vy := (.int .i64 ((1 : Nat) : Int))) (by kernel_rfl) (by kernel_rfl) fun w => bn_add (z := (p + 1)) rfl (wr_i64 (by omega)) w) ?_
        refine lm (v := .int .i64 (((p + 1) : Nat) : Int)) rfl rfl ?_
        refine wpL_done (fun W8 hW8 => ?_)
        refine (show Code.wp _ _ _ _ _ from ?_)
        refine wp_seq ?_
        refine wp_seq ?_
        refine wp_region_L (W0 := w) [] (hW8) ?_
        refine lm (v := strV t) rfl rfl ?_
        refine lm (v := .int .i64 ((p : Nat) : Int)) rfl rfl ?_
        refine lp (v := .int .u8 ((x.toNat : Nat) : Int)) rfl rfl (run_idxS (j := .i64) (l := t) (k := p) (b := x) rfl Try.underlying9 (by kernel_rfl) (by kernel_rfl) hx) ?_
        refine lp (v := .bool true) rfl rfl (run_bin rfl (vx := (.int .u8 ((x.toNat : Nat) : Int))) (vy := (.int .u8 ((63 : Nat) : Int))) (by kernel_rfl) (by kernel_rfl) fun w => bn_eql (decide_eq_true h63) w) ?_
        refine wpL_done (fun W9 hW9 => ?_)
        refine (show Code.wp _ _ _ _ _ from ?_)
        refine wp_cond_true rfl ?_
        refine wp_region_L (W0 := w) [] (hW9) ?_
        refine lm (v := .int .i64 ((p : Nat) : Int)) rfl rfl ?_
        refine lp (v := .int .i64 (((p + 2) : Nat) : Int)) rfl rfl (run_bin rfl (vx := (.int .i64 ((p : Nat) : Int))) (vy := (.int .i64 ((2 : Nat) : Int))) (by kernel_rfl) (by kernel_rfl) fun w => bn_add (z := (p + 2)) rfl (wr_i64 (by omega)) w) ?_
        refine lm (v := strV t) rfl rfl ?_
        refine lp (v := .int .i64 ((t.length : Nat) : Int)) rfl rfl (run_lenS (l := t) rfl Try.underlying9 (by kernel_rfl)) ?_
        refine lp (v := .int .i64 (((p + 2) : Nat) : Int)) rfl rfl (run_minR (k := .i64) (k2 := .i64) (u := (((p + 2) : Nat) : Int)) (v := ((t.length : Nat) : Int)) rfl (by kernel_rfl) (by kernel_rfl) (by rw [if_neg (by omega)])) ?_
        refine lm (v := .int .i64 (((p + 2) : Nat) : Int)) rfl rfl ?_
        refine wpL_done (fun W10 hW10 => ?_)
        refine (show Code.wp _ _ _ _ _ from ?_)
        refine wp_seq ?_
        refine wp_seq ?_
        refine wp_region_L (W0 := w) [] (hW10) ?_
        refine lm (v := .int .i64 ((er : Nat) : Int)) rfl rfl ?_
        refine lp (v := .bool (decide (er = 41))) rfl rfl (run_bin rfl (vx := (.int .i64 ((er : Nat) : Int))) (vy := (.int .i64 ((41 : Nat) : Int))) (by kernel_rfl) (by kernel_rfl) fun w => bn_eql rfl w) ?_
        refine lm (v := .bool (decide (er = 41))) rfl rfl ?_
        cases hd1 : (decide (er = 41)) with
        | false =>
          have h1 : ¬ (er = 41) := of_decide_eq_false hd1
          clear hd1
          refine ln rfl ?_
          refine ln rfl ?_
          refine ln rfl ?_
          refine ln rfl ?_
          refine lm (v := .bool false) rfl rfl ?_
          refine wpL_done (fun W11 hW11 => ?_)
          refine (show Code.wp _ _ _ _ _ from ?_)
          refine wp_cond_false rfl ?_
          refine wp_skip ?_
          refine (show Code.wp _ _ _ _ _ from ?_)
          refine wp_seq ?_
          refine wp_region_L (W0 := w) [] (hW11) ?_
          refine lm (v := strV t) rfl rfl ?_
          refine lm (v := .int .i64 (((p + 2) : Nat) : Int)) rfl rfl ?_
          refine lp (v := strV (t.take (p + 2))) rfl rfl (run_slH (k2 := .i64) (l := t) (r := (t.take (p + 2))) (j := (p + 2)) rfl Try.underlying9 (by kernel_rfl) (by kernel_rfl) (by omega) rfl) ?_
          refine lm (v := strV o) rfl rfl ?_
          refine lp (v := strV ((t.take (p + 2)) ++ o)) rfl rfl (run_bin rfl (vx := strV (t.take (p + 2))) (vy := strV o) (by kernel_rfl) (by kernel_rfl) fun w => bs_add (c := ((t.take (p + 2)) ++ o)) rfl (by first | omega | (simp; omega)) w) ?_
          refine wpL_c (f := 15) (args := #[strV ((t.take (p + 2)) ++ o)]) (fun v Tz => v = .tuple #[.slice none 0 0, .int .i64 ((p : Nat) : Int), .int .i64 ((er : Nat) : Int)] ∧ Tz = []) rfl (by kernel_rfl) (fun _ => (by kernel_rfl)) (fun W hW => Read_bad h3 (by first | omega | (simp only [List.length_append, List.length_cons, List.length_nil]; omega)) W (hW.sub (fun _ h => by cases h))) (fun _ => by simp only [List.setIfInBounds_toArray, List.set_cons_succ, List.set_cons_zero] <;> rfl) ?_
          rintro _ _ ⟨rfl, rfl⟩
          refine lm (v := .tuple #[.slice none 0 0, .int .i64 ((p : Nat) : Int), .int .i64 ((er : Nat) : Int)]) rfl rfl ?_
          refine lm (v := .slice none 0 0) rfl rfl ?_
          refine lm (v := .int .i64 ((p : Nat) : Int)) rfl rfl ?_
          refine lm (v := .int .i64 ((er : Nat) : Int)) rfl rfl ?_
          refine lm (v := .int .i64 ((p : Nat) : Int)) rfl rfl ?_
          refine lm (v := .int .i64 ((er : Nat) : Int)) rfl rfl ?_
          refine wpL_done (fun W12 hW12 => ?_)
          refine (show Code.wp _ _ _ _ _ from ?_)
          refine wp_seq ?_
          refine wp_region_L (W0 := w) [] (hW12) ?_
          refine lm (v := .int .i64 ((er : Nat) : Int)) rfl rfl ?_
          refine lm (v := .int .i64 ((er : Nat) : Int)) rfl rfl ?_
          refine lp (v := .bool true) rfl rfl (run_bin rfl (vx := (.int .i64 ((er : Nat) : Int))) (vy := (.int .i64 ((er : Nat) : Int))) (by kernel_rfl) (by kernel_rfl) fun w => bn_eql (decide_eq_true rfl) w) ?_
          refine lm (v := .bool true) rfl rfl ?_
          refine lm (v := .int .i64 ((p : Nat) : Int)) rfl rfl ?_
          refine lm (v := .int .i64 ((p : Nat) : Int)) rfl rfl ?_
          refine lp (v := .bool true) rfl rfl (run_bin rfl (vx := (.int .i64 ((p : Nat) : Int))) (vy := (.int .i64 ((p : Nat) : Int))) (by kernel_rfl) (by kernel_rfl) fun w => bn_eql (decide_eq_true rfl) w) ?_
          refine lm (v := .bool true) rfl rfl ?_
          refine lm (v := .bool true) rfl rfl ?_
          refine wpL_done (fun W13 hW13 => ?_)
          refine (show Code.wp _ _ _ _ _ from ?_)
          refine wp_ret ?_
          try simp only [inBlock_ret, then_ret]
          refine bodyPost_ret (v := .bool true) ?_ rfl ?_
          · kernel_rfl
          · exact ⟨rfl, (hW13).1⟩
        | true =>
          have h1 : er = 41 := of_decide_eq_true hd1
          clear hd1
          refine lm (v := .int .i64 (((p + 2) : Nat) : Int)) rfl rfl ?_
          refine lm (v := .int .i64 ((p : Nat) : Int)) rfl rfl ?_
          refine lp (v := .int .i64 (((p + 1) : Nat) : Int)) rfl rfl (run_bin rfl (vx := (.int .i64 ((p : Nat) : Int))) (vy := (.int .i64 ((1 : Nat) : Int))) (by kernel_rfl) (by kernel_rfl) fun w => bn_add (z := (p + 1)) rfl (wr_i64 (by omega)) w) ?_
          refine lp (v := .bool false) rfl rfl (run_bin rfl (vx := (.int .i64 (((p + 2) : Nat) : Int))) (vy := (.int .i64 (((p + 1) : Nat) : Int))) (by kernel_rfl) (by kernel_rfl) fun w => bn_eql (decide_eq_false (by omega)) w) ?_
          refine lm (v := .bool false) rfl rfl ?_
          refine wpL_done (fun W14 hW14 => ?_)
          refine (show Code.wp _ _ _ _ _ from ?_)
          refine wp_cond_false rfl ?_
          refine wp_skip ?_
          refine (show Code.wp _ _ _ _ _ from ?_)
          refine wp_seq ?_
          refine wp_region_L (W0 := w) [] (hW14) ?_
          refine lm (v := strV t) rfl rfl ?_
          refine lm (v := .int .i64 (((p + 2) : Nat) : Int)) rfl rfl ?_
          refine lp (v := strV (t.take (p + 2))) rfl rfl (run_slH (k2 := .i64) (l := t) (r := (t.take (p + 2))) (j := (p + 2)) rfl Try.underlying9 (by kernel_rfl) (by kernel_rfl) (by omega) rfl) ?_
          refine lm (v := strV o) rfl rfl ?_
          refine lp (v := strV ((t.take (p + 2)) ++ o)) rfl rfl (run_bin rfl (vx := strV (t.take (p + 2))) (vy := strV o) (by kernel_rfl) (by kernel_rfl) fun w => bs_add (c := ((t.take (p + 2)) ++ o)) rfl (by first | omega | (simp; omega)) w) ?_
          refine wpL_c (f := 15) (args := #[strV ((t.take (p + 2)) ++ o)]) (fun v Tz => v = .tuple #[.slice none 0 0, .int .i64 ((p : Nat) : Int), .int .i64 ((er : Nat) : Int)] ∧ Tz = []) rfl (by kernel_rfl) (fun _ => (by kernel_rfl)) (fun W hW => Read_bad h3 (by first | omega | (simp only [List.length_append, List.length_cons, List.length_nil]; omega)) W (hW.sub (fun _ h => by cases h))) (fun _ => by simp only [List.setIfInBounds_toArray, List.set_cons_succ, List.set_cons_zero] <;> rfl) ?_
          rintro _ _ ⟨rfl, rfl⟩
          refine lm (v := .tuple #[.slice none 0 0, .int .i64 ((p : Nat) : Int), .int .i64 ((er : Nat) : Int)]) rfl rfl ?_
          refine lm (v := .slice none 0 0) rfl rfl ?_
          refine lm (v := .int .i64 ((p : Nat) : Int)) rfl rfl ?_
          refine lm (v := .int .i64 ((er : Nat) : Int)) rfl rfl ?_
          refine lm (v := .int .i64 ((p : Nat) : Int)) rfl rfl ?_
          refine lm (v := .int .i64 ((er : Nat) : Int)) rfl rfl ?_
          refine wpL_done (fun W15 hW15 => ?_)
          refine (show Code.wp _ _ _ _ _ from ?_)
          refine wp_seq ?_
          refine wp_region_L (W0 := w) [] (hW15) ?_
          refine lm (v := .int .i64 ((er : Nat) : Int)) rfl rfl ?_
          refine lm (v := .int .i64 ((er : Nat) : Int)) rfl rfl ?_
          refine lp (v := .bool true) rfl rfl (run_bin rfl (vx := (.int .i64 ((er : Nat) : Int))) (vy := (.int .i64 ((er : Nat) : Int))) (by kernel_rfl) (by kernel_rfl) fun w => bn_eql (decide_eq_true rfl) w) ?_
          refine lm (v := .bool true) rfl rfl ?_
          refine lm (v := .int .i64 ((p : Nat) : Int)) rfl rfl ?_
          refine lm (v := .int .i64 ((p : Nat) : Int)) rfl rfl ?_
          refine lp (v := .bool true) rfl rfl (run_bin rfl (vx := (.int .i64 ((p : Nat) : Int))) (vy := (.int .i64 ((p : Nat) : Int))) (by kernel_rfl) (by kernel_rfl) fun w => bn_eql (decide_eq_true rfl) w) ?_
          refine lm (v := .bool true) rfl rfl ?_
          refine lm (v := .bool true) rfl rfl ?_
          refine wpL_done (fun W16 hW16 => ?_)
          refine (show Code.wp _ _ _ _ _ from ?_)
          refine wp_ret ?_
          try simp only [inBlock_ret, then_ret]
          refine bodyPost_ret (v := .bool true) ?_ rfl ?_
          · kernel_rfl
          · exact ⟨rfl, (hW16).1⟩
      · rcases h2 with ⟨h, _⟩ | h2
        · exact absurd h h63
        have h3 : readT (t.take (p + 1) ++ o) = .bad p er := h2 (p + 1) o (Nat.le_refl _) (fun h => absurd h h63) (by rw [List.length_append, List.length_take]; omega) (by omega)
        go_enter Try.func8, Try.ntmps8
        refine wp_seq ?_
        refine wp_region_L (W0 := w) [] (KS.start w) ?_
        refine lm (v := .bool false) rfl rfl ?_
        refine wpL_done (fun W1 hW1 => ?_)
        refine (show Code.wp _ _ _ _ _ from ?_)
        refine wp_seq ?_
        refine wp_seq ?_
        refine wp_region_L (W0 := w) [] (hW1) ?_
        refine lv (v := .bool true) rfl rfl (yb_call (f := 10) (args := #[]) (fun _ => by kernel_rfl) fun W hW => awake_any W) ?_
        refine lm (v := .bool false) rfl rfl ?_
        refine wpL_done (fun W2 hW2 => ?_)
        refine (show Code.wp _ _ _ _ _ from ?_)
        refine wp_cond_false rfl ?_
        refine wp_skip ?_
        refine (show Code.wp _ _ _ _ _ from ?_)
        refine wp_seq ?_
        refine wp_seq ?_
        refine wp_region_L (W0 := w) [] (hW2) ?_
        refine lm (v := strV t) rfl rfl ?_
        refine lp (v := .int .i64 ((t.length : Nat) : Int)) rfl rfl (run_lenS (l := t) rfl Try.underlying9 (by kernel_rfl)) ?_
        refine lp (v := .bool false) rfl rfl (run_bin rfl (vx := (.int .i64 ((t.length : Nat) : Int))) (vy := (.int .i64 ((2000 : Nat) : Int))) (by kernel_rfl) (by kernel_rfl) fun w => bn_gtr (decide_eq_false hl) w) ?_
        refine lm (v := .bool false) rfl rfl ?_
        refine lm (v := strV o) rfl rfl ?_
        refine lp (v := .int .i64 ((o.length : Nat) : Int)) rfl rfl (run_lenS (l := o) rfl Try.underlying9 (by kernel_rfl)) ?_
        refine lp (v := .bool false) rfl rfl (run_bin rfl (vx := (.int .i64 ((o.length : Nat) : Int))) (vy := (.int .i64 ((2000 : Nat) : Int))) (by kernel_rfl) (by kernel_rfl) fun w => bn_gtr (decide_eq_false hl2) w) ?_
        refine lm (v := .bool false) rfl rfl ?_
        refine wpL_done (fun W3 hW3 => ?_)
        refine (show Code.wp _ _ _ _ _ from ?_)
        refine wp_cond_false rfl ?_
        refine wp_skip ?_
        refine (show Code.wp _ _ _ _ _ from ?_)
        refine wp_seq ?_
        refine wp_region_L (W0 := w) [] (hW3) ?_
        refine lm (v := strV t) rfl rfl ?_
        refine wpL_c (f := 15) (args := #[strV t]) (fun v Tz => v = .tuple #[.slice none 0 0, .int .i64 ((p : Nat) : Int), .int .i64 ((er : Nat) : Int)] ∧ Tz = []) rfl (by kernel_rfl) (fun _ => (by kernel_rfl)) (fun W hW => Read_bad hr (by first | omega | (simp only [List.length_append, List.length_cons, List.length_nil]; omega)) W (hW.sub (fun _ h => by cases h))) (fun _ => by simp only [List.setIfInBounds_toArray, List.set_cons_succ, List.set_cons_zero] <;> rfl) ?_
        rintro _ _ ⟨rfl, rfl⟩
        refine lm (v := .tuple #[.slice none 0 0, .int .i64 ((p : Nat) : Int), .int .i64 ((er : Nat) : Int)]) rfl rfl ?_
        refine lm (v := .slice none 0 0) rfl rfl ?_
        refine lm (v := .int .i64 ((p : Nat) : Int)) rfl rfl ?_
        refine lm (v := .int .i64 ((er : Nat) : Int)) rfl rfl ?_
        refine lm (v := .slice none 0 0) rfl rfl ?_
        refine lm (v := .int .i64 ((p : Nat) : Int)) rfl rfl ?_
        refine lm (v := .int .i64 ((er : Nat) : Int)) rfl rfl ?_
        refine wpL_done (fun W4 hW4 => ?_)
        refine (show Code.wp _ _ _ _ _ from ?_)
        refine wp_seq ?_
        refine wp_seq ?_
        refine wp_region_L (W0 := w) [] (hW4) ?_
        refine lm (v := .int .i64 ((er : Nat) : Int)) rfl rfl ?_
        refine lp (v := .bool false) rfl rfl (run_bin rfl (vx := (.int .i64 ((er : Nat) : Int))) (vy := (.int .i64 ((0 : Nat) : Int))) (by kernel_rfl) (by kernel_rfl) fun w => bn_eql (decide_eq_false hne) w) ?_
        refine lm (v := .bool false) rfl rfl ?_
        refine lm (v := .int .i64 ((er : Nat) : Int)) rfl rfl ?_
        refine lp (v := .bool false) rfl rfl (run_bin rfl (vx := (.int .i64 ((er : Nat) : Int))) (vy := (.int .i64 ((42 : Nat) : Int))) (by kernel_rfl) (by kernel_rfl) fun w => bn_eql (decide_eq_false h42) w) ?_
        refine lm (v := .bool false) rfl rfl ?_
        refine wpL_done (fun W5 hW5 => ?_)
        refine (show Code.wp _ _ _ _ _ from ?_)
        refine wp_cond_false rfl ?_
        refine wp_skip ?_
        refine (show Code.wp _ _ _ _ _ from ?_)
        refine wp_seq ?_
        refine wp_region_L (W0 := w) [] (hW5) ?_
        refine lm (v := strV t) rfl rfl ?_
        refine lm (v := .int .i64 ((p : Nat) : Int)) rfl rfl ?_
        refine lp (v := strV (t.take p)) rfl rfl (run_slH (k2 := .i64) (l := t) (r := (t.take p)) (j := p) rfl Try.underlying9 (by kernel_rfl) (by kernel_rfl) (by omega) rfl) ?_
        refine wpL_c (f := 15) (args := #[strV (t.take p)]) (fun v Tz => v = .tuple #[.slice none 0 0, .int .i64 ((p : Nat) : Int), .int .i64 ((42 : Nat) : Int)] ∧ Tz = []) rfl (by kernel_rfl) (fun _ => (by kernel_rfl)) (fun W hW => Read_bad h1 (by omega) W (hW.sub (fun _ h => by cases h))) (fun _ => by simp only [List.setIfInBounds_toArray, List.set_cons_succ, List.set_cons_zero] <;> rfl) ?_
        rintro _ _ ⟨rfl, rfl⟩
        refine lm (v := .tuple #[.slice none 0 0, .int .i64 ((p : Nat) : Int), .int .i64 42]) rfl rfl ?_
        refine lm (v := .slice none 0 0) rfl rfl ?_
        refine lm (v := .int .i64 ((p : Nat) : Int)) rfl rfl ?_
        refine lm (v := .int .i64 42) rfl rfl ?_
        refine lm (v := .slice none 0 0) rfl rfl ?_
        refine lm (v := .int .i64 ((p : Nat) : Int)) rfl rfl ?_
        refine lm (v := .int .i64 42) rfl rfl ?_
        refine wpL_done (fun W6 hW6 => ?_)
        refine (show Code.wp _ _ _ _ _ from ?_)
        refine wp_seq ?_
        refine wp_seq ?_
        refine wp_region_L (W0 := w) [] (hW6) ?_
        refine lm (v := .int .i64 42) rfl rfl ?_
        refine lm (v := .bool true) rfl rfl ?_
        refine lm (v := .bool true) rfl rfl ?_
        refine lm (v := .int .i64 42) rfl rfl ?_
        refine lm (v := .bool false) rfl rfl ?_
        refine lm (v := .bool false) rfl rfl ?_
        refine lm (v := .int .i64 ((p : Nat) : Int)) rfl rfl ?_
        refine lm (v := .int .i64 ((p : Nat) : Int)) rfl rfl ?_
        refine lp (v := .bool false) rfl rfl (run_bin rfl (vx := (.int .i64 ((p : Nat) : Int))) (vy := (.int .i64 ((p : Nat) : Int))) (by kernel_rfl) (by kernel_rfl) fun w => bn_neq (decide_eq_true rfl) w) ?_
        refine lm (v := .bool false) rfl rfl ?_
        refine lm (v := .bool false) rfl rfl ?_
        refine wpL_done (fun W7 hW7 => ?_)
        refine (show Code.wp _ _ _ _ _ from ?_)
        refine wp_cond_false rfl ?_
        refine wp_skip ?_
        refine (show Code.wp _ _ _ _ _ from ?_)
        refine wp_seq ?_
        refine wp_region_L (W0 := w) [] (hW7) ?_
        refine lm (v := .int .i64 ((p : Nat) : Int)) rfl rfl ?_
        refine lp (v := .int .i64 (((p + 1) : Nat) : Int)) rfl rfl (run_bin rfl (vx := (.int .i64 ((p : Nat) : Int))) (vy := (.int .i64 ((1 : Nat) : Int))) (by kernel_rfl) (by kernel_rfl) fun w => bn_add (z := (p + 1)) rfl (wr_i64 (by omega)) w) ?_
        refine lm (v := .int .i64 (((p + 1) : Nat) : Int)) rfl rfl ?_
        refine wpL_done (fun W8 hW8 => ?_)
        refine (show Code.wp _ _ _ _ _ from ?_)
        refine wp_seq ?_
        refine wp_seq ?_
        refine wp_region_L (W0 := w) [] (hW8) ?_
        refine lm (v := strV t) rfl rfl ?_
        refine lm (v := .int .i64 ((p : Nat) : Int)) rfl rfl ?_
        refine lp (v := .int .u8 ((x.toNat : Nat) : Int)) rfl rfl (run_idxS (j := .i64) (l := t) (k := p) (b := x) rfl Try.underlying9 (by kernel_rfl) (by kernel_rfl) hx) ?_
        refine lp (v := .bool false) rfl rfl (run_bin rfl (vx := (.int .u8 ((x.toNat : Nat) : Int))) (vy := (.int .u8 ((63 : Nat) : Int))) (by kernel_rfl) (by kernel_rfl) fun w => bn_eql (decide_eq_false h63) w) ?_
        refine wpL_done (fun W9 hW9 => ?_)
        refine (show Code.wp _ _ _ _ _ from ?_)
        refine wp_cond_false rfl ?_
        refine wp_skip ?_
        refine (show Code.wp _ _ _ _ _ from ?_)
        refine wp_seq ?_
        refine wp_seq ?_
        refine wp_region_L (W0 := w) [] (hW9) ?_
        refine lm (v := .int .i64 ((er : Nat) : Int)) rfl rfl ?_
        refine lp (v := .bool (decide (er = 41))) rfl rfl (run_bin rfl (vx := (.int .i64 ((er : Nat) : Int))) (vy := (.int .i64 ((41 : Nat) : Int))) (by kernel_rfl) (by kernel_rfl) fun w => bn_eql rfl w) ?_
        refine lm (v := .bool (decide (er = 41))) rfl rfl ?_
        cases hd1 : (decide (er = 41)) with
        | false =>
          have h1 : ¬ (er = 41) := of_decide_eq_false hd1
          clear hd1
          refine ln rfl ?_
          refine ln rfl ?_
          refine ln rfl ?_
          refine ln rfl ?_
          refine lm (v := .bool false) rfl rfl ?_
          refine wpL_done (fun W10 hW10 => ?_)
          refine (show Code.wp _ _ _ _ _ from ?_)
          refine wp_cond_false rfl ?_
          refine wp_skip ?_
          refine (show Code.wp _ _ _ _ _ from ?_)
          refine wp_seq ?_
          refine wp_region_L (W0 := w) [] (hW10) ?_
          refine lm (v := strV t) rfl rfl ?_
          refine lm (v := .int .i64 (((p + 1) : Nat) : Int)) rfl rfl ?_
          refine lp (v := strV (t.take (p + 1))) rfl rfl (run_slH (k2 := .i64) (l := t) (r := (t.take (p + 1))) (j := (p + 1)) rfl Try.underlying9 (by kernel_rfl) (by kernel_rfl) (by omega) rfl) ?_
          refine lm (v := strV o) rfl rfl ?_
          refine lp (v := strV ((t.take (p + 1)) ++ o)) rfl rfl (run_bin rfl (vx := strV (t.take (p + 1))) (vy := strV o) (by kernel_rfl) (by kernel_rfl) fun w => bs_add (c := ((t.take (p + 1)) ++ o)) rfl (by first | omega | (simp; omega)) w) ?_
          refine wpL_c (f := 15) (args := #[strV ((t.take (p + 1)) ++ o)]) (fun v Tz => v = .tuple #[.slice none 0 0, .int .i64 ((p : Nat) : Int), .int .i64 ((er : Nat) : Int)] ∧ Tz = []) rfl (by kernel_rfl) (fun _ => (by kernel_rfl)) (fun W hW => Read_bad h3 (by first | omega | (simp only [List.length_append, List.length_cons, List.length_nil]; omega)) W (hW.sub (fun _ h => by cases h))) (fun _ => by simp only [List.setIfInBounds_toArray, List.set_cons_succ, List.set_cons_zero] <;> rfl) ?_
          rintro _ _ ⟨rfl, rfl⟩
          refine lm (v := .tuple #[.slice none 0 0, .int .i64 ((p : Nat) : Int), .int .i64 ((er : Nat) : Int)]) rfl rfl ?_
          refine lm (v := .slice none 0 0) rfl rfl ?_
          refine lm (v := .int .i64 ((p : Nat) : Int)) rfl rfl ?_
          refine lm (v := .int .i64 ((er : Nat) : Int)) rfl rfl ?_
          refine lm (v := .int .i64 ((p : Nat) : Int)) rfl rfl ?_
          refine lm (v := .int .i64 ((er : Nat) : Int)) rfl rfl ?_
          refine wpL_done (fun W11 hW11 => ?_)
          refine (show Code.wp _ _ _ _ _ from ?_)
          refine wp_seq ?_
          refine wp_region_L (W0 := w) [] (hW11) ?_
          refine lm (v := .int .i64 ((er : Nat) : Int)) rfl rfl ?_
          refine lm (v := .int .i64 ((er : Nat) : Int)) rfl rfl ?_
          refine lp (v := .bool true) rfl rfl (run_bin rfl (vx := (.int .i64 ((er : Nat) : Int))) (vy := (.int .i64 ((er : Nat) : Int))) (by kernel_rfl) (by kernel_rfl) fun w => bn_eql (decide_eq_true rfl) w) ?_
          refine lm (v := .bool true) rfl rfl ?_
          refine lm (v := .int .i64 ((p : Nat) : Int)) rfl rfl ?_
          refine lm (v := .int .i64 ((p : Nat) : Int)) rfl rfl ?_
          refine lp (v := .bool true) rfl rfl (run_bin rfl (vx := (.int .i64 ((p : Nat) : Int))) (vy := (.int .i64 ((p : Nat) : Int))) (by kernel_rfl) (by kernel_rfl) fun w => bn_eql (decide_eq_true rfl) w) ?_
          refine lm (v := .bool true) rfl rfl ?_
          refine lm (v := .bool true) rfl rfl ?_
          refine wpL_done (fun W12 hW12 => ?_)
          refine (show Code.wp _ _ _ _ _ from ?_)
          refine wp_ret ?_
          try simp only [inBlock_ret, then_ret]
          refine bodyPost_ret (v := .bool true) ?_ rfl ?_
          · kernel_rfl
          · exact ⟨rfl, (hW12).1⟩
        | true =>
          have h1 : er = 41 := of_decide_eq_true hd1
          clear hd1
          refine lm (v := .int .i64 (((p + 1) : Nat) : Int)) rfl rfl ?_
          refine lm (v := .int .i64 ((p : Nat) : Int)) rfl rfl ?_
          refine lp (v := .int .i64 (((p + 1) : Nat) : Int)) rfl rfl (run_bin rfl (vx := (.int .i64 ((p : Nat) : Int))) (vy := (.int .i64 ((1 : Nat) : Int))) (by kernel_rfl) (by kernel_rfl) fun w => bn_add (z := (p + 1)) rfl (wr_i64 (by omega)) w) ?_
          refine lp (v := .bool true) rfl rfl (run_bin rfl (vx := (.int .i64 (((p + 1) : Nat) : Int))) (vy := (.int .i64 (((p + 1) : Nat) : Int))) (by kernel_rfl) (by kernel_rfl) fun w => bn_eql (decide_eq_true rfl) w) ?_
          refine lm (v := .bool true) rfl rfl ?_
          refine wpL_done (fun W13 hW13 => ?_)
          refine (show Code.wp _ _ _ _ _ from ?_)
          refine wp_cond_true rfl ?_
          refine wp_seq ?_
          refine wp_region_L (W0 := w) [] (hW13) ?_
          refine lm (v := .bool true) rfl rfl ?_
          refine wpL_done (fun W14 hW14 => ?_)
          refine (show Code.wp _ _ _ _ _ from ?_)
          refine wp_ret ?_
          try simp only [inBlock_ret, then_ret]
          refine bodyPost_ret (v := .bool true) ?_ rfl ?_
          · kernel_rfl
          · exact ⟨rfl, (hW14).1⟩
end Go.Proofs.Ytppegdbelgobiaa
namespace Go.Proofs.Ytppegdbelgobiaa
open Go Go.RowKit Tw
def wrA (A : List Sgm) : List UInt8 := if 5000 < A.length then [] else if A.all rightS = false then [] else if 65536 < (wrL A).length then [] else wrL A
def wrN (A : List Sgm) : Nat := if 5000 < A.length then 5 else if A.all rightS = false then 2 else if 65536 < (wrL A).length then 3 else 0
theorem writeV_eq (A : List Sgm) : writeV A = .tuple #[strV (wrA A), .int .i64 ((wrN A : Nat) : Int)] := by
  unfold writeV wrA wrN
  split
  · rfl
  · split
    · rfl
    · split <;> rfl
theorem wrN_le (A : List Sgm) : wrN A ≤ 5 := by
  unfold wrN
  split
  · omega
  · split
    · omega
    · split <;> omega
theorem shape_of {W0 : Base} {A : List Sgm} {v : Value} {T : List (Nat × Obj)} {w : World} (hk : KS W0 T w) (hM : MkV SgR W0 v A T) : ∃ p c, v = .slice p A.length c := by
  obtain ⟨p, c, e, _⟩ := hM w hk
  exact ⟨p, c, e⟩
set_option maxRecDepth 100000 in
set_option maxHeartbeats 4000000 in
theorem writes_any (A : List Sgm) (pA : Option Addr) (cA : Nat) (lA : A.length ≤ 4000000000) (lE : ∀ y ∈ A, y.length ≤ 4000000000 ∧ ∀ z ∈ y, z.length ≤ 4000000000) (w : World) (hA : LVp ElR w pA A) : Calls Try.prog 12 #[.slice pA A.length cA] w fun e w' => e = .returned (.bool true) ∧ Below w.heap.size w w' := by
  have HA := Lib.hid hA
  clear hA
  have ln := wrN_le A
  go_enter Try.func12, Try.ntmps12
  refine wp_seq ?_
  refine wp_region_L (W0 := w) [] (KS.start w) ?_
  refine lm (v := .bool false) rfl rfl ?_
  refine wpL_done (fun W1 hW1 => ?_)
  refine (show Code.wp _ _ _ _ _ from ?_)
  refine wp_seq ?_
  refine wp_region_L (W0 := w) [] (hW1) ?_
  refine lm (v := .slice pA A.length cA) rfl rfl ?_
  refine wpL_c (f := 19) (args := #[.slice pA A.length cA]) (fun v T => (∃ p c, v = .slice p A.length c) ∧ MkV SgR w v A T) rfl (by kernel_rfl) (fun _ => (by kernel_rfl)) (fun W hW => (Own_any A pA cA lA lE HA.out W (hW.sub (fun _ h => by cases h))).mono fun e w2 ⟨v, T, he, hk, hM⟩ => ⟨v, T, he, hk, shape_of hk hM.mkv, hM.mkv⟩) (fun _ => by simp only [List.setIfInBounds_toArray, List.set_cons_succ, List.set_cons_zero] <;> rfl) ?_
  rintro _ T1 ⟨⟨p1, c1, rfl⟩, M1⟩
  refine lm (v := .slice p1 A.length c1) rfl rfl ?_
  refine wpL_done (fun W2 hW2 => ?_)
  have HB3 := Lib.hid ((HA.out.keep ElR.keeps (hW2).1))
  have HB4 := Lib.hid ((lv_lvp (M1 W2 ((hW2).sub (fun p hp => by first | exact hp | (simp only [List.mem_cons, List.mem_append, List.nil_append, List.not_mem_nil, or_assoc, or_false, false_or, List.cons_append, List.append_assoc] at hp ⊢ <;> grind))))))
  have hbz2 : Below w.heap.size w W2 := (hW2).1
  refine (show Code.wp _ _ _ _ _ from ?_)
  refine wp_seq ?_
  refine wp_region_L (W0 := W2) [] (KS.start W2) ?_
  refine lm (v := .slice p1 A.length c1) rfl rfl ?_
  refine lv (v := .tuple #[strV (wrA A), .int .i64 (((wrN A) : Nat) : Int)]) rfl rfl (yb_call (f := 14) (args := #[.slice p1 A.length c1]) (fun _ => by kernel_rfl) fun W hW => (by have z := PWrite_any A p1 c1 W (HB4.out.keep ElR.keeps hW.1); rw [writeV_eq] at z; exact z)) ?_
  refine lm (v := .tuple #[strV (wrA A), .int .i64 (((wrN A) : Nat) : Int)]) rfl rfl ?_
  refine lm (v := strV (wrA A)) rfl rfl ?_
  refine lm (v := .int .i64 (((wrN A) : Nat) : Int)) rfl rfl ?_
  refine lm (v := strV (wrA A)) rfl rfl ?_
  refine lm (v := .int .i64 (((wrN A) : Nat) : Int)) rfl rfl ?_
  refine wpL_done (fun W3 hW3 => ?_)
  refine (show Code.wp _ _ _ _ _ from ?_)
  refine wp_seq ?_
  refine wp_region_L (W0 := W2) [] (hW3) ?_
  refine lm (v := .slice pA A.length cA) rfl rfl ?_
  refine wpL_c (f := 22) (args := #[.slice pA A.length cA]) (fun v T => (∃ p c, v = .slice p A.length c) ∧ MkV SgR W2 v A T) rfl (by kernel_rfl) (fun _ => (by kernel_rfl)) (fun W hW => (bare_any A pA cA lA HB3.out W (hW.sub (fun _ h => by cases h))).mono fun e w2 ⟨v, T, he, hk, hM⟩ => ⟨v, T, he, hk, shape_of hk hM, hM⟩) (fun _ => by simp only [List.setIfInBounds_toArray, List.set_cons_succ, List.set_cons_zero] <;> rfl) ?_
  rintro _ T5 ⟨⟨p5, c5, rfl⟩, M5⟩
  refine lv (v := .tuple #[strV (wrA A), .int .i64 (((wrN A) : Nat) : Int)]) rfl rfl (yb_call (f := 21) (args := #[.slice p5 A.length c5]) (fun _ => by kernel_rfl) fun W hW => (by have z := RWrite_any A p5 c5 W (lv_lvp (M5 W (hW.sub (fun p hp => by first | exact hp | (simp only [List.mem_cons, List.mem_append, List.nil_append, List.not_mem_nil, or_assoc, or_false, false_or, List.cons_append, List.append_assoc] at hp ⊢ <;> grind))))); rw [writeV_eq] at z; exact z)) ?_
  refine lm (v := .tuple #[strV (wrA A), .int .i64 (((wrN A) : Nat) : Int)]) rfl rfl ?_
  refine lm (v := strV (wrA A)) rfl rfl ?_
  refine lm (v := .int .i64 (((wrN A) : Nat) : Int)) rfl rfl ?_
  refine lm (v := strV (wrA A)) rfl rfl ?_
  refine lm (v := .int .i64 (((wrN A) : Nat) : Int)) rfl rfl ?_
  refine wpL_done (fun W4 hW4 => ?_)
  have HB7 := Lib.hid ((HB3.out.keep ElR.keeps (hW4).1))
  have HB8 := Lib.hid ((HB4.out.keep ElR.keeps (hW4).1))
  have HB9 := Lib.hid ((lv_lvp (M5 W4 ((hW4).sub (fun p hp => by first | exact hp | (simp only [List.mem_cons, List.mem_append, List.nil_append, List.not_mem_nil, or_assoc, or_false, false_or, List.cons_append, List.append_assoc] at hp ⊢ <;> grind))))))
  have hbz6 : Below w.heap.size w W4 := hbz2.trans ((hW4).1.mono hbz2.size)
  refine (show Code.wp _ _ _ _ _ from ?_)
  refine wp_seq ?_
  refine wp_seq ?_
  refine wp_region_L (W0 := W4) [] (KS.start W4) ?_
  refine lm (v := .int .i64 0) rfl rfl ?_
  refine wpL_done (fun W5 hW5 => ?_)
  refine (show Code.wp _ _ _ _ _ from ?_)
  refine wp_block ?_
  go_loopw [8] (fun u8 wr => ∃ (k : Nat), (k ≤ A.length) ∧ u8 = .int .i64 ((k : Nat) : Int) ∧ KS W4 [] wr) (fun u8 _ => A.length - (intOf u8).toNat)
  case atStart => exact ⟨0, (Nat.zero_le _), rfl, (hW5.sub (fun p hp => by first | exact hp | (simp only [List.mem_cons, List.mem_append, List.nil_append, List.not_mem_nil, or_assoc, or_false, false_or, List.cons_append, List.append_assoc] at hp ⊢ <;> grind)))⟩
  case round =>
    obtain ⟨k, hk, rfl, hL6⟩ := hrel
    refine wp_seq ?_
    refine wp_seq ?_
    refine wp_region_L (W0 := W4) [] (hL6) ?_
    refine lm (v := .int .i64 ((k : Nat) : Int)) rfl rfl ?_
    refine lm (v := .slice pA A.length cA) rfl rfl ?_
    refine lp (v := .int .i64 ((A.length : Nat) : Int)) rfl rfl (run_lenL (p := pA) (cap := cA) (n := A.length) rfl Try.underlying24 (by kernel_rfl)) ?_
    refine lp (v := .bool (decide (k < A.length))) rfl rfl (run_bin rfl (vx := (.int .i64 ((k : Nat) : Int))) (vy := (.int .i64 ((A.length : Nat) : Int))) (by kernel_rfl) (by kernel_rfl) fun w => bn_lss rfl w) ?_
    refine wpL_done (fun W7 hW7 => ?_)
    refine (show Code.wp _ _ _ _ _ from ?_)
    cases hd1 : (decide (k < A.length)) with
    | false =>
      have h1 : ¬ (k < A.length) := of_decide_eq_false hd1
      clear hd1
      refine wp_cond_false rfl ?_
      refine wp_exit ?_
      refine (show Code.wp _ _ _ _ _ from ?_)
      refine wp_seq ?_
      refine wp_region_L (W0 := W4) [] (hW7) ?_
      refine lm (v := strV (wrA A)) rfl rfl ?_
      refine lm (v := strV (wrA A)) rfl rfl ?_
      refine lp (v := .bool true) rfl rfl (run_bin rfl (vx := strV (wrA A)) (vy := strV (wrA A)) (by kernel_rfl) (by kernel_rfl) fun w => bs_eql (decide_eq_true rfl) w) ?_
      refine lm (v := .bool true) rfl rfl ?_
      refine lm (v := .int .i64 (((wrN A) : Nat) : Int)) rfl rfl ?_
      refine lm (v := .int .i64 (((wrN A) : Nat) : Int)) rfl rfl ?_
      refine lp (v := .bool true) rfl rfl (run_bin rfl (vx := (.int .i64 (((wrN A) : Nat) : Int))) (vy := (.int .i64 (((wrN A) : Nat) : Int))) (by kernel_rfl) (by kernel_rfl) fun w => bn_eql (decide_eq_true rfl) w) ?_
      refine lm (v := .bool true) rfl rfl ?_
      refine lm (v := .bool true) rfl rfl ?_
      refine lm (v := .slice p1 A.length c1) rfl rfl ?_
      refine lm (v := .slice pA A.length cA) rfl rfl ?_
      refine lv (v := .bool true) rfl rfl (yb_call (f := 16) (args := #[.slice p1 A.length c1, .slice pA A.length cA]) (fun _ => by kernel_rfl) fun W hW => (by have z := same_any A A p1 pA c1 cA lA lE W (HB8.out.keep ElR.keeps hW.1) (HB7.out.keep ElR.keeps hW.1); rw [decide_eq_true rfl] at z; exact z)) ?_
      refine lm (v := .bool true) rfl rfl ?_
      refine lm (v := .bool true) rfl rfl ?_
      refine wpL_done (fun W8 hW8 => ?_)
      refine (show Code.wp _ _ _ _ _ from ?_)
      refine wp_ret ?_
      try simp only [inBlock_ret, then_ret]
      refine bodyPost_ret (v := .bool true) ?_ rfl ?_
      · kernel_rfl
      · exact ⟨rfl, (Below.trans hbz6 (Below.mono (hW8).1 hbz6.size))⟩
    | true =>
      have h1 : k < A.length := of_decide_eq_true hd1
      clear hd1
      refine wp_cond_true rfl ?_
      refine wp_skip ?_
      refine (show Code.wp _ _ _ _ _ from ?_)
      refine wp_seq ?_
      refine wp_block ?_
      refine wp_seq ?_
      refine wp_region_V (W0 := W4) [] (by kernel_rfl) (hW7) ?_
      refine vm (i := 0) (v := .slice p1 A.length c1) rfl rfl rfl ?_
      refine vm (i := 1) (v := .int .i64 ((k : Nat) : Int)) rfl rfl rfl ?_
      obtain ⟨y10, p10, c10, b10, f10, hy10, HY10, hp10, lt10, hc10⟩ := lvp_lst (k := k) HB8.out (by omega)
      have HY10 := Lib.hid HY10
      refine vp (i := 2) (v := .pointer (some ⟨b10, f10 + k * 1, none⟩)) rfl rfl rfl (run_idxQ (p := p1) (cap := c1) (n := A.length) (j := .i64) (k := k) (sz := 1) rfl Try.underlying24 (by kernel_rfl) (by kernel_rfl) hp10 (by kernel_rfl) (by omega)) ?_
      refine vv (i := 3) (v := .slice p10 y10.length c10) rfl rfl rfl (yb_old (off := f10 + k * 1) rfl (by kernel_rfl) hc10 lt10 Try.underlying37 rfl) ?_
      refine vv (i := 4) (v := .bool (rightS y10)) rfl rfl rfl (yb_call (f := 18) (args := #[.slice p10 y10.length c10]) (fun _ => by kernel_rfl) fun W hW => PRight_any y10 p10 c10 W (HY10.out.keep TxR.keeps hW.1)) ?_
      refine vm (i := 5) (v := .slice pA A.length cA) rfl rfl rfl ?_
      refine vm (i := 6) (v := .int .i64 ((k : Nat) : Int)) rfl rfl rfl ?_
      obtain ⟨y11, p11, c11, b11, f11, hy11, HY11, hp11, lt11, hc11⟩ := lvp_lst (k := k) HB7.out (by omega)
      have HY11 := Lib.hid HY11
      refine vp (i := 7) (v := .pointer (some ⟨b11, f11 + k * 1, none⟩)) rfl rfl rfl (run_idxQ (p := pA) (cap := cA) (n := A.length) (j := .i64) (k := k) (sz := 1) rfl Try.underlying24 (by kernel_rfl) (by kernel_rfl) hp11 (by kernel_rfl) (by omega)) ?_
      obtain rfl : y10 = y11 := Option.some.inj (hy10.symm.trans hy11)
      refine vv (i := 8) (v := .slice p11 y10.length c11) rfl rfl rfl (yb_old (off := f11 + k * 1) rfl (by kernel_rfl) hc11 lt11 Try.underlying37 rfl) ?_
      refine vv (i := 9) (v := .bool (rightS y10)) rfl rfl rfl (yb_call (f := 23) (args := #[.slice p11 y10.length c11]) (fun _ => by kernel_rfl) fun W hW => RRight_any y10 p11 c11 W (HY11.out.keep TxR.keeps hW.1)) ?_
      cases h2 : (rightS y10) with
      | false =>
        refine vm (i := 10) (v := .bool false) rfl rfl rfl ?_
        refine wpV_done (by kernel_rfl) (fun W9 hW9 => ?_) _
        refine (show Code.wp _ _ _ _ _ from ?_)
        refine wp_cond_false rfl ?_
        refine wp_skip ?_
        refine (show Code.wp _ _ _ _ _ from ?_)
        refine wp_region_L (W0 := W4) [] (hW9) ?_
        refine lm (v := .int .i64 ((k : Nat) : Int)) rfl rfl ?_
        refine lp (v := .int .i64 (((k + 1) : Nat) : Int)) rfl rfl (run_bin rfl (vx := (.int .i64 ((k : Nat) : Int))) (vy := (.int .i64 ((1 : Nat) : Int))) (by kernel_rfl) (by kernel_rfl) fun w => bn_add (z := (k + 1)) rfl (wr_i64 (by omega)) w) ?_
        refine lm (v := .int .i64 (((k + 1) : Nat) : Int)) rfl rfl ?_
        refine wpL_done (fun W10 hW10 => ?_)
        go_roundw
        case rel =>
          repeat apply Exists.intro
          exact ⟨⟨k + 1, (by omega), rfl, (hW10.sub (fun p hp => by first | exact hp | (simp only [List.mem_cons, List.mem_append, List.nil_append, List.not_mem_nil, or_assoc, or_false, false_or, List.cons_append, List.append_assoc] at hp ⊢ <;> grind)))⟩, rfl⟩
        case measure => (show A.length - (intOf (.int .i64 (((k + 1) : Nat) : Int))).toNat < A.length - (intOf (.int .i64 ((k : Nat) : Int))).toNat); simp only [intOf]; omega
      | true =>
        refine vm (i := 10) (v := .bool false) rfl rfl rfl ?_
        refine wpV_done (by kernel_rfl) (fun W11 hW11 => ?_) _
        refine (show Code.wp _ _ _ _ _ from ?_)
        refine wp_cond_false rfl ?_
        refine wp_skip ?_
        refine (show Code.wp _ _ _ _ _ from ?_)
        refine wp_region_L (W0 := W4) [] (hW11) ?_
        refine lm (v := .int .i64 ((k : Nat) : Int)) rfl rfl ?_
        refine lp (v := .int .i64 (((k + 1) : Nat) : Int)) rfl rfl (run_bin rfl (vx := (.int .i64 ((k : Nat) : Int))) (vy := (.int .i64 ((1 : Nat) : Int))) (by kernel_rfl) (by kernel_rfl) fun w => bn_add (z := (k + 1)) rfl (wr_i64 (by omega)) w) ?_
        refine lm (v := .int .i64 (((k + 1) : Nat) : Int)) rfl rfl ?_
        refine wpL_done (fun W12 hW12 => ?_)
        go_roundw
        case rel =>
          repeat apply Exists.intro
          exact ⟨⟨k + 1, (by omega), rfl, (hW12.sub (fun p hp => by first | exact hp | (simp only [List.mem_cons, List.mem_append, List.nil_append, List.not_mem_nil, or_assoc, or_false, false_or, List.cons_append, List.append_assoc] at hp ⊢ <;> grind)))⟩, rfl⟩
        case measure => (show A.length - (intOf (.int .i64 (((k + 1) : Nat) : Int))).toNat < A.length - (intOf (.int .i64 ((k : Nat) : Int))).toNat); simp only [intOf]; omega
end Go.Proofs.Ytppegdbelgobiaa
namespace Go.Proofs.Ytppegdbelgobiaa
open Go Go.RowKit Tw
def sz1 (c : Cmp) : Nat := c.length + 1
def sz2 (e : Elt) : Nat := (e.map sz1).sum + 1
def sz3 (s : Sgm) : Nat := (s.map sz2).sum + 1
def sz4 (A : List Sgm) : Nat := (A.map sz3).sum + 1
theorem sum_mem {α : Type} {f : α → Nat} {x : α} : ∀ {l : List α}, x ∈ l → f x ≤ (l.map f).sum := by
  intro l
  induction l with
  | nil => intro h; cases h
  | cons y l ih =>
    intro h
    simp only [List.map_cons, List.sum_cons]
    rcases List.mem_cons.1 h with rfl | h
    · omega
    · have := ih h; omega
theorem sum_len {α : Type} {f : α → Nat} (hf : ∀ x, 1 ≤ f x) : ∀ (l : List α), l.length ≤ (l.map f).sum := by
  intro l
  induction l with
  | nil => exact Nat.le_refl _
  | cons y l ih =>
    simp only [List.map_cons, List.sum_cons, List.length_cons]
    have := hf y
    omega
theorem sz2_eq (e : Elt) : sz2 e = eltN e + 1 := by
  unfold sz2 eltN cmpsN
  induction e with
  | nil => rfl
  | cons c e ih =>
    simp only [List.map_cons, List.sum_cons, List.length_cons, sz1] at ih ⊢
    omega
theorem sgN_le (s : Sgm) : sgN s + 1 ≤ sz3 s := by
  unfold sgN sz3
  induction s with
  | nil => exact Nat.le_refl _
  | cons e s ih =>
    have := sz2_eq e
    simp only [List.map_cons, List.sum_cons, List.length_cons] at ih ⊢
    omega
theorem sz4_seg {A : List Sgm} {s : Sgm} (h : s ∈ A) : sgN s ≤ sz4 A := by
  have h1 := sum_mem (f := sz3) h
  have h2 := sgN_le s
  unfold sz4
  omega
theorem sz4_len (A : List Sgm) : A.length ≤ sz4 A := by
  have := sum_len (f := sz3) (fun s => by unfold sz3; omega) A
  unfold sz4
  omega
theorem lens_of {A : List Sgm} (h : ∀ s ∈ A, sgN s ≤ 4000000000) : ∀ y ∈ A, y.length ≤ 4000000000 ∧ ∀ z ∈ y, z.length ≤ 4000000000 := by
  intro y hy
  have h1 := h y hy
  unfold sgN at h1
  refine ⟨by omega, fun z hz => ?_⟩
  have h2 := sum_mem (f := eltN) hz
  have h3 : z.length ≤ eltN z := by unfold eltN; omega
  omega
set_option maxRecDepth 100000 in
set_option maxHeartbeats 4000000 in
theorem LexWrites_law (w : World) (A : List Sgm) (pA : Option Addr) (cA : Nat) (hA : LVp ElR w pA A) (hb : sz4 A ≤ 1048576) : Calls Try.prog 4 #[.slice pA A.length cA] w fun e w' => e = .returned (.bool true) ∧ Below w.heap.size w w' := by
  have HA := Lib.hid hA
  clear hA
  have lA := sz4_len A
  have hS : ∀ s ∈ A, sgN s ≤ 4000000000 := fun s hs => by have := sz4_seg hs; omega
  go_enter Try.func4, Try.ntmps4
  refine wp_seq ?_
  refine wp_region_L (W0 := w) [] (KS.start w) ?_
  refine lm (v := .bool false) rfl rfl ?_
  refine wpL_done (fun W1 hW1 => ?_)
  refine (show Code.wp _ _ _ _ _ from ?_)
  refine wp_seq ?_
  refine wp_region_L (W0 := w) [] (hW1) ?_
  refine lm (v := .slice pA A.length cA) rfl rfl ?_
  refine lv (v := .bool (smallL A)) rfl rfl (yb_call (f := 11) (args := #[.slice pA A.length cA]) (fun _ => by kernel_rfl) fun W hW => Small_any A pA cA hS W (HA.out.keep ElR.keeps hW.1)) ?_
  refine lp (v := .bool (!(smallL A))) rfl rfl (run_un rfl (by kernel_rfl) fun w => un_not w) ?_
  refine lm (v := .bool (!(smallL A))) rfl rfl ?_
  cases h1 : (smallL A) with
  | false =>
    refine ln rfl ?_
    refine ln rfl ?_
    refine lm (v := .bool true) rfl rfl ?_
    refine lm (v := .bool true) rfl rfl ?_
    refine lv (v := .bool true) rfl rfl (yb_call (f := 10) (args := #[]) (fun _ => by kernel_rfl) fun W hW => awake_any W) ?_
    refine lm (v := .bool true) rfl rfl ?_
    refine lm (v := .bool true) rfl rfl ?_
    refine wpL_done (fun W2 hW2 => ?_)
    refine (show Code.wp _ _ _ _ _ from ?_)
    refine wp_ret ?_
    try simp only [inBlock_ret, then_ret]
    refine bodyPost_ret (v := .bool true) ?_ rfl ?_
    · kernel_rfl
    · exact ⟨rfl, (hW2).1⟩
  | true =>
    refine lm (v := .slice pA A.length cA) rfl rfl ?_
    refine lv (v := .bool true) rfl rfl (yb_call (f := 12) (args := #[.slice pA A.length cA]) (fun _ => by kernel_rfl) fun W hW => writes_any A pA cA (by omega) (lens_of hS) W (HA.out.keep ElR.keeps hW.1)) ?_
    refine lm (v := .bool true) rfl rfl ?_
    refine lm (v := .bool true) rfl rfl ?_
    refine lv (v := .bool true) rfl rfl (yb_call (f := 10) (args := #[]) (fun _ => by kernel_rfl) fun W hW => awake_any W) ?_
    refine lm (v := .bool true) rfl rfl ?_
    refine lm (v := .bool true) rfl rfl ?_
    refine wpL_done (fun W3 hW3 => ?_)
    refine (show Code.wp _ _ _ _ _ from ?_)
    refine wp_ret ?_
    try simp only [inBlock_ret, then_ret]
    refine bodyPost_ret (v := .bool true) ?_ rfl ?_
    · kernel_rfl
    · exact ⟨rfl, (hW3).1⟩
end Go.Proofs.Ytppegdbelgobiaa
/- What came in, with its bulk. -/
namespace Go.Proofs.Ytppegdbelgobiaa
open Go Go.RowKit Tw Go.Deep Go.ChangeShapes Go.WideShapes Go.ChangeAt
section
variable {H : Type} {enc : TypeId × Value → H} {W : World} {base : Nat} {spare : Nat → Bool} {held : Bool}
def OpensB {α : Type} (R : World → Value → α → Prop) (sz : α → Nat) (enc : TypeId × Value → H) (W : World) (base : Nat) (spare : Nat → Bool) (held : Bool) (t : TypeId) : Prop :=
  ∀ (fuel : Nat) (v : Value) (x : DataW H × List MemPlace), DataW.trod enc Try.prog W base spare held fuel t [v] = some x → ∃ y : α, R W v y ∧ sz y ≤ Rows.uptoBulk x.1
theorem opensb_str {e : TypeId} (he : Try.prog.underlying e = some .string) : OpensB StrR sz1 enc W base spare held e := by
  intro fuel v x h
  obtain ⟨s, h1, h2, h3⟩ := DataW.trod_string he h
  have hv : v = .string s := by simpa using h1
  refine ⟨s.data.toList, ?_, ?_⟩
  · show v = strV s.data.toList
    rw [hv]
    cases s
    simp [strV]
  · rw [h2]
    exact Nat.le_refl _
def ByR (_ : World) (v : Value) (b : UInt8) : Prop := v = .int .u8 ((b.toNat : Nat) : Int)
theorem ByR.keeps : Keeps ByR := fun _ _ _ _ h _ => h
theorem opensb_u8 {e : TypeId} (he : Try.prog.underlying e = some (.int .u8)) : OpensB ByR (fun _ => 1) enc W base spare held e := by
  intro fuel v x h
  obtain ⟨n, h1, h2, h3⟩ := DataW.trod_int he h
  have hv : v = .int .u8 n := by simpa using h1
  have hw : 0 ≤ n ∧ n ≤ 255 := by simpa [Lit.wf, IntKind.min, IntKind.max, IntKind.signed, IntKind.bits] using h3
  refine ⟨UInt8.ofNat n.toNat, ?_, ?_⟩
  · show v = .int .u8 (((UInt8.ofNat n.toNat).toNat : Nat) : Int)
    rw [hv, UInt8.toNat_ofNat', Nat.mod_eq_of_lt (by omega), Int.toNat_of_nonneg hw.1]
  · rw [h2]
    exact Nat.le_refl _
theorem bulk_sum {α : Type} {sz : α → Nat} {Y : Nat → α} {D : Nat → DataW H} : ∀ (l : List Nat), (∀ i ∈ l, sz (Y i) ≤ Rows.uptoBulk (D i)) → ((l.map Y).map sz).sum ≤ Rows.uptoBulkAll (l.map D) := by
  intro l
  induction l with
  | nil => intro _; exact Nat.zero_le _
  | cons i l ih =>
    intro h
    have h1 := h i (.head _)
    have h2 := ih fun j hj => h j (.tail _ hj)
    simp only [List.map_cons, List.sum_cons, Rows.uptoBulkAll]
    omega
theorem opensb_lv {α : Type} [Inhabited α] {R : World → Value → α → Prop} {sz : α → Nat} {t e : TypeId} (ht : Try.prog.underlying t = some (.slice e)) (hc : Try.prog.cellsOf e = 1) (hR : OpensB R sz enc W base spare held e) : OpensB (LV R) (fun l => (l.map sz).sum + 1) enc W base spare held t := by
  intro fuel v x h
  rcases open_slice1 ht hc h with ⟨hv, hx⟩ | ⟨a, len, cap, m, n, V, D, Pl, hv, hb, hl, hm, hmm, hxx, hx⟩
  · have hv : v = .slice none 0 0 := by simpa using hv
    refine ⟨[], ⟨none, 0, hv, [], .inl rfl, rfl, fun k x y h => by simp at h⟩, ?_⟩
    rw [hx]
    exact Nat.le_refl _
  · have hv : v = .slice (some a) len cap := by simpa using hv
    have hlm : len ≤ m := by rw [hmm]; split <;> omega
    obtain ⟨Y, hY⟩ := choose_lt (α := α) (p := fun i y => R W (V i) y ∧ sz y ≤ Rows.uptoBulk (D i)) (fun i (hi : i < len) => hR n (V i) _ (hx i (by omega)).2)
    refine ⟨(List.range len).map Y, ⟨some a, cap, by rw [hv]; simp, (List.range len).map V, ?_, by simp, ?_⟩, ?_⟩
    · by_cases h0 : len = 0
      · subst h0
        exact .inl rfl
      · obtain ⟨b, off, spot⟩ := a
        have hc0 := (hx 0 (by omega)).1
        have hspot : spot = none := by simpa [Addr.add] using World.cell?_spot hc0
        subst hspot
        refine .inr ⟨b, off, rfl, ?_, fun i u hu => ?_⟩
        · rw [addr_add] at hc0
          exact World.block_lt_of_cell? _ _ hc0
        · rw [List.getElem?_map] at hu
          have hi : i < len := by
            rcases Nat.lt_or_ge i len with h | h
            · exact h
            · rw [List.getElem?_eq_none (by simpa using h)] at hu
              cases hu
          rw [List.getElem?_range hi] at hu
          cases hu
          have := (hx i (by omega)).1
          rwa [addr_add] at this
    · intro k x' y hx' hy'
      rw [List.getElem?_map] at hx' hy'
      have hi : k < len := by
        rcases Nat.lt_or_ge k len with h | h
        · exact h
        · rw [List.getElem?_eq_none (by simpa using h)] at hx'
          cases hx'
      rw [List.getElem?_range hi] at hx' hy'
      cases hx'
      cases hy'
      exact (hY k hi).1
    · rw [hxx]
      have := bulk_sum (sz := sz) (Y := Y) (D := D) (List.range len) fun i hi => (hY i (List.mem_range.1 hi)).2
      show ((List.range len).map Y |>.map sz).sum + 1 ≤ Rows.uptoBulkAll ((List.range len).map D) + Rows.uptoBulkAll _ + 1
      omega
end
theorem openb_segs {H : Type} {enc : TypeId × Value → H} {W : World} {v0 : Value} {d0 : DataW H} {p0 : List MemPlace} {base : Nat} (hv : Value.okWide Try.prog W .any base 24 v0)
    (h0 : DataW.Trod enc Try.prog W 0 (fun _ => true) true 24 v0 d0 p0) : ∃ (p : Option Addr) (cap : Nat) (l : List (List (List (List UInt8)))), v0 = .slice p l.length cap ∧ LVp ElR W p l ∧ sz4 l ≤ Rows.uptoBulk d0 := by
  obtain ⟨a0, len0, cap0, rfl⟩ := okWide_slice Try.underlying24 hv
  obtain ⟨fuel, hf⟩ := h0
  have hcs : (Value.slice a0 len0 cap0).cells.toList = [.slice a0 len0 cap0] := by simp [Value.cells]
  rw [hcs] at hf
  obtain ⟨l, ⟨p, cap, h1, h2⟩, h3⟩ := opensb_lv Try.underlying24 (by kernel_rfl) (opensb_lv Try.underlying37 (by kernel_rfl) (opensb_lv Try.underlying43 (by kernel_rfl) (opensb_str Try.underlying9))) fuel _ _ hf
  exact ⟨p, cap, l, h1, h2, h3⟩
theorem openb_by {H : Type} {enc : TypeId × Value → H} {W : World} {v0 : Value} {d0 : DataW H} {p0 : List MemPlace} {base : Nat} (hv : Value.okWide Try.prog W .any base 26 v0)
    (h0 : DataW.Trod enc Try.prog W 0 (fun _ => true) true 26 v0 d0 p0) : ∃ (p : Option Addr) (cap : Nat) (l : List UInt8), v0 = .slice p l.length cap ∧ LVp ByR W p l := by
  obtain ⟨a0, len0, cap0, rfl⟩ := okWide_slice Try.underlying26 hv
  obtain ⟨fuel, hf⟩ := h0
  have hcs : (Value.slice a0 len0 cap0).cells.toList = [.slice a0 len0 cap0] := by simp [Value.cells]
  rw [hcs] at hf
  obtain ⟨l, ⟨p, cap, h1, h2⟩, h3⟩ := opensb_lv Try.underlying26 (by kernel_rfl) (opensb_u8 Try.underlying5) fuel _ _ hf
  exact ⟨p, cap, l, h1, h2⟩
end Go.Proofs.Ytppegdbelgobiaa
/-
  DERIVED: THE SHELF's CONTRACTS AT THIS DUMP, IN PLAIN WORDS (tools/lay-plain.mjs out of 'TryShelf.lean', which tools/lay-shelf.mjs wrote): THE SAME DECLARATIONS UNDER THE SAME NAMES: 'import', 'namespace', 'open', 'def', 'theorem' AND NOTHING ELSE: no command of the shelf's: FOR A HAND-IN. Each laying: the table of numbers ('.._ren') and one theorem, a field a fact of the dump's own or the kernel's comparison; each contract: ONE APPLICATION.
-/
namespace Go.Proofs
open Go.Shelf
def Try.lays105_ren : Go.Shelf.Ren := ⟨fun | 105 => 17 | 212 => 27 | 99 => 28 | 165 => 29 | 166 => 30 | 170 => 31 | 169 => 32 | 263 => 40 | 264 => 41 | 206 => 42 | 240 => 43 | 241 => 44 | 276 => 56 | 277 => 57 | n => n, fun | 9 => 9 | 3 => 3 | 4 => 4 | 20 => 20 | 0 => 0 | 46 => 55 | 109 => 56 | 5 => 5 | 72 => 60 | 76 => 64 | 51 => 77 | 146 => 78 | 53 => 80 | 148 => 81 | 70 => 58 | 37 => 26 | 75 => 63 | 127 => 83 | 164 => 90 | 80 => 67 | n => n, fun | n => n⟩
theorem Try.lays105 : Go.Proofs.Lays.n105 Try.prog Try.lays105_ren := {
  mixed := by kernel_rfl
  f99 := Try.func28.trans (congrArg some (by kernel_rfl))
  f105 := Try.func17.trans (congrArg some (by kernel_rfl))
  f165 := Try.func29.trans (congrArg some (by kernel_rfl))
  f166 := Try.func30.trans (congrArg some (by kernel_rfl))
  f169 := Try.func32.trans (congrArg some (by kernel_rfl))
  f170 := Try.func31.trans (congrArg some (by kernel_rfl))
  f206 := Try.func42.trans (congrArg some (by kernel_rfl))
  f212 := Try.func27.trans (congrArg some (by kernel_rfl))
  f240 := Try.func43.trans (congrArg some (by kernel_rfl))
  f241 := Try.func44.trans (congrArg some (by kernel_rfl))
  f263 := Try.func40.trans (congrArg some (by kernel_rfl))
  f264 := Try.func41.trans (congrArg some (by kernel_rfl))
  f276 := Try.func56.trans (congrArg some (by kernel_rfl))
  f277 := Try.func57.trans (congrArg some (by kernel_rfl))
  t0 := Try.underlying0
  a0 := Try.isAgg0
  z0 := Try.sizeOf0
  v0 := Try.zeroValue0
  t3 := Try.underlying3
  a3 := Try.isAgg3
  z3 := Try.sizeOf3
  v3 := Try.zeroValue3
  t4 := Try.underlying4
  a4 := Try.isAgg4
  z4 := Try.sizeOf4
  v4 := Try.zeroValue4
  t5 := Try.underlying5
  a5 := Try.isAgg5
  z5 := Try.sizeOf5
  v5 := Try.zeroValue5
  t9 := Try.underlying9
  a9 := Try.isAgg9
  z9 := Try.sizeOf9
  v9 := Try.zeroValue9
  t20 := Try.underlying20
  a20 := Try.isAgg20
  z20 := Try.sizeOf20
  v20 := Try.zeroValue20
  t37 := Try.underlying26
  a37 := Try.isAgg26
  z37 := Try.sizeOf26
  v37 := Try.zeroValue26
  t46 := Try.underlying55
  a46 := Try.isAgg55
  z46 := Try.sizeOf55
  v46 := Try.zeroValue55
  t51 := Try.underlying77
  a51 := Try.isAgg77
  z51 := Try.sizeOf77
  v51 := Try.zeroValue77
  t53 := Try.underlying80
  a53 := Try.isAgg80
  z53 := Try.sizeOf80
  v53 := Try.zeroValue80
  t70 := Try.underlying58
  a70 := Try.isAgg58
  z70 := Try.sizeOf58
  v70 := Try.zeroValue58
  t72 := Try.underlying60
  a72 := Try.isAgg60
  z72 := Try.sizeOf60
  v72 := Try.zeroValue60
  t75 := Try.underlying63
  a75 := Try.isAgg63
  z75 := Try.sizeOf63
  v75 := Try.zeroValue63
  t76 := Try.underlying64
  a76 := Try.isAgg64
  z76 := Try.sizeOf64
  v76 := Try.zeroValue64
  t109 := Try.underlying56
  a109 := Try.isAgg56
  z109 := Try.sizeOf56
  v109 := Try.zeroValue56
  t127 := Try.underlying83
  a127 := Try.isAgg83
  z127 := Try.sizeOf83
  v127 := Try.zeroValue83
  t146 := Try.underlying78
  a146 := Try.isAgg78
  z146 := Try.sizeOf78
  v146 := Try.zeroValue78
  t148 := Try.underlying81
  a148 := Try.isAgg81
  z148 := Try.sizeOf81
  v148 := Try.zeroValue81
  t164 := Try.underlying90
  a164 := Try.isAgg90
  z164 := Try.sizeOf90
  v164 := Try.zeroValue90 }
theorem Try.Builder_Extra_105 : Builder.Extra Try.prog Try.lays105_ren := {
  sizeBuilder := by kernel_rfl
  liesBuilder := by kernel_rfl
  t5 := Try.underlying5
  a5 := Try.isAgg5
  z5 := Try.sizeOf5
  v5 := Try.zeroValue5
  infoByte := by kernel_rfl
  cellsByte := by kernel_rfl
  sizeByte := by kernel_rfl
  neB5 := by decide }
open Go.RowKit Go.Lib in
theorem Try.strings_Repeat (s : ByteArray) (c : Nat) (w : World) (hc : c ≤ 9223372036854775807) (hlen : s.size * c ≤ 140737488355328) :
    Calls Try.prog 17 #[.string s, .int .i64 c] w fun e w' => e = .returned (.string ⟨(Lib.repeatL s.data.toList c).toArray⟩) ∧ Below w.heap.size w w' := Any.strings_Repeat Try.lays105 Try.Builder_Extra_105 s c w hc hlen
end Go.Proofs
namespace Go.Proofs.Ytppegdbelgobiaa
open Go Go.RowKit Tw
theorem may_mkB (b : UInt8) : may (mkB b) = true := by
  have h := mkB_val b
  unfold may
  simp
  omega
theorem right_mkC (c : Cmp) : rightC (mkC c) = true := by
  unfold rightC mkC
  simp only [Bool.and_eq_true, decide_eq_true_eq, List.length_map, List.length_take]
  refine ⟨by omega, ?_⟩
  rw [List.all_eq_true]
  intro x hx
  obtain ⟨b, _, rfl⟩ := List.mem_map.1 hx
  exact may_mkB b
theorem right_mkT (e : Elt) : rightE (mkT e) = true := by
  unfold mkT
  split
  · rfl
  · unfold rightE
    simp only [Bool.and_eq_true, decide_eq_true_eq, List.length_map, List.length_take]
    refine ⟨⟨by omega, by omega⟩, ?_⟩
    rw [List.all_eq_true]
    intro x hx
    obtain ⟨c, _, rfl⟩ := List.mem_map.1 hx
    exact right_mkC c
theorem right_mkS (s : Sgm) : rightS (mkS s) = true := by
  unfold mkS
  split
  · rfl
  · unfold rightS
    simp only [Bool.and_eq_true, decide_eq_true_eq, List.length_map, List.length_take]
    refine ⟨⟨by omega, by omega⟩, ?_⟩
    rw [List.all_eq_true]
    intro x hx
    obtain ⟨e, _, rfl⟩ := List.mem_map.1 hx
    exact right_mkT e
theorem right_made (A : List Sgm) : (madeL A).all rightS = true := by
  rw [List.all_eq_true]
  intro x hx
  obtain ⟨s, _, rfl⟩ := List.mem_map.1 hx
  exact right_mkS s
theorem sum_take {α : Type} (f : α → Nat) : ∀ (l : List α) (k : Nat), ((l.take k).map f).sum ≤ (l.map f).sum := by
  intro l
  induction l with
  | nil => intro k; simp
  | cons x l ih =>
    intro k
    cases k with
    | zero => simp
    | succ k =>
      have := ih k
      simp only [List.take_succ_cons, List.map_cons, List.sum_cons]
      omega
theorem sumL_le2 (l : List Cmp) : sumL l ≤ (l.map fun c => 2 * c.length + 1).sum := by
  induction l with
  | nil => exact Nat.le_refl _
  | cons c l ih =>
    have h1 := relC_le c
    rw [show c :: l = [c] ++ l from rfl, sumL_append, sumL_one]
    simp only [List.singleton_append, List.map_cons, List.sum_cons]
    unfold lenC
    omega
theorem sum_map2 (l : List Cmp) : (l.map fun c => 2 * c.length + 1).sum = 2 * (l.map List.length).sum + l.length := by
  induction l with
  | nil => rfl
  | cons c l ih => simp only [List.map_cons, List.sum_cons, List.length_cons, ih]; omega
theorem sumL_mkT (e : Elt) : sumL (mkT e) ≤ 2 * eltN e + 1 := by
  unfold mkT
  split
  · have : sumL [([] : Cmp)] = 1 := rfl
    omega
  · have h1 := sumL_le2 ((e.take 10).map mkC)
    rw [sum_map2] at h1
    have h2 : (((e.take 10).map mkC).map List.length).sum ≤ ((e.take 10).map List.length).sum := by
      generalize e.take 10 = m
      induction m with
      | nil => exact Nat.le_refl _
      | cons c m ih =>
        have : (mkC c).length ≤ c.length := by unfold mkC; rw [List.length_map, List.length_take]; omega
        simp only [List.map_cons, List.sum_cons]
        omega
    have h3 := sum_take List.length e 10
    have h4 : ((e.take 10).map mkC).length ≤ e.length := by rw [List.length_map, List.length_take]; omega
    unfold eltN cmpsN
    omega
theorem sumL_flat (l : List Elt) : sumL (l.map mkT).flatten ≤ 2 * (l.map eltN).sum + l.length := by
  induction l with
  | nil => exact Nat.le_refl _
  | cons e l ih =>
    have := sumL_mkT e
    simp only [List.map_cons, List.flatten_cons, sumL_append, List.sum_cons, List.length_cons]
    omega
theorem wrS_mkS (s : Sgm) : (wrS (mkS s)).length ≤ 2 * sgN s + 1 := by
  have hr := right_mkS s
  obtain ⟨h1, _⟩ := right_all hr
  have h6 := ext_le (mkS s).flatten
  rw [wrS_len (by intro e; rw [e] at hr; simp [rightS] at hr) (right_ne h1)]
  unfold mkS at *
  split
  · have : sumL (([[[]]] : Sgm)).flatten = 1 := rfl
    have : extL (([[[]]] : Sgm)).flatten = 0 := rfl
    omega
  · rename_i h0
    rw [if_neg h0] at h6
    have h2 := sumL_flat (s.take 30)
    have h3 := sum_take eltN s 30
    have h4 : (s.take 30).length ≤ s.length := by rw [List.length_take]; omega
    unfold sgN
    omega
theorem wrL_made (A : List Sgm) (h : A.all smallS = true) : (wrL (madeL A)).length ≤ 1401 * A.length := by
  induction A with
  | nil => exact Nat.le_refl _
  | cons s A ih =>
    simp only [List.all_cons, Bool.and_eq_true] at h
    have h1 := ih h.2
    have h2 := wrS_mkS s
    have h3 := h.1
    unfold smallS at h3
    simp only [decide_eq_true_eq] at h3
    rw [show wrL (madeL (s :: A)) = wrS (mkS s) ++ wrL (madeL A) from by simp [wrL, madeL], List.length_append, List.length_cons]
    omega
theorem small_of {A : List Sgm} (h : smallL A = true) : A.length ≤ 40 ∧ A.all smallS = true := by
  unfold smallL at h
  simpa only [Bool.and_eq_true, decide_eq_true_eq] using h
theorem lens_right {A : List Sgm} (h : A.all rightS = true) : ∀ y ∈ A, y.length ≤ 4000000000 ∧ ∀ z ∈ y, z.length ≤ 4000000000 := right_lens h
theorem wrS_made {A : List Sgm} (h : A.all smallS = true) {k : Nat} {y : Sgm} (hy : (madeL A)[k]? = some y) : (wrS y).length ≤ 1401 := by
  unfold madeL at hy
  rw [List.getElem?_map] at hy
  obtain ⟨s, hs, rfl⟩ := Option.map_eq_some_iff.1 hy
  have h1 := wrS_mkS s
  have h2 := all_at h hs
  unfold smallS at h2
  simp only [decide_eq_true_eq] at h2
  omega
theorem writeV_one {y : Sgm} (h : rightS y = true) (hl : (wrS y).length ≤ 65536) : writeV [y] = .tuple #[strV (wrS y), .int .i64 0] := by
  have e : wrL [y] = wrS y := by simp [wrL]
  unfold writeV
  rw [if_neg (by rw [List.length_singleton]; omega), if_neg (by simp [h]), e, if_neg (by omega)]
theorem writeV_all {A : List Sgm} (h : A.all rightS = true) (hn : A.length ≤ 5000) (hl : (wrL A).length ≤ 65536) : writeV A = .tuple #[strV (wrL A), .int .i64 0] := by
  unfold writeV
  rw [if_neg (by omega), if_neg (by rw [h]; simp), if_neg (by omega)]
theorem gap_rep {g : UInt8} (h : gap g = true) : ∀ n, (Lib.repeatL [g] n).all gap = true := by
  intro n
  induction n with
  | zero => rfl
  | succ n ih => simp only [Lib.repeatL, List.singleton_append, List.all_cons, h, ih, Bool.and_self]
theorem gap_at {m : Nat} (h : m < 3) : ∃ g : UInt8, gap g = true ∧ (([10, 13, 32] : List UInt8).take (m + 1)).drop m = [g] := by
  rcases m with _ | _ | _ | m
  · exact ⟨10, rfl, rfl⟩
  · exact ⟨13, rfl, rfl⟩
  · exact ⟨32, rfl, rfl⟩
  · omega
theorem loose_seg {A : List Sgm} {k : Nat} {y : Sgm} {lo : List UInt8} (hR : A.all rightS = true) (hn : A.length ≤ 4000) (hy : A[k]? = some y) (h : runS 0 lo ⟨[], .out⟩ = .ok ⟨A.take k, .out⟩) : runS 0 (lo ++ wrS y) ⟨[], .out⟩ = .ok ⟨A.take (k + 1), .out⟩ := by
  rw [runS_ok h, run_wrS (all_at hR hy) (by rw [List.length_take]; omega), takeL hy]
theorem loose_gap {A : List Sgm} {k : Nat} {lo g : List UInt8} (hg : g.all gap = true) (h : runS 0 lo ⟨[], .out⟩ = .ok ⟨A.take k, .out⟩) : runS 0 (lo ++ g) ⟨[], .out⟩ = .ok ⟨A.take k, .out⟩ := by
  rw [runS_ok h, run_gaps _ _ _ hg]
theorem loose_read {A : List Sgm} {k : Nat} {lo : List UInt8} (hk : ¬ k < A.length) (h : runS 0 lo ⟨[], .out⟩ = .ok ⟨A.take k, .out⟩) (hl : ¬ 65536 < lo.length) : readT lo = .ok A := by
  unfold readT
  rw [if_neg hl, h, List.take_of_length_le (by omega)]
  rfl
theorem lvp_one {α : Type} {R : World → Value → α → Prop} {W : World} {p : Option Addr} {l : List α} {i b off : Nat} {y : α} (h : LVp R W p l) (hy : l[i]? = some y) (hp : p = some ⟨b, off, none⟩) : LVp R W (some ⟨b, off + i * 1, none⟩) [y] := by
  obtain ⟨vs, h1, h2, h3⟩ := h
  have hi := (List.getElem?_eq_some_iff.1 hy).1
  have hx : vs[i]? = some (vs[i]'(by omega)) := List.getElem?_eq_getElem (by omega)
  rcases h1 with rfl | ⟨b', off', e, hlt, hc⟩
  · simp at h2; omega
  · rw [hp] at e
    cases e
    refine ⟨[vs[i]'(by omega)], .inr ⟨b, off + i * 1, rfl, hlt, fun k u hu => ?_⟩, rfl, fun k x y' hx' hy' => ?_⟩
    · match k, hu with
      | 0, hu =>
        cases hu
        rw [Nat.mul_one]
        exact hc i _ hx
    · match k, hx', hy' with
      | 0, hx', hy' =>
        cases hx'
        cases hy'
        exact h3 i _ _ hx hy
theorem run_slS {P : Program} {T E : TypeId} {o : Oper} {a : Act} {b off n cap i j : Nat} {x p1 p2 : Operand} {k1 k2 : IntKind} (ho : o.op = .slice T x (some p1) (some p2) none) (hT : P.underlying T = some (.slice E)) (hi : (P.info? E).map (·.size) = some 1) (hx : a.eval x = .slice (some ⟨b, off, none⟩) n cap) (h1 : a.eval p1 = .int k1 ((i : Nat) : Int)) (h2 : a.eval p2 = .int k2 ((j : Nat) : Int)) {m : Nat} (hij : i < j) (hj : j ≤ cap) (hm : j - i = m) (w : World) :
    (execOp a.eval o).run P w = .ok (.value (.slice (some ⟨b, off + i * 1, none⟩) m (cap - i))) w := by
  subst hm
  have hsz : (Go.sizeOf E).run P w = .ok 1 w := by
    cases hq : P.info? E with
    | none => simp [hq] at hi
    | some i =>
      have hs : i.size = 1 := by simpa [hq] using hi
      simp [Go.sizeOf, typeInfo, hq, hs]
  unfold execOp
  rw [ho]
  have e1 := fun c => sl_bound (P := P) (k := k1) (c := c) (Nat.le_of_lt hij) w
  have e2 := fun c => sl_bound (P := P) (k := k2) (c := c) hj w
  have hne : ¬ cap = i := by omega
  simp [Instr.sliceAt, Instr.slice, Instr.sliceBounds, hx, h1, h2, run_underlying hT, e1, e2, hsz, hne, addr_add]
theorem shape_own {W0 : World} {A : List Sgm} {v : Value} {T : List (Nat × Obj)} (h : OwnS W0 A v T) : ∃ p c, v = .slice p A.length c ∧ A.length ≤ c := by
  obtain ⟨xo, T1, Ko, _, hO, _⟩ := h
  rcases hO with ⟨h0, _, e, _⟩ | ⟨g, cap, cur, e, _, hR, _⟩
  · exact ⟨_, _, by rw [h0]; exact e, by omega⟩
  · exact ⟨_, _, e, hR.2.2.1⟩
theorem repL_len (b : UInt8) (n : Nat) : (Lib.repeatL [b] n).length = n := by rw [Lib.repeatL_length]; simp
theorem rep_any (b : UInt8) (n : Nat) (hn : n ≤ 1000000) (w : World) : Calls Try.prog 17 #[strV [b], .int .i64 ((n : Nat) : Int)] w fun e w' => e = .returned (strV (Lib.repeatL [b] n)) ∧ Below w.heap.size w w' := by
  have h := Try.strings_Repeat ⟨#[b]⟩ n w (by omega) (by show (1 : Nat) * n ≤ _; omega)
  exact h
end Go.Proofs.Ytppegdbelgobiaa
namespace Go.Proofs.Ytppegdbelgobiaa
open Go Go.RowKit Tw
def endN : List UInt8 → Nat
  | [] => 0
  | [b] => if b.toNat = 39 then 0 else 1
  | b :: c :: r => if b.toNat = 39 then 0 else if b.toNat = 63 then 2 + endN r else 1 + endN (c :: r)
theorem drop_at {l : List UInt8} {f : Nat} {b : UInt8} (h : l[f]? = some b) : l.drop f = b :: l.drop (f + 1) := by
  obtain ⟨h1, rfl⟩ := List.getElem?_eq_some_iff.1 h
  exact List.drop_eq_getElem_cons h1
theorem end_39 {l : List UInt8} {f : Nat} {b : UInt8} (h : l[f]? = some b) (hb : b.toNat = 39) : endN (l.drop f) = 0 := by
  rw [drop_at h]
  match l.drop (f + 1) with
  | [] => exact if_pos hb
  | c :: r => exact if_pos hb
theorem end_63 {l : List UInt8} {f : Nat} {b : UInt8} (h : l[f]? = some b) (hb : b.toNat = 63) : (f + 2 ≤ l.length ∧ endN (l.drop f) = 2 + endN (l.drop (f + 1 + 1))) ∨ (f + 1 = l.length ∧ endN (l.drop f) = 1) := by
  have h1 := (List.getElem?_eq_some_iff.1 h).1
  rw [drop_at h]
  match hr : l.drop (f + 1) with
  | [] =>
    have := congrArg List.length hr
    rw [List.length_drop, List.length_nil] at this
    exact .inr ⟨by omega, if_neg (by omega)⟩
  | c :: r =>
    have := congrArg List.length hr
    rw [List.length_drop, List.length_cons] at this
    have h2 : l.drop (f + 1 + 1) = r := by
      rw [← List.drop_drop, hr]
      rfl
    refine .inl ⟨by omega, ?_⟩
    rw [h2]
    show (if b.toNat = 39 then 0 else if b.toNat = 63 then 2 + endN r else 1 + endN (c :: r)) = _
    rw [if_neg (by omega), if_pos hb]
theorem end_oth {l : List UInt8} {f : Nat} {b : UInt8} (h : l[f]? = some b) (h1 : ¬ b.toNat = 39) (h2 : ¬ b.toNat = 63) : endN (l.drop f) = 1 + endN (l.drop (f + 1)) := by
  rw [drop_at h]
  match l.drop (f + 1) with
  | [] => exact if_neg h1
  | c :: r =>
    show (if b.toNat = 39 then 0 else if b.toNat = 63 then 2 + endN r else 1 + endN (c :: r)) = _
    rw [if_neg h1, if_neg h2]
theorem end_len (l : List UInt8) : endN (l.drop l.length) = 0 := by
  rw [List.drop_of_length_le (Nat.le_refl _)]
  rfl
set_option maxRecDepth 100000 in
set_option maxHeartbeats 4000000 in
theorem end_any (l : List UInt8) (f0 : Nat) (lc : l.length ≤ 4000000000) (lf : f0 ≤ l.length) (w : World) : Calls Try.prog 34 #[strV l, .int .i64 ((f0 : Nat) : Int)] w fun e w' => e = .returned (.int .i64 (((f0 + endN (l.drop f0)) : Nat) : Int)) ∧ Below w.heap.size w w' := by
  go_enter Try.func34, Try.ntmps34
  refine wp_seq ?_
  refine wp_region_L (W0 := w) [] (KS.start w) ?_
  refine lm (v := .int .i64 0) rfl rfl ?_
  refine wpL_done (fun W1 hW1 => ?_)
  refine (show Code.wp _ _ _ _ _ from ?_)
  refine wp_seq ?_
  refine wp_block ?_
  go_loopw [1] (fun u1 wr => ∃ (f : Nat), ((f ≤ l.length ∧ f + endN (l.drop f) = f0 + endN (l.drop f0)) ∨ (f = l.length + 1 ∧ f0 + endN (l.drop f0) = l.length)) ∧ u1 = .int .i64 ((f : Nat) : Int) ∧ KS w [] wr) (fun u1 _ => l.length + 2 - (intOf u1).toNat)
  case atStart => exact ⟨f0, (.inl ⟨lf, rfl⟩), rfl, hW1⟩
  case round =>
    obtain ⟨f, hI, rfl, hL2⟩ := hrel
    refine wp_seq ?_
    refine wp_seq ?_
    refine wp_region_L (W0 := w) [] (hL2) ?_
    refine lm (v := .int .i64 ((f : Nat) : Int)) rfl rfl ?_
    refine lm (v := strV l) rfl rfl ?_
    refine lp (v := .int .i64 ((l.length : Nat) : Int)) rfl rfl (run_lenS (l := l) rfl Try.underlying9 (by kernel_rfl)) ?_
    refine lp (v := .bool (decide (f < l.length))) rfl rfl (run_bin rfl (vx := (.int .i64 ((f : Nat) : Int))) (vy := (.int .i64 ((l.length : Nat) : Int))) (by kernel_rfl) (by kernel_rfl) fun w => bn_lss rfl w) ?_
    refine lm (v := .bool (decide (f < l.length))) rfl rfl ?_
    cases hd1 : (decide (f < l.length)) with
    | false =>
      have h1 : ¬ (f < l.length) := of_decide_eq_false hd1
      clear hd1
      refine ln rfl ?_
      refine ln rfl ?_
      refine ln rfl ?_
      refine ln rfl ?_
      refine lm (v := .bool false) rfl rfl ?_
      refine wpL_done (fun W3 hW3 => ?_)
      refine (show Code.wp _ _ _ _ _ from ?_)
      refine wp_cond_false rfl ?_
      refine wp_exit ?_
      refine (show Code.wp _ _ _ _ _ from ?_)
      refine wp_seq ?_
      refine wp_seq ?_
      refine wp_region_L (W0 := w) [] (hW3) ?_
      refine lm (v := .int .i64 ((f : Nat) : Int)) rfl rfl ?_
      refine lm (v := strV l) rfl rfl ?_
      refine lp (v := .int .i64 ((l.length : Nat) : Int)) rfl rfl (run_lenS (l := l) rfl Try.underlying9 (by kernel_rfl)) ?_
      refine lp (v := .bool (decide (l.length < f))) rfl rfl (run_bin rfl (vx := (.int .i64 ((f : Nat) : Int))) (vy := (.int .i64 ((l.length : Nat) : Int))) (by kernel_rfl) (by kernel_rfl) fun w => bn_gtr rfl w) ?_
      refine wpL_done (fun W4 hW4 => ?_)
      refine (show Code.wp _ _ _ _ _ from ?_)
      cases hd2 : (decide (l.length < f)) with
      | false =>
        have h2 : ¬ (l.length < f) := of_decide_eq_false hd2
        clear hd2
        refine wp_cond_false rfl ?_
        refine wp_skip ?_
        refine (show Code.wp _ _ _ _ _ from ?_)
        refine wp_seq ?_
        refine wp_region_L (W0 := w) [] (hW4) ?_
        refine lm (v := .int .i64 ((f : Nat) : Int)) rfl rfl ?_
        refine lm (v := .int .i64 ((f : Nat) : Int)) rfl rfl ?_
        refine wpL_done (fun W5 hW5 => ?_)
        refine (show Code.wp _ _ _ _ _ from ?_)
        refine wp_ret ?_
        try simp only [inBlock_ret, then_ret]
        refine bodyPost_ret (v := .int .i64 ((f : Nat) : Int)) ?_ rfl ?_
        · kernel_rfl
        · exact ⟨(by have hx : f = f0 + endN (l.drop f0) := (by have z := end_len l; rcases hI with ⟨i1, i2⟩ | ⟨i1, i2⟩ <;> first | omega | (have e : f = l.length := (by omega); rw [e] at i2; omega)); rw [← hx]), hW5.1⟩
      | true =>
        have h2 : l.length < f := of_decide_eq_true hd2
        clear hd2
        refine wp_cond_true rfl ?_
        refine wp_seq ?_
        refine wp_region_L (W0 := w) [] (hW4) ?_
        refine lm (v := strV l) rfl rfl ?_
        refine lp (v := .int .i64 ((l.length : Nat) : Int)) rfl rfl (run_lenS (l := l) rfl Try.underlying9 (by kernel_rfl)) ?_
        refine lm (v := .int .i64 ((l.length : Nat) : Int)) rfl rfl ?_
        refine wpL_done (fun W6 hW6 => ?_)
        refine (show Code.wp _ _ _ _ _ from ?_)
        refine wp_ret ?_
        try simp only [inBlock_ret, then_ret]
        refine bodyPost_ret (v := .int .i64 ((l.length : Nat) : Int)) ?_ rfl ?_
        · kernel_rfl
        · exact ⟨(by have hx : l.length = f0 + endN (l.drop f0) := (by have z := end_len l; rcases hI with ⟨i1, i2⟩ | ⟨i1, i2⟩ <;> first | omega | (have e : f = l.length := (by omega); rw [e] at i2; omega)); rw [← hx]), hW6.1⟩
    | true =>
      have h1 : f < l.length := of_decide_eq_true hd1
      clear hd1
      refine lm (v := strV l) rfl rfl ?_
      refine lm (v := .int .i64 ((f : Nat) : Int)) rfl rfl ?_
      obtain ⟨b1, hb1⟩ : ∃ b, (l : List UInt8)[f]? = some b := ⟨_, List.getElem?_eq_getElem (by omega)⟩
      have lb1 := b1.toNat_lt
      refine lp (v := .int .u8 ((b1.toNat : Nat) : Int)) rfl rfl (run_idxS (j := .i64) (l := l) (k := f) (b := b1) rfl Try.underlying9 (by kernel_rfl) (by kernel_rfl) hb1) ?_
      refine lp (v := .bool (!(decide (b1.toNat = 39)))) rfl rfl (run_bin rfl (vx := (.int .u8 ((b1.toNat : Nat) : Int))) (vy := (.int .u8 ((39 : Nat) : Int))) (by kernel_rfl) (by kernel_rfl) fun w => bn_neq rfl w) ?_
      refine lm (v := .bool (!(decide (b1.toNat = 39)))) rfl rfl ?_
      refine wpL_done (fun W7 hW7 => ?_)
      refine (show Code.wp _ _ _ _ _ from ?_)
      cases hd3 : (decide (b1.toNat = 39)) with
      | false =>
        have h3 : ¬ (b1.toNat = 39) := of_decide_eq_false hd3
        clear hd3
        refine wp_cond_true rfl ?_
        refine wp_skip ?_
        refine (show Code.wp _ _ _ _ _ from ?_)
        refine wp_block ?_
        refine wp_seq ?_
        refine wp_seq ?_
        refine wp_region_L (W0 := w) [] (hW7) ?_
        refine lm (v := strV l) rfl rfl ?_
        refine lm (v := .int .i64 ((f : Nat) : Int)) rfl rfl ?_
        refine lp (v := .int .u8 ((b1.toNat : Nat) : Int)) rfl rfl (run_idxS (j := .i64) (l := l) (k := f) (b := b1) rfl Try.underlying9 (by kernel_rfl) (by kernel_rfl) hb1) ?_
        refine lp (v := .bool (decide (b1.toNat = 63))) rfl rfl (run_bin rfl (vx := (.int .u8 ((b1.toNat : Nat) : Int))) (vy := (.int .u8 ((63 : Nat) : Int))) (by kernel_rfl) (by kernel_rfl) fun w => bn_eql rfl w) ?_
        refine wpL_done (fun W8 hW8 => ?_)
        refine (show Code.wp _ _ _ _ _ from ?_)
        cases hd4 : (decide (b1.toNat = 63)) with
        | false =>
          have h4 : ¬ (b1.toNat = 63) := of_decide_eq_false hd4
          clear hd4
          refine wp_cond_false rfl ?_
          refine wp_skip ?_
          refine (show Code.wp _ _ _ _ _ from ?_)
          refine wp_region_L (W0 := w) [] (hW8) ?_
          refine lm (v := .int .i64 ((f : Nat) : Int)) rfl rfl ?_
          refine lp (v := .int .i64 (((f + 1) : Nat) : Int)) rfl rfl (run_bin rfl (vx := (.int .i64 ((f : Nat) : Int))) (vy := (.int .i64 ((1 : Nat) : Int))) (by kernel_rfl) (by kernel_rfl) fun w => bn_add (z := (f + 1)) rfl (wr_i64 (by omega)) w) ?_
          refine lm (v := .int .i64 (((f + 1) : Nat) : Int)) rfl rfl ?_
          refine wpL_done (fun W9 hW9 => ?_)
          go_roundw
          case rel =>
            repeat apply Exists.intro
            exact ⟨⟨(f + 1), (by have z := end_oth hb1 h3 h4; omega), rfl, hW9⟩, rfl⟩
          case measure => (show l.length + 2 - (intOf (.int .i64 (((f + 1) : Nat) : Int))).toNat < l.length + 2 - (intOf (.int .i64 ((f : Nat) : Int))).toNat); simp only [intOf]; omega
        | true =>
          have h4 : b1.toNat = 63 := of_decide_eq_true hd4
          clear hd4
          refine wp_cond_true rfl ?_
          refine wp_region_L (W0 := w) [] (hW8) ?_
          refine lm (v := .int .i64 ((f : Nat) : Int)) rfl rfl ?_
          refine lp (v := .int .i64 (((f + 1) : Nat) : Int)) rfl rfl (run_bin rfl (vx := (.int .i64 ((f : Nat) : Int))) (vy := (.int .i64 ((1 : Nat) : Int))) (by kernel_rfl) (by kernel_rfl) fun w => bn_add (z := (f + 1)) rfl (wr_i64 (by omega)) w) ?_
          refine lm (v := .int .i64 (((f + 1) : Nat) : Int)) rfl rfl ?_
          refine wpL_done (fun W10 hW10 => ?_)
          refine (show Code.wp _ _ _ _ _ from ?_)
          refine wp_region_L (W0 := w) [] (hW10) ?_
          refine lm (v := .int .i64 (((f + 1) : Nat) : Int)) rfl rfl ?_
          refine lp (v := .int .i64 ((((f + 1) + 1) : Nat) : Int)) rfl rfl (run_bin rfl (vx := (.int .i64 (((f + 1) : Nat) : Int))) (vy := (.int .i64 ((1 : Nat) : Int))) (by kernel_rfl) (by kernel_rfl) fun w => bn_add (z := ((f + 1) + 1)) rfl (wr_i64 (by omega)) w) ?_
          refine lm (v := .int .i64 ((((f + 1) + 1) : Nat) : Int)) rfl rfl ?_
          refine wpL_done (fun W11 hW11 => ?_)
          go_roundw
          case rel =>
            repeat apply Exists.intro
            exact ⟨⟨((f + 1) + 1), (by have z := end_63 hb1 h4; omega), rfl, hW11⟩, rfl⟩
          case measure => (show l.length + 2 - (intOf (.int .i64 ((((f + 1) + 1) : Nat) : Int))).toNat < l.length + 2 - (intOf (.int .i64 ((f : Nat) : Int))).toNat); simp only [intOf]; omega
      | true =>
        have h3 : b1.toNat = 39 := of_decide_eq_true hd3
        clear hd3
        refine wp_cond_false rfl ?_
        refine wp_exit ?_
        refine (show Code.wp _ _ _ _ _ from ?_)
        refine wp_seq ?_
        refine wp_seq ?_
        refine wp_region_L (W0 := w) [] (hW7) ?_
        refine lm (v := .int .i64 ((f : Nat) : Int)) rfl rfl ?_
        refine lm (v := strV l) rfl rfl ?_
        refine lp (v := .int .i64 ((l.length : Nat) : Int)) rfl rfl (run_lenS (l := l) rfl Try.underlying9 (by kernel_rfl)) ?_
        refine lp (v := .bool (decide (l.length < f))) rfl rfl (run_bin rfl (vx := (.int .i64 ((f : Nat) : Int))) (vy := (.int .i64 ((l.length : Nat) : Int))) (by kernel_rfl) (by kernel_rfl) fun w => bn_gtr rfl w) ?_
        refine wpL_done (fun W12 hW12 => ?_)
        refine (show Code.wp _ _ _ _ _ from ?_)
        cases hd5 : (decide (l.length < f)) with
        | false =>
          have h5 : ¬ (l.length < f) := of_decide_eq_false hd5
          clear hd5
          refine wp_cond_false rfl ?_
          refine wp_skip ?_
          refine (show Code.wp _ _ _ _ _ from ?_)
          refine wp_seq ?_
          refine wp_region_L (W0 := w) [] (hW12) ?_
          refine lm (v := .int .i64 ((f : Nat) : Int)) rfl rfl ?_
          refine lm (v := .int .i64 ((f : Nat) : Int)) rfl rfl ?_
          refine wpL_done (fun W13 hW13 => ?_)
          refine (show Code.wp _ _ _ _ _ from ?_)
          refine wp_ret ?_
          try simp only [inBlock_ret, then_ret]
          refine bodyPost_ret (v := .int .i64 ((f : Nat) : Int)) ?_ rfl ?_
          · kernel_rfl
          · exact ⟨(by have hx : f = f0 + endN (l.drop f0) := (by have z := end_len l; have z2 := end_39 hb1 h3; rcases hI with ⟨i1, i2⟩ | ⟨i1, i2⟩ <;> first | omega | (have e : f = l.length := (by omega); rw [e] at i2; omega)); rw [← hx]), hW13.1⟩
        | true =>
          have h5 : l.length < f := of_decide_eq_true hd5
          clear hd5
          refine wp_cond_true rfl ?_
          refine wp_seq ?_
          refine wp_region_L (W0 := w) [] (hW12) ?_
          refine lm (v := strV l) rfl rfl ?_
          refine lp (v := .int .i64 ((l.length : Nat) : Int)) rfl rfl (run_lenS (l := l) rfl Try.underlying9 (by kernel_rfl)) ?_
          refine lm (v := .int .i64 ((l.length : Nat) : Int)) rfl rfl ?_
          refine wpL_done (fun W14 hW14 => ?_)
          refine (show Code.wp _ _ _ _ _ from ?_)
          refine wp_ret ?_
          try simp only [inBlock_ret, then_ret]
          refine bodyPost_ret (v := .int .i64 ((l.length : Nat) : Int)) ?_ rfl ?_
          · kernel_rfl
          · exact ⟨(by have hx : l.length = f0 + endN (l.drop f0) := (by have z := end_len l; have z2 := end_39 hb1 h3; rcases hI with ⟨i1, i2⟩ | ⟨i1, i2⟩ <;> first | omega | (have e : f = l.length := (by omega); rw [e] at i2; omega)); rw [← hx]), hW14.1⟩
end Go.Proofs.Ytppegdbelgobiaa
namespace Go.Proofs.Ytppegdbelgobiaa
open Go Go.RowKit Tw
theorem el_int : Elem Try.prog 84 3 1 8 (.int .i64 0) := Elem.mk' Try.underlying84 (by kernel_rfl) rfl
def ints (l : List Nat) : List Value := l.map fun n => .int .i64 ((n : Nat) : Int)
def cutN (by_ : UInt8) : Nat → List UInt8 → List Nat
  | _, [] => []
  | i, [b] => if b.toNat = 63 then [] else if b.toNat = by_.toNat then [i + 1] else []
  | i, b :: c :: r => if b.toNat = 63 then cutN by_ (i + 1 + 1) r else if b.toNat = by_.toNat then (i + 1) :: cutN by_ (i + 1) (c :: r) else cutN by_ (i + 1) (c :: r)
theorem cut_63 {l : List UInt8} {y b : UInt8} {f : Nat} (h : l[f]? = some b) (hb : b.toNat = 63) : cutN y f (l.drop f) = cutN y (f + 1 + 1) (l.drop (f + 1 + 1)) ∧ (f + 1 + 1 ≤ l.length ∨ f + 1 = l.length) := by
  have h1 := (List.getElem?_eq_some_iff.1 h).1
  rw [drop_at h]
  match hr : l.drop (f + 1) with
  | [] =>
    have := congrArg List.length hr
    rw [List.length_drop, List.length_nil] at this
    rw [List.drop_of_length_le (by omega : l.length ≤ f + 1 + 1)]
    exact ⟨if_pos hb, .inr (by omega)⟩
  | c :: r =>
    have := congrArg List.length hr
    rw [List.length_drop, List.length_cons] at this
    have h2 : l.drop (f + 1 + 1) = r := by
      rw [← List.drop_drop, hr]
      rfl
    rw [h2]
    exact ⟨if_pos hb, .inl (by omega)⟩
theorem cut_by {l : List UInt8} {y b : UInt8} {f : Nat} (h : l[f]? = some b) (h1 : ¬ b.toNat = 63) (h2 : b.toNat = y.toNat) : cutN y f (l.drop f) = (f + 1) :: cutN y (f + 1) (l.drop (f + 1)) := by
  rw [drop_at h]
  match l.drop (f + 1) with
  | [] => exact (if_neg h1).trans (if_pos h2)
  | c :: r => exact (if_neg h1).trans (if_pos h2)
theorem cut_no {l : List UInt8} {y b : UInt8} {f : Nat} (h : l[f]? = some b) (h1 : ¬ b.toNat = 63) (h2 : ¬ b.toNat = y.toNat) : cutN y f (l.drop f) = cutN y (f + 1) (l.drop (f + 1)) := by
  rw [drop_at h]
  match l.drop (f + 1) with
  | [] => exact (if_neg h1).trans (if_neg h2)
  | c :: r => exact (if_neg h1).trans (if_neg h2)
theorem cut_end {l : List UInt8} {y : UInt8} {f : Nat} (h : l.length ≤ f) : cutN y f (l.drop f) = [] := by
  rw [List.drop_of_length_le h]
  rfl
theorem take_at {l : List UInt8} {f e : Nat} {b : UInt8} (h : l[f]? = some b) (hf : f < e) : (l.take e)[f]? = some b := by
  rw [List.getElem?_take, if_pos hf]
  exact h
theorem ints_snoc (o : List Nat) (n : Nat) : ints (o ++ [n]) = ints o ++ [.int .i64 ((n : Nat) : Int)] := by simp [ints]
theorem own_ints {W0 : Base} {E : TypeId} {v : Value} {o : List Nat} {n : Nat} {K : List (Nat × Obj)} (h : OwnL W0 E 1 v (o.length + 1) (ints o ++ [.int .i64 ((n : Nat) : Int)]) K) : OwnL W0 E 1 v (o ++ [n]).length (ints (o ++ [n])) K := by
  rw [ints_snoc, List.length_append]
  exact h
theorem own_block {W0 : Base} {E : TypeId} {g : Nat} {x : Value} (hB : W0.B ≤ g) : OwnL W0 E 1 (.slice (some ⟨g, 0, none⟩) 1 1) 1 [x] [(g, .cells #[x] E (0, 0))] := .inr ⟨g, 1, #[x], rfl, hB, ⟨rfl, by decide, Nat.le_refl _, rfl, rfl⟩, rfl⟩
def cutL (y : UInt8) (f e : Nat) (l : List UInt8) : List Nat := f :: cutN y f ((l.take e).drop f)
set_option maxRecDepth 100000 in
set_option maxHeartbeats 4000000 in
theorem cut_any (l : List UInt8) (f0 e0 : Nat) (y : UInt8) (lc : l.length ≤ 4000000) (hf : f0 ≤ e0) (he : e0 ≤ l.length) (w : World) : Calls Try.prog 46 #[strV l, .int .i64 ((f0 : Nat) : Int), .int .i64 ((e0 : Nat) : Int), .int .u8 ((y.toNat : Nat) : Int)] w fun e w' => ∃ v, e = .returned v ∧ OutV w w' 3 1 v (cutL y f0 e0 l).length (ints (cutL y f0 e0 l)) ∧ Below w.heap.size w w' := by
  have ht : (l.take e0).length = e0 := by rw [List.length_take]; omega
  go_enter Try.func46, Try.ntmps46
  refine wp_seq ?_
  refine wp_region_L (W0 := w) [] (KS.start w) ?_
  refine lm (v := .slice none 0 0) rfl rfl ?_
  refine wpL_done (fun W1 hW1 => ?_)
  refine (show Code.wp _ _ _ _ _ from ?_)
  refine wp_seq ?_
  refine wp_region_L (W0 := w) [] (hW1) ?_
  refine lm (v := .int .i64 ((f0 : Nat) : Int)) rfl rfl ?_
  refine wpL_new (fun g => .slice (some ⟨g, 0, none⟩) 1 1) (obi := .cells #[.int .i64 ((f0 : Nat) : Int)] 3 (0, 0)) rfl rfl (fun _ => by kernel_rfl) (fun _ => by simp only [List.setIfInBounds_toArray, List.set_cons_succ, List.set_cons_zero] <;> rfl) fun g1 Bg1 Fg1 => ?_
  refine lm (v := .slice (some ⟨g1, 0, none⟩) 1 1) rfl rfl ?_
  refine wpL_done (fun W2 hW2 => ?_)
  refine (show Code.wp _ _ _ _ _ from ?_)
  refine wp_seq ?_
  refine wp_seq ?_
  refine wp_region_L (W0 := w) [(g1, .cells #[.int .i64 ((f0 : Nat) : Int)] 3 (0, 0))] (hW2) ?_
  refine lm (v := .int .i64 ((f0 : Nat) : Int)) rfl rfl ?_
  refine lm (v := .int .i64 ((f0 : Nat) : Int)) rfl rfl ?_
  refine wpL_done (fun W3 hW3 => ?_)
  refine (show Code.wp _ _ _ _ _ from ?_)
  refine wp_block ?_
  go_loopw [10, 9] (fun u10 u9 wr => ∃ (f : Nat) (o : List Nat) (vo : Value) (Ko : List (Nat × Obj)), (o ++ cutN y f ((l.take e0).drop f) = cutL y f0 e0 l) ∧ (f ≤ e0 + 1) ∧ (o.length ≤ f + 1) ∧ (OwnL w 3 1 vo o.length (ints o) Ko) ∧ u10 = .int .i64 ((f : Nat) : Int) ∧ vo = u9 ∧ KS w Ko wr) (fun u10 _ _ => e0 + 2 - (intOf u10).toNat)
  case atStart => exact ⟨f0, [f0], .slice (some ⟨g1, 0, none⟩) 1 1, [(g1, .cells #[.int .i64 ((f0 : Nat) : Int)] 3 (0, 0))], rfl, (by omega), (by simp), (own_block Bg1), rfl, rfl, (hW3.sub (fun p hp => by first | exact hp | (simp only [List.mem_cons, List.mem_append, List.nil_append, List.not_mem_nil, or_assoc, or_false, false_or] at hp ⊢ <;> grind)))⟩
  case round =>
    obtain ⟨f, o, vo, Ko, hc, hf2, lo, hO, rfl, rfl, hL4⟩ := hrel
    refine wp_seq ?_
    refine wp_seq ?_
    refine wp_region_L (W0 := w) Ko (hL4) ?_
    refine lm (v := .int .i64 ((f : Nat) : Int)) rfl rfl ?_
    refine lm (v := .int .i64 ((e0 : Nat) : Int)) rfl rfl ?_
    refine lp (v := .bool (decide (f < e0))) rfl rfl (run_bin rfl (vx := (.int .i64 ((f : Nat) : Int))) (vy := (.int .i64 ((e0 : Nat) : Int))) (by kernel_rfl) (by kernel_rfl) fun w => bn_lss rfl w) ?_
    refine wpL_done (fun W5 hW5 => ?_)
    refine (show Code.wp _ _ _ _ _ from ?_)
    cases hd1 : (decide (f < e0)) with
    | false =>
      have h1 : ¬ (f < e0) := of_decide_eq_false hd1
      clear hd1
      refine wp_cond_false rfl ?_
      refine wp_exit ?_
      refine (show Code.wp _ _ _ _ _ from ?_)
      refine wp_seq ?_
      refine wp_region_L (W0 := w) Ko (hW5) ?_
      refine lm (v := vo) rfl rfl ?_
      refine lm (v := vo) rfl rfl ?_
      refine wpL_done (fun W6 hW6 => ?_)
      refine (show Code.wp _ _ _ _ _ from ?_)
      refine wp_ret ?_
      try simp only [inBlock_ret, then_ret]
      refine bodyPost_ret (v := vo) ?_ rfl ?_
      · kernel_rfl
      · exact ⟨_, rfl, (by have z := hO.out (fun p hp => hp) hW6; rw [← hc, cut_end (by omega), List.append_nil]; exact z), hW6.1⟩
    | true =>
      have h1 : f < e0 := of_decide_eq_true hd1
      clear hd1
      refine wp_cond_true rfl ?_
      refine wp_skip ?_
      refine (show Code.wp _ _ _ _ _ from ?_)
      refine wp_seq ?_
      refine wp_block ?_
      refine wp_seq ?_
      refine wp_region_L (W0 := w) Ko (hW5) ?_
      refine lm (v := strV l) rfl rfl ?_
      refine lm (v := .int .i64 ((f : Nat) : Int)) rfl rfl ?_
      obtain ⟨b3, hb3⟩ : ∃ b, (l : List UInt8)[f]? = some b := ⟨_, List.getElem?_eq_getElem (by omega)⟩
      have lb3 := b3.toNat_lt
      refine lp (v := .int .u8 ((b3.toNat : Nat) : Int)) rfl rfl (run_idxS (j := .i64) (l := l) (k := f) (b := b3) rfl Try.underlying9 (by kernel_rfl) (by kernel_rfl) hb3) ?_
      refine lp (v := .bool (decide (b3.toNat = 63))) rfl rfl (run_bin rfl (vx := (.int .u8 ((b3.toNat : Nat) : Int))) (vy := (.int .u8 ((63 : Nat) : Int))) (by kernel_rfl) (by kernel_rfl) fun w => bn_eql rfl w) ?_
      refine wpL_done (fun W7 hW7 => ?_)
      refine (show Code.wp _ _ _ _ _ from ?_)
      cases hd2 : (decide (b3.toNat = 63)) with
      | false =>
        have h2 : ¬ (b3.toNat = 63) := of_decide_eq_false hd2
        clear hd2
        refine wp_cond_false rfl ?_
        refine wp_seq ?_
        refine wp_region_L (W0 := w) Ko (hW7) ?_
        refine lm (v := strV l) rfl rfl ?_
        refine lm (v := .int .i64 ((f : Nat) : Int)) rfl rfl ?_
        refine lp (v := .int .u8 ((b3.toNat : Nat) : Int)) rfl rfl (run_idxS (j := .i64) (l := l) (k := f) (b := b3) rfl Try.underlying9 (by kernel_rfl) (by kernel_rfl) hb3) ?_
        refine lm (v := .int .u8 ((y.toNat : Nat) : Int)) rfl rfl ?_
        refine lp (v := .bool (decide (b3.toNat = y.toNat))) rfl rfl (run_bin rfl (vx := (.int .u8 ((b3.toNat : Nat) : Int))) (vy := (.int .u8 ((y.toNat : Nat) : Int))) (by kernel_rfl) (by kernel_rfl) fun w => bn_eql rfl w) ?_
        refine wpL_done (fun W8 hW8 => ?_)
        refine (show Code.wp _ _ _ _ _ from ?_)
        cases hd3 : (decide (b3.toNat = y.toNat)) with
        | false =>
          have h3 : ¬ (b3.toNat = y.toNat) := of_decide_eq_false hd3
          clear hd3
          refine wp_cond_false rfl ?_
          refine wp_skip ?_
          refine (show Code.wp _ _ _ _ _ from ?_)
          refine wp_region_L (W0 := w) Ko (hW8) ?_
          refine lm (v := .int .i64 ((f : Nat) : Int)) rfl rfl ?_
          refine lp (v := .int .i64 (((f + 1) : Nat) : Int)) rfl rfl (run_bin rfl (vx := (.int .i64 ((f : Nat) : Int))) (vy := (.int .i64 ((1 : Nat) : Int))) (by kernel_rfl) (by kernel_rfl) fun w => bn_add (z := (f + 1)) rfl (wr_i64 (by omega)) w) ?_
          refine lm (v := .int .i64 (((f + 1) : Nat) : Int)) rfl rfl ?_
          refine wpL_done (fun W9 hW9 => ?_)
          go_roundw
          case rel =>
            repeat apply Exists.intro
            exact ⟨⟨(f + 1), o, vo, Ko, (by rw [← hc, cut_no (take_at hb3 (by omega)) h2 h3]), (by omega), (by first | omega | (simp only [List.length_append, List.length_singleton]; omega)), hO, rfl, rfl, (hW9.sub (fun p hp => by first | exact hp | (simp only [List.mem_cons, List.mem_append, List.nil_append, List.not_mem_nil, or_assoc, or_false, false_or] at hp ⊢ <;> grind)))⟩, rfl⟩
          case measure => (show e0 + 2 - (intOf (.int .i64 (((f + 1) : Nat) : Int))).toNat < e0 + 2 - (intOf (.int .i64 ((f : Nat) : Int))).toNat); simp only [intOf]; omega
        | true =>
          have h3 : b3.toNat = y.toNat := of_decide_eq_true hd3
          clear hd3
          refine wp_cond_true rfl ?_
          refine wp_region_L (W0 := w) Ko (hW8) ?_
          refine lm (v := vo) rfl rfl ?_
          refine lm (v := .int .i64 ((f : Nat) : Int)) rfl rfl ?_
          refine lp (v := .int .i64 (((f + 1) : Nat) : Int)) rfl rfl (run_bin rfl (vx := (.int .i64 ((f : Nat) : Int))) (vy := (.int .i64 ((1 : Nat) : Int))) (by kernel_rfl) (by kernel_rfl) fun w => bn_add (z := (f + 1)) rfl (wr_i64 (by omega)) w) ?_
          refine wpL_new (fun g => .slice (some ⟨g, 0, none⟩) 1 1) (obi := .cells #[.int .i64 (((f + 1) : Nat) : Int)] 3 (0, 0)) rfl rfl (fun _ => by kernel_rfl) (fun _ => by simp only [List.setIfInBounds_toArray, List.set_cons_succ, List.set_cons_zero] <;> rfl) fun g4 Bg4 Fg4 => ?_
          obtain dj5_0 : Dk g4 Ko := by simpa only [dj_app_l, dj_app_r, dj_cons_l, dj_cons_r, dj_nil_l, dj_nil_r, dk_app, dk_cons, dk_nil, and_true, true_and, and_assoc] using (show Dk g4 Ko from Fg4)
          refine wpL_g (AppO w 3 1 [] (o.length + 1) ((ints o) ++ [.int .i64 (((f + 1) : Nat) : Int)])) rfl rfl (app_own el_int (m := 1) (c := 1) (news := [.int .i64 (((f + 1) : Nat) : Int)]) rfl (by kernel_rfl) (by kernel_rfl) (.head _) hO (fun p hp => by simp only [List.mem_cons, List.mem_append, List.nil_append, List.not_mem_nil, or_assoc, or_false, false_or, hp, or_true, true_or]) (fun _ h => by cases h) rfl (by simp [strV, Value.oneCell']) (by omega) (by omega) (by omega)) (fun _ => by simp only [List.setIfInBounds_toArray, List.set_cons_succ, List.set_cons_zero] <;> rfl) ?_
          rintro v6 Kl6 ⟨_, O6, N6, rfl⟩
          refine lm (v := v6) rfl rfl ?_
          refine wpL_done (fun W10 hW10 => ?_)
          refine (show Code.wp _ _ _ _ _ from ?_)
          refine wp_region_L (W0 := w) Kl6 (hW10) ?_
          refine lm (v := .int .i64 ((f : Nat) : Int)) rfl rfl ?_
          refine lp (v := .int .i64 (((f + 1) : Nat) : Int)) rfl rfl (run_bin rfl (vx := (.int .i64 ((f : Nat) : Int))) (vy := (.int .i64 ((1 : Nat) : Int))) (by kernel_rfl) (by kernel_rfl) fun w => bn_add (z := (f + 1)) rfl (wr_i64 (by omega)) w) ?_
          refine lm (v := .int .i64 (((f + 1) : Nat) : Int)) rfl rfl ?_
          refine wpL_done (fun W11 hW11 => ?_)
          go_roundw
          case rel =>
            repeat apply Exists.intro
            exact ⟨⟨(f + 1), (o ++ [f + 1]), v6, Kl6, (by rw [← hc, cut_by (take_at hb3 (by omega)) h2 h3]; simp), (by omega), (by first | omega | (simp only [List.length_append, List.length_singleton]; omega)), (own_ints O6), rfl, rfl, (hW11.sub (fun p hp => by first | exact hp | (simp only [List.mem_cons, List.mem_append, List.nil_append, List.not_mem_nil, or_assoc, or_false, false_or] at hp ⊢ <;> grind)))⟩, rfl⟩
          case measure => (show e0 + 2 - (intOf (.int .i64 (((f + 1) : Nat) : Int))).toNat < e0 + 2 - (intOf (.int .i64 ((f : Nat) : Int))).toNat); simp only [intOf]; omega
      | true =>
        have h2 : b3.toNat = 63 := of_decide_eq_true hd2
        clear hd2
        refine wp_cond_true rfl ?_
        refine wp_region_L (W0 := w) Ko (hW7) ?_
        refine lm (v := .int .i64 ((f : Nat) : Int)) rfl rfl ?_
        refine lp (v := .int .i64 (((f + 1) : Nat) : Int)) rfl rfl (run_bin rfl (vx := (.int .i64 ((f : Nat) : Int))) (vy := (.int .i64 ((1 : Nat) : Int))) (by kernel_rfl) (by kernel_rfl) fun w => bn_add (z := (f + 1)) rfl (wr_i64 (by omega)) w) ?_
        refine lm (v := .int .i64 (((f + 1) : Nat) : Int)) rfl rfl ?_
        refine wpL_done (fun W12 hW12 => ?_)
        refine (show Code.wp _ _ _ _ _ from ?_)
        refine wp_region_L (W0 := w) Ko (hW12) ?_
        refine lm (v := .int .i64 (((f + 1) : Nat) : Int)) rfl rfl ?_
        refine lp (v := .int .i64 ((((f + 1) + 1) : Nat) : Int)) rfl rfl (run_bin rfl (vx := (.int .i64 (((f + 1) : Nat) : Int))) (vy := (.int .i64 ((1 : Nat) : Int))) (by kernel_rfl) (by kernel_rfl) fun w => bn_add (z := ((f + 1) + 1)) rfl (wr_i64 (by omega)) w) ?_
        refine lm (v := .int .i64 ((((f + 1) + 1) : Nat) : Int)) rfl rfl ?_
        refine wpL_done (fun W13 hW13 => ?_)
        go_roundw
        case rel =>
          repeat apply Exists.intro
          exact ⟨⟨((f + 1) + 1), o, vo, Ko, (by have z := @cut_63 _ y _ _ (take_at hb3 (by omega)) h2; rw [ht] at z; rw [← hc, z.1]), (by have z := @cut_63 _ y _ _ (take_at hb3 (by omega)) h2; rw [ht] at z; omega), (by first | omega | (simp only [List.length_append, List.length_singleton]; omega)), hO, rfl, rfl, (hW13.sub (fun p hp => by first | exact hp | (simp only [List.mem_cons, List.mem_append, List.nil_append, List.not_mem_nil, or_assoc, or_false, false_or] at hp ⊢ <;> grind)))⟩, rfl⟩
        case measure => (show e0 + 2 - (intOf (.int .i64 ((((f + 1) + 1) : Nat) : Int))).toNat < e0 + 2 - (intOf (.int .i64 ((f : Nat) : Int))).toNat); simp only [intOf]; omega
end Go.Proofs.Ytppegdbelgobiaa
namespace Go.Proofs.Ytppegdbelgobiaa
open Go Go.RowKit Tw
def tq : List UInt8 → Bool
  | [] => false
  | [b] => decide (b.toNat = 63)
  | b :: c :: r => if b.toNat = 63 then tq r else tq (c :: r)
def noU (y : UInt8) : List UInt8 → Bool
  | [] => true
  | [b] => decide (b.toNat = 63) || !decide (b.toNat = y.toNat)
  | b :: c :: r => if b.toNat = 63 then noU y r else (!decide (b.toNat = y.toNat)) && noU y (c :: r)
def splitU (y : UInt8) : List UInt8 → List UInt8 × List (List UInt8)
  | [] => ([], [])
  | [b] => if b.toNat = 63 then ([b], []) else if b.toNat = y.toNat then ([], [[]]) else ([b], [])
  | b :: c :: r => if b.toNat = 63 then (b :: c :: (splitU y r).1, (splitU y r).2) else if b.toNat = y.toNat then ([], (splitU y (c :: r)).1 :: (splitU y (c :: r)).2) else (b :: (splitU y (c :: r)).1, (splitU y (c :: r)).2)
def goodP : List (List UInt8) → Prop
  | [] => True
  | [_] => True
  | p :: q :: r => tq p = false ∧ goodP (q :: r)
def lastq : List (List UInt8) → Bool
  | [] => false
  | [p] => tq p
  | _ :: q :: r => lastq (q :: r)
def starts : Nat → List UInt8 → List (List UInt8) → List Nat
  | _, _, [] => []
  | i, h, q :: r => (i + h.length + 1) :: starts (i + h.length + 1) q r
def joinY (y : UInt8) (h : List UInt8) (t : List (List UInt8)) : List UInt8 := h ++ t.flatMap fun p => y :: p
theorem tq_cons {b : UInt8} (h : List UInt8) (hb : ¬ b.toNat = 63) : tq (b :: h) = tq h := by
  match h with
  | [] => show decide (b.toNat = 63) = false; simp [hb]
  | c :: r => exact if_neg hb
theorem tq_63 {b : UInt8} (c : UInt8) (h : List UInt8) (hb : b.toNat = 63) : tq (b :: c :: h) = tq h := if_pos hb
theorem noU_cons {y b : UInt8} (h : List UInt8) (hb : ¬ b.toNat = 63) : noU y (b :: h) = ((!decide (b.toNat = y.toNat)) && noU y h) := by
  match h with
  | [] => show (decide (b.toNat = 63) || !decide (b.toNat = y.toNat)) = _; simp [hb, noU]
  | c :: r => exact if_neg hb
theorem noU_63 {y b : UInt8} (c : UInt8) (h : List UInt8) (hb : b.toNat = 63) : noU y (b :: c :: h) = noU y h := if_pos hb
theorem starts_len {i j : Nat} {h g : List UInt8} (e : i + h.length = j + g.length) : ∀ t, starts i h t = starts j g t
  | [] => rfl
  | q :: r => by unfold starts; rw [e]
structure SpO (y : UInt8) (m h : List UInt8) (t : List (List UInt8)) : Prop where
  join : joinY y h t = m
  nou : ∀ p ∈ h :: t, noU y p = true
  oth : ∀ z, noU z m = true → ∀ p ∈ h :: t, noU z p = true
  good : goodP (h :: t)
  last : lastq (h :: t) = tq m
  pos : ∀ i, cutN y i m = starts i h t
theorem good_eq {h g : List UInt8} {t : List (List UInt8)} (e : tq h = tq g) (k : goodP (g :: t)) : goodP (h :: t) := by
  match t, k with
  | [], _ => trivial
  | q :: r, k => exact ⟨e.trans k.1, k.2⟩
theorem lastq_eq {h g : List UInt8} {t : List (List UInt8)} (e : tq h = tq g) : lastq (h :: t) = lastq (g :: t) := by
  match t with
  | [] => exact e
  | q :: r => rfl
theorem split_spec {y : UInt8} (hy : ¬ y.toNat = 63) : ∀ m : List UInt8, SpO y m (splitU y m).1 (splitU y m).2
  | [] => ⟨rfl, by intro p hp; cases List.mem_singleton.1 hp; rfl, by intro z _ p hp; cases List.mem_singleton.1 hp; rfl, trivial, rfl, fun _ => rfl⟩
  | [b] => by
    by_cases hb : b.toNat = 63
    · have e : splitU y [b] = ([b], []) := if_pos hb
      rw [e]
      refine ⟨rfl, ?_, ?_, trivial, rfl, fun i => ?_⟩
      · intro p hp
        cases List.mem_singleton.1 hp
        show (decide (b.toNat = 63) || !decide (b.toNat = y.toNat)) = true
        simp [hb]
      · intro z _ p hp
        cases List.mem_singleton.1 hp
        show (decide (b.toNat = 63) || !decide (b.toNat = z.toNat)) = true
        simp [hb]
      · exact if_pos hb
    · by_cases hy2 : b.toNat = y.toNat
      · have e : splitU y [b] = ([], [[]]) := (if_neg hb).trans (if_pos hy2)
        rw [e]
        have hbe : b = y := UInt8.toNat_inj.1 hy2
        refine ⟨by simp [joinY, hbe], ?_, ?_, ⟨rfl, trivial⟩, ?_, fun i => ?_⟩
        · intro p hp
          have : p = [] := by simpa using hp
          subst this
          rfl
        · intro z _ p hp
          have : p = [] := by simpa using hp
          subst this
          rfl
        · show tq [] = tq [b]
          rw [tq_cons [] hb]
        · exact (if_neg hb).trans (if_pos hy2)
      · have e : splitU y [b] = ([b], []) := (if_neg hb).trans (if_neg hy2)
        rw [e]
        refine ⟨rfl, ?_, ?_, trivial, rfl, fun i => ?_⟩
        · intro p hp
          cases List.mem_singleton.1 hp
          rw [noU_cons [] hb]
          simp [hy2, noU]
        · intro z hz p hp
          cases List.mem_singleton.1 hp
          exact hz
        · exact (if_neg hb).trans (if_neg hy2)
  | b :: c :: r => by
    have i1 := split_spec hy r
    have i2 := split_spec hy (c :: r)
    by_cases hb : b.toNat = 63
    · have e : splitU y (b :: c :: r) = (b :: c :: (splitU y r).1, (splitU y r).2) := if_pos hb
      rw [e]
      refine ⟨?_, ?_, ?_, good_eq (tq_63 _ _ hb) i1.good, ?_, fun i => ?_⟩
      · have := i1.join
        unfold joinY at this ⊢
        simp only [List.cons_append, this]
      · intro p hp
        rcases List.mem_cons.1 hp with rfl | hp
        · rw [noU_63 _ _ hb]; exact i1.nou _ (.head _)
        · exact i1.nou p (.tail _ hp)
      · intro z hz p hp
        rw [noU_63 _ _ hb] at hz
        rcases List.mem_cons.1 hp with rfl | hp
        · rw [noU_63 _ _ hb]; exact i1.oth z hz _ (.head _)
        · exact i1.oth z hz p (.tail _ hp)
      · rw [lastq_eq (tq_63 _ _ hb), i1.last, tq_63 _ _ hb]
      · have : cutN y i (b :: c :: r) = cutN y (i + 1 + 1) r := if_pos hb
        rw [this, i1.pos]
        exact starts_len (by simp only [List.length_cons]; omega) _
    · by_cases hy2 : b.toNat = y.toNat
      · have e : splitU y (b :: c :: r) = ([], (splitU y (c :: r)).1 :: (splitU y (c :: r)).2) := (if_neg hb).trans (if_pos hy2)
        rw [e]
        have hbe : b = y := UInt8.toNat_inj.1 hy2
        refine ⟨?_, ?_, ?_, ⟨rfl, i2.good⟩, ?_, fun i => ?_⟩
        · have := i2.join
          unfold joinY at this ⊢
          simp only [List.nil_append, List.flatMap_cons, List.cons_append, this, hbe]
        · intro p hp
          rcases List.mem_cons.1 hp with rfl | hp
          · rfl
          · exact i2.nou p hp
        · intro z hz p hp
          rw [noU_cons _ hb] at hz
          simp only [Bool.and_eq_true] at hz
          rcases List.mem_cons.1 hp with rfl | hp
          · rfl
          · exact i2.oth z hz.2 p hp
        · rw [tq_cons _ hb]
          exact i2.last
        · have : cutN y i (b :: c :: r) = (i + 1) :: cutN y (i + 1) (c :: r) := (if_neg hb).trans (if_pos hy2)
          rw [this, i2.pos]
          rfl
      · have e : splitU y (b :: c :: r) = (b :: (splitU y (c :: r)).1, (splitU y (c :: r)).2) := (if_neg hb).trans (if_neg hy2)
        rw [e]
        refine ⟨?_, ?_, ?_, good_eq (tq_cons _ hb) i2.good, ?_, fun i => ?_⟩
        · have := i2.join
          unfold joinY at this ⊢
          simp only [List.cons_append, this]
        · intro p hp
          rcases List.mem_cons.1 hp with rfl | hp
          · rw [noU_cons _ hb]
            simp only [Bool.and_eq_true]
            exact ⟨by simp [hy2], i2.nou _ (.head _)⟩
          · exact i2.nou p (.tail _ hp)
        · intro z hz p hp
          rw [noU_cons _ hb] at hz
          simp only [Bool.and_eq_true] at hz
          rcases List.mem_cons.1 hp with rfl | hp
          · rw [noU_cons _ hb]
            simp only [Bool.and_eq_true]
            exact ⟨hz.1, i2.oth z hz.2 _ (.head _)⟩
          · exact i2.oth z hz.2 p (.tail _ hp)
        · rw [lastq_eq (tq_cons _ hb), i2.last, tq_cons _ hb]
        · have : cutN y i (b :: c :: r) = cutN y (i + 1) (c :: r) := (if_neg hb).trans (if_neg hy2)
          rw [this, i2.pos]
          exact starts_len (by simp only [List.length_cons]; omega) _
def compR : Nat → Cmp → List UInt8 → Res Cmp
  | _, c, [] => .ok c
  | i, c, [b] => if may b = false then .bad i 40 else if b.toNat = 63 then .bad i 41 else if 100 ≤ c.length then .bad i 3 else .ok (c ++ [b])
  | i, c, b :: d :: r => if may b = false then .bad i 40 else if b.toNat = 63 then (if (svc d || decide (d.toNat = 32)) = true then (if 100 ≤ c.length then .bad i 3 else compR (i + 2) (c ++ [d]) r) else .bad i 41) else if 100 ≤ c.length then .bad i 3 else compR (i + 1) (c ++ [b]) (d :: r)
def Agr {α : Type} (m : List UInt8) (segs : List Sgm) (x : Res α) (r : Res Sta) (f : α → Sta → Prop) : Prop :=
  match x with
  | .ok a => ∃ s, r = .ok s ∧ f a s ∧ tq m = false
  | .bad p e => r = .bad p e ∨ (tq m = true ∧ e = 41 ∧ ∃ es cs c, r = .ok ⟨segs, .rel p es cs c⟩)
theorem ins_plain {i : Nat} {b : UInt8} {segs : List Sgm} {es : List Elt} {cs : List Cmp} {c : Cmp} (hm : ¬ may b = false) (h63 : ¬ b.toNat = 63) (h43 : ¬ b.toNat = 43) (h58 : ¬ b.toNat = 58) (h39 : ¬ b.toNat = 39) : inside i b segs es cs c = putc i b segs es cs c := by
  unfold inside
  rw [if_neg hm, if_neg h39, if_neg h43, if_neg h58, if_neg h63]
theorem comp_run (segs : List Sgm) (es : List Elt) (cs : List Cmp) : ∀ (m : List UInt8) (i : Nat) (c : Cmp), noU 43 m = true → noU 58 m = true → noU 39 m = true →
    Agr m segs (compR i c m) (runS i m ⟨segs, .ins es cs c⟩) fun c' s => s = ⟨segs, .ins es cs c'⟩
  | [], i, c, _, _, _ => ⟨_, rfl, rfl, rfl⟩
  | [b], i, c, h1, h2, h3 => by
    rw [runS_one]
    show Agr _ _ _ (inside i b segs es cs c) _
    by_cases hm : may b = false
    · have e : compR i c [b] = .bad i 40 := if_pos hm
      rw [e]
      exact .inl (if_pos hm)
    · by_cases h63 : b.toNat = 63
      · have e : compR i c [b] = .bad i 41 := (if_neg hm).trans (if_pos h63)
        rw [e]
        refine .inr ⟨by show decide (b.toNat = 63) = true; simp [h63], rfl, es, cs, c, ?_⟩
        unfold inside
        rw [if_neg hm, if_neg (by omega), if_neg (by omega), if_neg (by omega), if_pos h63]
      · rw [noU_cons _ h63] at h1 h2 h3
        simp only [Bool.and_eq_true, Bool.not_eq_true', decide_eq_false_iff_not] at h1 h2 h3
        rw [ins_plain hm h63 h1.1 h2.1 h3.1]
        by_cases hc : 100 ≤ c.length
        · have e : compR i c [b] = .bad i 3 := (if_neg hm).trans ((if_neg h63).trans (if_pos hc))
          rw [e]
          exact .inl (if_pos hc)
        · have e : compR i c [b] = .ok (c ++ [b]) := (if_neg hm).trans ((if_neg h63).trans (if_neg hc))
          rw [e]
          exact ⟨_, if_neg hc, rfl, by rw [tq_cons _ h63]; rfl⟩
  | b :: d :: r, i, c, h1, h2, h3 => by
    have i1 := comp_run segs es cs r (i + 2)
    have i2 := comp_run segs es cs (d :: r) (i + 1)
    by_cases hm : may b = false
    · have e : compR i c (b :: d :: r) = .bad i 40 := if_pos hm
      rw [e]
      refine .inl ?_
      have hs : step i b ⟨segs, .ins es cs c⟩ = .bad i 40 := if_pos hm
      unfold runS
      rw [hs]
    · by_cases h63 : b.toNat = 63
      · rw [noU_63 _ _ h63] at h1 h2 h3
        have hb : b = 63 := UInt8.toNat_inj.1 (by rw [h63]; rfl)
        subst hb
        have hrun : ∀ s', putc i d segs es cs c = .ok s' → runS i (63 :: d :: r) ⟨segs, .ins es cs c⟩ = runS (i + 2) r s' ∧ (svc d || decide (d.toNat = 32)) = true → runS i (63 :: d :: r) ⟨segs, .ins es cs c⟩ = runS (i + 2) r s' := fun _ _ h => h.1
        by_cases hd : (svc d || decide (d.toNat = 32)) = true
        · by_cases hc : 100 ≤ c.length
          · have e : compR i c (63 :: d :: r) = .bad i 3 := (if_neg hm).trans ((if_pos rfl).trans ((if_pos hd).trans (if_pos hc)))
            rw [e]
            refine .inl ?_
            rw [show (63 :: d :: r : List UInt8) = [63, d] ++ r from rfl, runS_bad]
            rw [run_esc hd]
            exact if_pos hc
          · have e : compR i c (63 :: d :: r) = compR (i + 2) (c ++ [d]) r := (if_neg hm).trans ((if_pos rfl).trans ((if_pos hd).trans (if_neg hc)))
            rw [e]
            have hr : runS i (63 :: d :: r) ⟨segs, .ins es cs c⟩ = runS (i + 2) r ⟨segs, .ins es cs (c ++ [d])⟩ := by
              rw [show (63 :: d :: r : List UInt8) = [63, d] ++ r from rfl, runS_ok (s' := ⟨segs, .ins es cs (c ++ [d])⟩)]
              · rfl
              · rw [run_esc hd]
                exact if_neg hc
            rw [hr]
            have := i1 (c ++ [d]) h1 h2 h3
            unfold Agr at this ⊢
            rw [tq_63 _ _ h63]
            exact this
        · have e : compR i c (63 :: d :: r) = .bad i 41 := (if_neg hm).trans ((if_pos rfl).trans (if_neg hd))
          rw [e]
          refine .inl ?_
          have hs1 : step i 63 ⟨segs, .ins es cs c⟩ = .ok ⟨segs, .rel i es cs c⟩ := rfl
          have hs2 : step (i + 1) d ⟨segs, .rel i es cs c⟩ = .bad i 41 := if_neg hd
          unfold runS
          rw [hs1]
          show runS (i + 1) (d :: r) _ = _
          unfold runS
          rw [hs2]
      · rw [noU_cons _ h63] at h1 h2 h3
        simp only [Bool.and_eq_true, Bool.not_eq_true', decide_eq_false_iff_not] at h1 h2 h3
        have hp := ins_plain (i := i) (segs := segs) (es := es) (cs := cs) (c := c) hm h63 h1.1 h2.1 h3.1
        by_cases hc : 100 ≤ c.length
        · have e : compR i c (b :: d :: r) = .bad i 3 := (if_neg hm).trans ((if_neg h63).trans (if_pos hc))
          rw [e]
          refine .inl ?_
          have hs : step i b ⟨segs, .ins es cs c⟩ = .bad i 3 := hp.trans (if_pos hc)
          unfold runS
          rw [hs]
        · have e : compR i c (b :: d :: r) = compR (i + 1) (c ++ [b]) (d :: r) := (if_neg hm).trans ((if_neg h63).trans (if_neg hc))
          rw [e]
          have hs : step i b ⟨segs, .ins es cs c⟩ = .ok ⟨segs, .ins es cs (c ++ [b])⟩ := hp.trans (if_neg hc)
          have hr : runS i (b :: d :: r) ⟨segs, .ins es cs c⟩ = runS (i + 1) (d :: r) ⟨segs, .ins es cs (c ++ [b])⟩ := by
            rw [show (b :: d :: r : List UInt8) = [b] ++ (d :: r) from rfl, runS_ok (s' := ⟨segs, .ins es cs (c ++ [b])⟩)]
            · rfl
            · rw [runS_one]
              exact hs
          rw [hr]
          have := i2 (c ++ [b]) h1.2 h2.2 h3.2
          unfold Agr at this ⊢
          rw [tq_cons _ h63]
          exact this
end Go.Proofs.Ytppegdbelgobiaa
namespace Go.Proofs.Ytppegdbelgobiaa
open Go Go.RowKit Tw
theorem compR_le : ∀ (m : List UInt8) (i : Nat) (c : Cmp) {c' : Cmp}, compR i c m = .ok c' → c'.length ≤ c.length + m.length
  | [], _, _, _, h => by cases h; exact Nat.le_refl _
  | [b], i, c, c', h => by
    unfold compR at h
    split at h
    · cases h
    · split at h
      · cases h
      · split at h
        · cases h
        · cases h; simp
  | b :: d :: r, i, c, c', h => by
    have i1 := @compR_le r (i + 2) (c ++ [d]) c'
    have i2 := @compR_le (d :: r) (i + 1) (c ++ [b]) c'
    unfold compR at h
    split at h
    · cases h
    · split at h
      · split at h
        · split at h
          · cases h
          · have := i1 h; simp at this ⊢; omega
        · cases h
      · split at h
        · cases h
        · have := i2 h; simp at this ⊢; omega
def elR : Nat → List Cmp → List (List UInt8) → Res Elt
  | _, cs, [] => .ok cs
  | i, cs, m :: r => if 10 ≤ cs.length then .bad (i - 1) 5 else match compR i [] m with
    | .bad p e => .bad p e
    | .ok c => elR (i + m.length + 1) (cs ++ [c]) r
def joinP (y : UInt8) : List (List UInt8) → List UInt8
  | [] => []
  | m :: r => joinY y m r
def elemR (i : Nat) (m : List UInt8) : Res Elt := elR i [] ((splitU 58 m).1 :: (splitU 58 m).2)
def sgR : Nat → List Elt → List (List UInt8) → Res Sgm
  | _, es, [] => .ok es
  | i, es, m :: r => if 30 ≤ es.length then .bad (i - 1) 5 else match elemR i m with
    | .bad p e => .bad p e
    | .ok e => sgR (i + m.length + 1) (es ++ [e]) r
def segR (i : Nat) (m : List UInt8) : Res Sgm := sgR i [] ((splitU 43 m).1 :: (splitU 43 m).2)
def Lst (segs : List Sgm) (es : List Elt) (e : Elt) (s : Sta) : Prop := ∃ cs c, s = ⟨segs, .ins es cs c⟩ ∧ cs ++ [c] = e
theorem tq_app {y : UInt8} (hy : ¬ y.toNat = 63) : ∀ (a b : List UInt8), tq a = false → tq (a ++ y :: b) = tq b
  | [], b, _ => tq_cons b hy
  | [x], b, h => by
    have hx : ¬ x.toNat = 63 := by
      intro e
      rw [show tq [x] = decide (x.toNat = 63) from rfl, e] at h
      cases h
    show tq (x :: y :: b) = _
    rw [tq_cons _ hx, tq_cons _ hy]
  | x :: z :: a, b, h => by
    have i1 := tq_app hy a b
    have i2 := tq_app hy (z :: a) b
    by_cases hx : x.toNat = 63
    · rw [tq_63 _ _ hx] at h
      show tq (x :: z :: (a ++ y :: b)) = _
      rw [tq_63 _ _ hx]
      exact i1 h
    · rw [tq_cons _ hx] at h
      show tq (x :: (z :: a ++ y :: b)) = _
      rw [tq_cons _ hx]
      exact i2 h
theorem agr_bad {α β : Type} {m m' : List UInt8} {segs : List Sgm} {p e : Nat} {r r' : Res Sta} {f : α → Sta → Prop} {g : β → Sta → Prop} (h : Agr m segs (.bad p e) r f) (h1 : ∀ p e, r = .bad p e → r' = .bad p e) (h2 : tq m = true → tq m' = true ∧ r' = r) : Agr m' segs (.bad p e) r' g := by
  rcases h with h | ⟨h, he, x⟩
  · exact .inl (h1 _ _ h)
  · obtain ⟨h3, h4⟩ := h2 h
    exact .inr ⟨h3, he, by rw [h4]; exact x⟩
theorem el_run (segs : List Sgm) (es : List Elt) : ∀ (ps : List (List UInt8)) (m : List UInt8) (i : Nat) (cs : List Cmp), (∀ p ∈ m :: ps, noU 43 p = true ∧ noU 58 p = true ∧ noU 39 p = true) → goodP (m :: ps) → cs.length < 10 →
    Agr (joinY 58 m ps) segs (elR i cs (m :: ps)) (runS i (joinY 58 m ps) ⟨segs, .ins es cs []⟩) (Lst segs es) := by
  intro ps
  induction ps with
  | nil =>
    intro m i cs hn hg hc
    obtain ⟨n1, n2, n3⟩ := hn m (.head _)
    have hj : joinY 58 m [] = m := by simp [joinY]
    have h := comp_run segs es cs m i [] n1 n2 n3
    rw [hj]
    unfold elR
    rw [if_neg (by omega)]
    cases hx : compR i [] m with
    | bad p e =>
      rw [hx] at h
      exact agr_bad h (fun _ _ h => h) (fun h => ⟨h, rfl⟩)
    | ok c =>
      rw [hx] at h
      obtain ⟨s, h1, h2, h3⟩ := h
      exact ⟨s, h1, ⟨cs, c, h2, rfl⟩, h3⟩
  | cons q ps ih =>
    intro m i cs hn hg hc
    obtain ⟨n1, n2, n3⟩ := hn m (.head _)
    obtain ⟨g1, g2⟩ := hg
    have hj : joinY 58 m (q :: ps) = m ++ (58 :: joinY 58 q ps) := by simp [joinY]
    have h := comp_run segs es cs m i [] n1 n2 n3
    rw [hj]
    unfold elR
    rw [if_neg (by omega)]
    cases hx : compR i [] m with
    | bad p e =>
      rw [hx] at h
      refine agr_bad h (fun _ _ h => runS_bad h) (fun h => ?_)
      rw [g1] at h
      cases h
    | ok c =>
      rw [hx] at h
      obtain ⟨s, h1, h2, h3⟩ := h
      subst h2
      rw [runS_ok h1]
      have hstep : step (i + m.length) 58 ⟨segs, .ins es cs c⟩ = if 9 ≤ cs.length then .bad (i + m.length) 5 else .ok ⟨segs, .ins es (cs ++ [c]) []⟩ := rfl
      show Agr _ _ (elR (i + m.length + 1) (cs ++ [c]) (q :: ps)) _ _
      by_cases h9 : 9 ≤ cs.length
      · have e1 : elR (i + m.length + 1) (cs ++ [c]) (q :: ps) = .bad (i + m.length) 5 := by
          unfold elR
          rw [if_pos (by simp; omega)]
          rfl
        rw [e1]
        refine .inl ?_
        rw [if_pos h9] at hstep
        unfold runS
        rw [hstep]
      · rw [if_neg h9] at hstep
        have e2 : runS (i + m.length) (58 :: joinY 58 q ps) ⟨segs, .ins es cs c⟩ = runS (i + m.length + 1) (joinY 58 q ps) ⟨segs, .ins es (cs ++ [c]) []⟩ := by
          rw [show 58 :: joinY 58 q ps = [58] ++ joinY 58 q ps from rfl, runS_ok (s' := ⟨segs, .ins es (cs ++ [c]) []⟩)]
          · rfl
          · rw [runS_one]
            exact hstep
        rw [e2]
        have := ih q (i + m.length + 1) (cs ++ [c]) (fun p hp => hn p (.tail _ hp)) g2 (by simp; omega)
        unfold Agr at this ⊢
        rw [tq_app (by decide) _ _ h3]
        exact this
theorem elem_run (segs : List Sgm) (es : List Elt) (m : List UInt8) (i : Nat) (h43 : noU 43 m = true) (h39 : noU 39 m = true) : Agr m segs (elemR i m) (runS i m ⟨segs, .ins es [] []⟩) (Lst segs es) := by
  have sp := split_spec (y := 58) (by decide) m
  have := el_run segs es (splitU 58 m).2 (splitU 58 m).1 i [] (fun p hp => ⟨sp.oth 43 h43 p hp, sp.nou p hp, sp.oth 39 h39 p hp⟩) sp.good (by simp)
  rwa [sp.join] at this
theorem sg_run (segs : List Sgm) : ∀ (ps : List (List UInt8)) (m : List UInt8) (i : Nat) (es : List Elt), (∀ p ∈ m :: ps, noU 43 p = true ∧ noU 39 p = true) → goodP (m :: ps) → es.length < 30 →
    Agr (joinY 43 m ps) segs (sgR i es (m :: ps)) (runS i (joinY 43 m ps) ⟨segs, .ins es [] []⟩) fun sg s => ∃ es' cs c, s = ⟨segs, .ins es' cs c⟩ ∧ es' ++ [cs ++ [c]] = sg := by
  intro ps
  induction ps with
  | nil =>
    intro m i es hn hg hc
    obtain ⟨n1, n2⟩ := hn m (.head _)
    have hj : joinY 43 m [] = m := by simp [joinY]
    have h := elem_run segs es m i n1 n2
    rw [hj]
    unfold sgR
    rw [if_neg (by omega)]
    cases hx : elemR i m with
    | bad p e =>
      rw [hx] at h
      exact agr_bad h (fun _ _ h => h) (fun h => ⟨h, rfl⟩)
    | ok c =>
      rw [hx] at h
      obtain ⟨s, h1, ⟨cs, c', h2, h2'⟩, h3⟩ := h
      exact ⟨s, h1, ⟨es, cs, c', h2, by rw [h2']⟩, h3⟩
  | cons q ps ih =>
    intro m i es hn hg hc
    obtain ⟨n1, n2⟩ := hn m (.head _)
    obtain ⟨g1, g2⟩ := hg
    have hj : joinY 43 m (q :: ps) = m ++ (43 :: joinY 43 q ps) := by simp [joinY]
    have h := elem_run segs es m i n1 n2
    rw [hj]
    unfold sgR
    rw [if_neg (by omega)]
    cases hx : elemR i m with
    | bad p e =>
      rw [hx] at h
      refine agr_bad h (fun _ _ h => runS_bad h) (fun h => ?_)
      rw [g1] at h
      cases h
    | ok e =>
      rw [hx] at h
      obtain ⟨s, h1, ⟨cs, c, h2, h2'⟩, h3⟩ := h
      subst h2
      rw [runS_ok h1]
      have hstep : step (i + m.length) 43 ⟨segs, .ins es cs c⟩ = if 29 ≤ es.length then .bad (i + m.length) 5 else .ok ⟨segs, .ins (es ++ [cs ++ [c]]) [] []⟩ := rfl
      show Agr _ _ (sgR (i + m.length + 1) (es ++ [e]) (q :: ps)) _ _
      by_cases h9 : 29 ≤ es.length
      · have e1 : sgR (i + m.length + 1) (es ++ [e]) (q :: ps) = .bad (i + m.length) 5 := by
          unfold sgR
          rw [if_pos (by simp; omega)]
          rfl
        rw [e1]
        refine .inl ?_
        rw [if_pos h9] at hstep
        unfold runS
        rw [hstep]
      · rw [if_neg h9] at hstep
        have e2 : runS (i + m.length) (43 :: joinY 43 q ps) ⟨segs, .ins es cs c⟩ = runS (i + m.length + 1) (joinY 43 q ps) ⟨segs, .ins (es ++ [e]) [] []⟩ := by
          rw [show 43 :: joinY 43 q ps = [43] ++ joinY 43 q ps from rfl, runS_ok (s' := ⟨segs, .ins (es ++ [e]) [] []⟩)]
          · rfl
          · rw [runS_one, ← h2']
            exact hstep
        rw [e2]
        have := ih q (i + m.length + 1) (es ++ [e]) (fun p hp => hn p (.tail _ hp)) g2 (by simp; omega)
        unfold Agr at this ⊢
        rw [tq_app (by decide) _ _ h3]
        exact this
theorem seg_run (segs : List Sgm) (m : List UInt8) (i : Nat) (h39 : noU 39 m = true) : Agr m segs (segR i m) (runS i m ⟨segs, .ins [] [] []⟩) fun sg s => ∃ es' cs c, s = ⟨segs, .ins es' cs c⟩ ∧ es' ++ [cs ++ [c]] = sg := by
  have sp := split_spec (y := 43) (by decide) m
  have := sg_run segs (splitU 43 m).2 (splitU 43 m).1 i [] (fun p hp => ⟨sp.nou p hp, sp.oth 39 h39 p hp⟩) sp.good (by simp)
  rwa [sp.join] at this
theorem end_spec : ∀ m : List UInt8, endN m ≤ m.length ∧ noU 39 (m.take (endN m)) = true ∧ (endN m < m.length → (∃ b, m[endN m]? = some b ∧ b.toNat = 39) ∧ tq (m.take (endN m)) = false)
  | [] => ⟨Nat.le_refl _, rfl, fun h => by simp [endN] at h⟩
  | [b] => by
    by_cases h39 : b.toNat = 39
    · have e : endN [b] = 0 := if_pos h39
      rw [e]
      exact ⟨by simp, rfl, fun _ => ⟨⟨b, rfl, h39⟩, rfl⟩⟩
    · have e : endN [b] = 1 := if_neg h39
      rw [e]
      refine ⟨by simp, ?_, fun h => by simp at h⟩
      show (decide (b.toNat = 63) || !decide (b.toNat = 39)) = true
      simp [h39]
  | b :: c :: r => by
    have i1 := end_spec r
    have i2 := end_spec (c :: r)
    by_cases h39 : b.toNat = 39
    · have e : endN (b :: c :: r) = 0 := if_pos h39
      rw [e]
      exact ⟨by simp, rfl, fun _ => ⟨⟨b, rfl, h39⟩, rfl⟩⟩
    · by_cases h63 : b.toNat = 63
      · have e : endN (b :: c :: r) = 2 + endN r := (if_neg h39).trans (if_pos h63)
        rw [e, show 2 + endN r = endN r + 1 + 1 from by omega]
        simp only [List.take_succ_cons, List.length_cons, noU_63 _ _ h63, tq_63 _ _ h63, List.getElem?_cons_succ]
        exact ⟨by have := i1.1; omega, i1.2.1, fun h => i1.2.2 (by omega)⟩
      · have e : endN (b :: c :: r) = 1 + endN (c :: r) := (if_neg h39).trans (if_neg h63)
        rw [e, show 1 + endN (c :: r) = endN (c :: r) + 1 from by omega]
        simp only [List.take_succ_cons, noU_cons _ h63, tq_cons _ h63, List.getElem?_cons_succ]
        refine ⟨by have := i2.1; simp only [List.length_cons] at this ⊢; omega, ?_, fun h => i2.2.2 (by simp only [List.length_cons] at h ⊢; omega)⟩
        rw [i2.2.1]
        simp [h39]
end Go.Proofs.Ytppegdbelgobiaa

import Derived.Test.YtppegdbelgobiaaG00
import Derived.Test.YtppegdbelgobiaaG04
import Derived.Test.YtppegdbelgobiaaG01
import Derived.Deep.Strs
import Derived.JoinedCond
import Derived.Deep.Slices
import Derived.Shelf.Strings.Builder1
import Derived.Shelf.Strings.Builder2
import Derived.Shelf.Strings.BuilderF
import Derived.Shelf.Strings.BuilderK
import Derived.Shelf.Strings.Prefix
import Derived.Shelf.Bits.Mul64
import Derived.Shelf.Strings.Repeat
import Derived.Test.YtppegdbelgobiaaProg
/- LexBackUpto: the law holds for every input; no condition but the row's own. -/
set_option linter.unusedVariables false
set_option linter.unusedSimpArgs false
set_option linter.unusedSectionVars false
/- Lists of lists that came in: they read as given elements. Over any program. -/
namespace Tw
open Go Go.RowKit Go.Proofs.Ytppegdbelgobiaa Go.Deep Go.ChangeShapes Go.WideShapes
section
variable {H : Type} {enc : TypeId × Value → H} {P : Program} {W : World} {base : Nat} {spare : Nat → Bool} {held : Bool}
def Opens {α : Type} (R : World → Value → α → Prop) (enc : TypeId × Value → H) (P : Program) (W : World) (base : Nat) (spare : Nat → Bool) (held : Bool) (t : TypeId) : Prop :=
  ∀ (fuel : Nat) (v : Value) (x : DataW H × List MemPlace), DataW.trod enc P W base spare held fuel t [v] = some x → ∃ y : α, R W v y
theorem opens_str {e : TypeId} (he : P.underlying e = some .string) : Opens StrR enc P W base spare held e := by
  intro fuel v x h
  obtain ⟨s, h1, h2, h3⟩ := DataW.trod_string he h
  have hv : v = .string s := by simpa using h1
  refine ⟨s.data.toList, ?_⟩
  show v = strV s.data.toList
  rw [hv]
  cases s
  simp [strV]
theorem opens_lv {α : Type} [Inhabited α] {R : World → Value → α → Prop} {t e : TypeId} (ht : P.underlying t = some (.slice e)) (hc : P.cellsOf e = 1) (hR : Opens R enc P W base spare held e) : Opens (LV R) enc P W base spare held t := by
  intro fuel v x h
  rcases open_slice1 ht hc h with ⟨hv, _⟩ | ⟨a, len, cap, m, n, V, D, Pl, hv, hb, hl, hm, hmm, _, hx⟩
  · have hv : v = .slice none 0 0 := by simpa using hv
    exact ⟨[], none, 0, hv, [], .inl rfl, rfl, fun k x y h => by simp at h⟩
  · have hv : v = .slice (some a) len cap := by simpa using hv
    have hlm : len ≤ m := by rw [hmm]; split <;> omega
    obtain ⟨Y, hY⟩ := choose_lt (α := α) (p := fun i y => R W (V i) y) (fun i (hi : i < len) => hR n (V i) _ (hx i (by omega)).2)
    refine ⟨(List.range len).map Y, some a, cap, by rw [hv]; simp, (List.range len).map V, ?_, by simp, ?_⟩
    · by_cases h0 : len = 0
      · subst h0
        exact .inl rfl
      · obtain ⟨b, off, spot⟩ := a
        have hc0 := (hx 0 (by omega)).1
        have hspot : spot = none := by simpa [Addr.add] using World.cell?_spot hc0
        subst hspot
        refine .inr ⟨b, off, rfl, ?_, fun i u hu => ?_⟩
        · rw [addr_add] at hc0
          exact World.block_lt_of_cell? _ _ hc0
        · rw [List.getElem?_map] at hu
          have hi : i < len := by
            rcases Nat.lt_or_ge i len with h | h
            · exact h
            · rw [List.getElem?_eq_none (by simpa using h)] at hu
              cases hu
          rw [List.getElem?_range hi] at hu
          cases hu
          have := (hx i (by omega)).1
          rwa [addr_add] at this
    · intro k x' y hx' hy'
      rw [List.getElem?_map] at hx' hy'
      have hi : k < len := by
        rcases Nat.lt_or_ge k len with h | h
        · exact h
        · rw [List.getElem?_eq_none (by simpa using h)] at hx'
          cases hx'
      rw [List.getElem?_range hi] at hx' hy'
      cases hx'
      cases hy'
      exact hY k hi
end
end Tw
namespace Go.Proofs.Ytppegdbelgobiaa
open Go Go.RowKit Tw
theorem last_q {t : List UInt8} {p e : Nat} {x : UInt8} (h : readT t = .bad p e) (hx : t[p]? = some x) (h63 : x.toNat = 63) (hl : t.length < p + 2) (hs : t.length ≤ 2000) : e = 41 := by
  have hp := (List.getElem?_eq_some_iff.1 hx).1
  unfold readT at h
  rw [if_neg (by omega)] at h
  match hr : runS 0 t ⟨[], .out⟩, h with
  | .bad p' e', h =>
    cases h
    obtain ⟨a, y, b, s1, rfl, h1, h2⟩ := run_split t 0 hr
    rw [Nat.zero_add] at h2
    have hc := run_count a 0 h1
    rw [List.length_append, List.length_cons] at hs hl
    obtain ⟨_, ⟨rfl, hn⟩ | ⟨es, cs, c, hm⟩⟩ := step_bad h2
    · have hy : y = x := by simpa using hx
      subst hy
      have hin : ∀ {segs : List Sgm} {es : List Elt} {cs : List Cmp} {c : Cmp}, inside a.length y segs es cs c ≠ .bad a.length e := by
        intro segs es cs c hb
        rw [ins_63 (r := 63) (n := 1) (.inl ⟨h63.symm, rfl, by omega⟩) rfl] at hb
        cases hb
      obtain ⟨segs, md⟩ := s1
      have hc : segs.length ≤ [].length + a.length := hc
      simp only [List.length_nil] at hc
      cases md with
      | out =>
        simp only [step] at h2
        split at h2
        · cases h2
        · split at h2
          · omega
          · exact absurd h2 hin
      | ins es cs c => exact absurd h2 hin
      | rel q es cs c => exact hn.elim
    · obtain ⟨segs, md⟩ := s1
      cases hm
      obtain ⟨a', z, s0, rfl, rfl, _⟩ := run_rel h1
      rw [List.length_append, List.length_singleton] at hl
      omega
  | .ok ⟨segs, .ins es cs c⟩, h => cases h; omega
  | .ok ⟨segs, .rel q es cs c⟩, h => cases h; rfl
theorem run_ne : ∀ (l : List UInt8) (i : Nat) {s : Sta} {p e : Nat}, runS i l s = .bad p e → e ≠ 0 := by
  intro l i s p e h
  obtain ⟨a, x, b, s1, _, _, h3⟩ := run_split l i h
  exact step_ne h3
theorem bad_ne {l : List UInt8} {p e : Nat} (h : readT l = .bad p e) : ¬ e = 0 := by
  unfold readT at h
  split at h
  · cases h; decide
  · match hr : runS 0 l ⟨[], .out⟩, h with
    | .bad p' e', h => cases h; exact run_ne _ _ hr
    | .ok ⟨segs, .ins es cs c⟩, h => cases h; decide
    | .ok ⟨segs, .rel q es cs c⟩, h => cases h; decide
set_option maxRecDepth 100000 in
set_option maxHeartbeats 4000000 in
theorem LexBegins_law (w : World) (t o : List UInt8) : Calls Try.prog 8 #[strV t, strV o] w fun e w' => e = .returned (.bool true) ∧ Below w.heap.size w w' := by
  by_cases hl : 2000 < t.length
  · skip
    go_enter Try.func8, Try.ntmps8
    refine wp_seq ?_
    refine wp_region_L (W0 := w) [] (KS.start w) ?_
    refine lm (v := .bool false) rfl rfl ?_
    refine wpL_done (fun W1 hW1 => ?_)
    refine (show Code.wp _ _ _ _ _ from ?_)
    refine wp_seq ?_
    refine wp_seq ?_
    refine wp_region_L (W0 := w) [] (hW1) ?_
    refine lv (v := .bool true) rfl rfl (yb_call (f := 10) (args := #[]) (fun _ => by kernel_rfl) fun W hW => awake_any W) ?_
    refine lm (v := .bool false) rfl rfl ?_
    refine wpL_done (fun W2 hW2 => ?_)
    refine (show Code.wp _ _ _ _ _ from ?_)
    refine wp_cond_false rfl ?_
    refine wp_skip ?_
    refine (show Code.wp _ _ _ _ _ from ?_)
    refine wp_seq ?_
    refine wp_seq ?_
    refine wp_region_L (W0 := w) [] (hW2) ?_
    refine lm (v := strV t) rfl rfl ?_
    refine lp (v := .int .i64 ((t.length : Nat) : Int)) rfl rfl (run_lenS (l := t) rfl Try.underlying9 (by kernel_rfl)) ?_
    refine lp (v := .bool true) rfl rfl (run_bin rfl (vx := (.int .i64 ((t.length : Nat) : Int))) (vy := (.int .i64 ((2000 : Nat) : Int))) (by kernel_rfl) (by kernel_rfl) fun w => bn_gtr (decide_eq_true hl) w) ?_
    refine lm (v := .bool true) rfl rfl ?_
    refine ln rfl ?_
    refine ln rfl ?_
    refine ln rfl ?_
    refine lm (v := .bool true) rfl rfl ?_
    refine wpL_done (fun W3 hW3 => ?_)
    refine (show Code.wp _ _ _ _ _ from ?_)
    refine wp_cond_true rfl ?_
    refine wp_seq ?_
    refine wp_region_L (W0 := w) [] (hW3) ?_
    refine lm (v := .bool true) rfl rfl ?_
    refine wpL_done (fun W4 hW4 => ?_)
    refine (show Code.wp _ _ _ _ _ from ?_)
    refine wp_ret ?_
    try simp only [inBlock_ret, then_ret]
    refine bodyPost_ret (v := .bool true) ?_ rfl ?_
    · kernel_rfl
    · exact ⟨rfl, (hW4).1⟩
  by_cases hl2 : 2000 < o.length
  · skip
    go_enter Try.func8, Try.ntmps8
    refine wp_seq ?_
    refine wp_region_L (W0 := w) [] (KS.start w) ?_
    refine lm (v := .bool false) rfl rfl ?_
    refine wpL_done (fun W1 hW1 => ?_)
    refine (show Code.wp _ _ _ _ _ from ?_)
    refine wp_seq ?_
    refine wp_seq ?_
    refine wp_region_L (W0 := w) [] (hW1) ?_
    refine lv (v := .bool true) rfl rfl (yb_call (f := 10) (args := #[]) (fun _ => by kernel_rfl) fun W hW => awake_any W) ?_
    refine lm (v := .bool false) rfl rfl ?_
    refine wpL_done (fun W2 hW2 => ?_)
    refine (show Code.wp _ _ _ _ _ from ?_)
    refine wp_cond_false rfl ?_
    refine wp_skip ?_
    refine (show Code.wp _ _ _ _ _ from ?_)
    refine wp_seq ?_
    refine wp_seq ?_
    refine wp_region_L (W0 := w) [] (hW2) ?_
    refine lm (v := strV t) rfl rfl ?_
    refine lp (v := .int .i64 ((t.length : Nat) : Int)) rfl rfl (run_lenS (l := t) rfl Try.underlying9 (by kernel_rfl)) ?_
    refine lp (v := .bool false) rfl rfl (run_bin rfl (vx := (.int .i64 ((t.length : Nat) : Int))) (vy := (.int .i64 ((2000 : Nat) : Int))) (by kernel_rfl) (by kernel_rfl) fun w => bn_gtr (decide_eq_false hl) w) ?_
    refine lm (v := .bool false) rfl rfl ?_
    refine lm (v := strV o) rfl rfl ?_
    refine lp (v := .int .i64 ((o.length : Nat) : Int)) rfl rfl (run_lenS (l := o) rfl Try.underlying9 (by kernel_rfl)) ?_
    refine lp (v := .bool true) rfl rfl (run_bin rfl (vx := (.int .i64 ((o.length : Nat) : Int))) (vy := (.int .i64 ((2000 : Nat) : Int))) (by kernel_rfl) (by kernel_rfl) fun w => bn_gtr (decide_eq_true hl2) w) ?_
    refine lm (v := .bool true) rfl rfl ?_
    refine wpL_done (fun W3 hW3 => ?_)
    refine (show Code.wp _ _ _ _ _ from ?_)
    refine wp_cond_true rfl ?_
    refine wp_seq ?_
    refine wp_region_L (W0 := w) [] (hW3) ?_
    refine lm (v := .bool true) rfl rfl ?_
    refine wpL_done (fun W4 hW4 => ?_)
    refine (show Code.wp _ _ _ _ _ from ?_)
    refine wp_ret ?_
    try simp only [inBlock_ret, then_ret]
    refine bodyPost_ret (v := .bool true) ?_ rfl ?_
    · kernel_rfl
    · exact ⟨rfl, (hW4).1⟩
  cases hr : readT t with
  | ok A0 =>
    go_enter Try.func8, Try.ntmps8
    refine wp_seq ?_
    refine wp_region_L (W0 := w) [] (KS.start w) ?_
    refine lm (v := .bool false) rfl rfl ?_
    refine wpL_done (fun W1 hW1 => ?_)
    refine (show Code.wp _ _ _ _ _ from ?_)
    refine wp_seq ?_
    refine wp_seq ?_
    refine wp_region_L (W0 := w) [] (hW1) ?_
    refine lv (v := .bool true) rfl rfl (yb_call (f := 10) (args := #[]) (fun _ => by kernel_rfl) fun W hW => awake_any W) ?_
    refine lm (v := .bool false) rfl rfl ?_
    refine wpL_done (fun W2 hW2 => ?_)
    refine (show Code.wp _ _ _ _ _ from ?_)
    refine wp_cond_false rfl ?_
    refine wp_skip ?_
    refine (show Code.wp _ _ _ _ _ from ?_)
    refine wp_seq ?_
    refine wp_seq ?_
    refine wp_region_L (W0 := w) [] (hW2) ?_
    refine lm (v := strV t) rfl rfl ?_
    refine lp (v := .int .i64 ((t.length : Nat) : Int)) rfl rfl (run_lenS (l := t) rfl Try.underlying9 (by kernel_rfl)) ?_
    refine lp (v := .bool false) rfl rfl (run_bin rfl (vx := (.int .i64 ((t.length : Nat) : Int))) (vy := (.int .i64 ((2000 : Nat) : Int))) (by kernel_rfl) (by kernel_rfl) fun w => bn_gtr (decide_eq_false hl) w) ?_
    refine lm (v := .bool false) rfl rfl ?_
    refine lm (v := strV o) rfl rfl ?_
    refine lp (v := .int .i64 ((o.length : Nat) : Int)) rfl rfl (run_lenS (l := o) rfl Try.underlying9 (by kernel_rfl)) ?_
    refine lp (v := .bool false) rfl rfl (run_bin rfl (vx := (.int .i64 ((o.length : Nat) : Int))) (vy := (.int .i64 ((2000 : Nat) : Int))) (by kernel_rfl) (by kernel_rfl) fun w => bn_gtr (decide_eq_false hl2) w) ?_
    refine lm (v := .bool false) rfl rfl ?_
    refine wpL_done (fun W3 hW3 => ?_)
    refine (show Code.wp _ _ _ _ _ from ?_)
    refine wp_cond_false rfl ?_
    refine wp_skip ?_
    refine (show Code.wp _ _ _ _ _ from ?_)
    refine wp_seq ?_
    refine wp_region_L (W0 := w) [] (hW3) ?_
    refine lm (v := strV t) rfl rfl ?_
    refine wpL_c (f := 15) (args := #[strV t]) (RdK w A0) rfl (by kernel_rfl) (fun _ => (by kernel_rfl)) (fun W hW => Read_ok hr (by first | omega | (simp only [List.length_append, List.length_cons, List.length_nil]; omega)) W (hW.sub (fun _ h => by cases h))) (fun _ => by simp only [List.setIfInBounds_toArray, List.set_cons_succ, List.set_cons_zero] <;> rfl) ?_
    rintro _ T1 ⟨p1, c1, rfl, M1⟩
    refine lm (v := .tuple #[.slice p1 A0.length c1, .int .i64 0, .int .i64 0]) rfl rfl ?_
    refine lm (v := .slice p1 A0.length c1) rfl rfl ?_
    refine lm (v := .int .i64 0) rfl rfl ?_
    refine lm (v := .int .i64 0) rfl rfl ?_
    refine lm (v := .slice p1 A0.length c1) rfl rfl ?_
    refine lm (v := .int .i64 0) rfl rfl ?_
    refine lm (v := .int .i64 0) rfl rfl ?_
    refine wpL_done (fun W4 hW4 => ?_)
    have HB3 := Lib.hid ((lv_lvp ((sgo_sgr M1) W4 ((hW4).sub (fun p hp => by first | exact hp | (simp only [List.mem_cons, List.mem_append, List.nil_append, List.not_mem_nil, or_assoc, or_false, false_or, List.cons_append, List.append_assoc] at hp ⊢ <;> grind))))))
    have hbz2 : Below w.heap.size w W4 := (hW4).1
    refine (show Code.wp _ _ _ _ _ from ?_)
    refine wp_seq ?_
    refine wp_seq ?_
    refine wp_region_L (W0 := W4) [] (KS.start W4) ?_
    refine lm (v := .int .i64 0) rfl rfl ?_
    refine lm (v := .bool true) rfl rfl ?_
    refine lm (v := .bool true) rfl rfl ?_
    refine ln rfl ?_
    refine ln rfl ?_
    refine lm (v := .bool true) rfl rfl ?_
    refine wpL_done (fun W5 hW5 => ?_)
    refine (show Code.wp _ _ _ _ _ from ?_)
    refine wp_cond_true rfl ?_
    refine wp_seq ?_
    refine wp_region_L (W0 := W4) [] (hW5) ?_
    refine lm (v := .bool true) rfl rfl ?_
    refine wpL_done (fun W6 hW6 => ?_)
    refine (show Code.wp _ _ _ _ _ from ?_)
    refine wp_ret ?_
    try simp only [inBlock_ret, then_ret]
    refine bodyPost_ret (v := .bool true) ?_ rfl ?_
    · kernel_rfl
    · exact ⟨rfl, (Below.trans hbz2 (Below.mono (hW6).1 hbz2.size))⟩
  | bad p er =>
    have hp := read_where hr (by omega)
    have hne : ¬ er = 0 := bad_ne hr
    by_cases h42 : er = 42
    · skip
      go_enter Try.func8, Try.ntmps8
      refine wp_seq ?_
      refine wp_region_L (W0 := w) [] (KS.start w) ?_
      refine lm (v := .bool false) rfl rfl ?_
      refine wpL_done (fun W1 hW1 => ?_)
      refine (show Code.wp _ _ _ _ _ from ?_)
      refine wp_seq ?_
      refine wp_seq ?_
      refine wp_region_L (W0 := w) [] (hW1) ?_
      refine lv (v := .bool true) rfl rfl (yb_call (f := 10) (args := #[]) (fun _ => by kernel_rfl) fun W hW => awake_any W) ?_
      refine lm (v := .bool false) rfl rfl ?_
      refine wpL_done (fun W2 hW2 => ?_)
      refine (show Code.wp _ _ _ _ _ from ?_)
      refine wp_cond_false rfl ?_
      refine wp_skip ?_
      refine (show Code.wp _ _ _ _ _ from ?_)
      refine wp_seq ?_
      refine wp_seq ?_
      refine wp_region_L (W0 := w) [] (hW2) ?_
      refine lm (v := strV t) rfl rfl ?_
      refine lp (v := .int .i64 ((t.length : Nat) : Int)) rfl rfl (run_lenS (l := t) rfl Try.underlying9 (by kernel_rfl)) ?_
      refine lp (v := .bool false) rfl rfl (run_bin rfl (vx := (.int .i64 ((t.length : Nat) : Int))) (vy := (.int .i64 ((2000 : Nat) : Int))) (by kernel_rfl) (by kernel_rfl) fun w => bn_gtr (decide_eq_false hl) w) ?_
      refine lm (v := .bool false) rfl rfl ?_
      refine lm (v := strV o) rfl rfl ?_
      refine lp (v := .int .i64 ((o.length : Nat) : Int)) rfl rfl (run_lenS (l := o) rfl Try.underlying9 (by kernel_rfl)) ?_
      refine lp (v := .bool false) rfl rfl (run_bin rfl (vx := (.int .i64 ((o.length : Nat) : Int))) (vy := (.int .i64 ((2000 : Nat) : Int))) (by kernel_rfl) (by kernel_rfl) fun w => bn_gtr (decide_eq_false hl2) w) ?_
      refine lm (v := .bool false) rfl rfl ?_
      refine wpL_done (fun W3 hW3 => ?_)
      refine (show Code.wp _ _ _ _ _ from ?_)
      refine wp_cond_false rfl ?_
      refine wp_skip ?_
      refine (show Code.wp _ _ _ _ _ from ?_)
      refine wp_seq ?_
      refine wp_region_L (W0 := w) [] (hW3) ?_
      refine lm (v := strV t) rfl rfl ?_
      refine wpL_c (f := 15) (args := #[strV t]) (fun v Tz => v = .tuple #[.slice none 0 0, .int .i64 ((p : Nat) : Int), .int .i64 ((er : Nat) : Int)] ∧ Tz = []) rfl (by kernel_rfl) (fun _ => (by kernel_rfl)) (fun W hW => Read_bad hr (by first | omega | (simp only [List.length_append, List.length_cons, List.length_nil]; omega)) W (hW.sub (fun _ h => by cases h))) (fun _ => by simp only [List.setIfInBounds_toArray, List.set_cons_succ, List.set_cons_zero] <;> rfl) ?_
      rintro _ _ ⟨rfl, rfl⟩
      refine lm (v := .tuple #[.slice none 0 0, .int .i64 ((p : Nat) : Int), .int .i64 ((er : Nat) : Int)]) rfl rfl ?_
      refine lm (v := .slice none 0 0) rfl rfl ?_
      refine lm (v := .int .i64 ((p : Nat) : Int)) rfl rfl ?_
      refine lm (v := .int .i64 ((er : Nat) : Int)) rfl rfl ?_
      refine lm (v := .slice none 0 0) rfl rfl ?_
      refine lm (v := .int .i64 ((p : Nat) : Int)) rfl rfl ?_
      refine lm (v := .int .i64 ((er : Nat) : Int)) rfl rfl ?_
      refine wpL_done (fun W4 hW4 => ?_)
      refine (show Code.wp _ _ _ _ _ from ?_)
      refine wp_seq ?_
      refine wp_seq ?_
      refine wp_region_L (W0 := w) [] (hW4) ?_
      refine lm (v := .int .i64 ((er : Nat) : Int)) rfl rfl ?_
      refine lp (v := .bool false) rfl rfl (run_bin rfl (vx := (.int .i64 ((er : Nat) : Int))) (vy := (.int .i64 ((0 : Nat) : Int))) (by kernel_rfl) (by kernel_rfl) fun w => bn_eql (decide_eq_false hne) w) ?_
      refine lm (v := .bool false) rfl rfl ?_
      refine lm (v := .int .i64 ((er : Nat) : Int)) rfl rfl ?_
      refine lp (v := .bool true) rfl rfl (run_bin rfl (vx := (.int .i64 ((er : Nat) : Int))) (vy := (.int .i64 ((42 : Nat) : Int))) (by kernel_rfl) (by kernel_rfl) fun w => bn_eql (decide_eq_true h42) w) ?_
      refine lm (v := .bool true) rfl rfl ?_
      refine wpL_done (fun W5 hW5 => ?_)
      refine (show Code.wp _ _ _ _ _ from ?_)
      refine wp_cond_true rfl ?_
      refine wp_seq ?_
      refine wp_region_L (W0 := w) [] (hW5) ?_
      refine lm (v := .bool true) rfl rfl ?_
      refine wpL_done (fun W6 hW6 => ?_)
      refine (show Code.wp _ _ _ _ _ from ?_)
      refine wp_ret ?_
      try simp only [inBlock_ret, then_ret]
      refine bodyPost_ret (v := .bool true) ?_ rfl ?_
      · kernel_rfl
      · exact ⟨rfl, (hW6).1⟩
    obtain ⟨x, hx, h1, h2⟩ := read_first hr (by omega) h42
    have hpl := (List.getElem?_eq_some_iff.1 hx).1
    have h1 : ∃ A1, readT (t.take p) = .ok A1 ∨ readT (t.take p) = .bad p 42 := by
      rcases h1 with ⟨A1, h⟩ | h
      · exact ⟨A1, .inl h⟩
      · exact ⟨[], .inr h⟩
    obtain ⟨A1, h1⟩ := h1
    have ltp : (t.take p).length = p := by rw [List.length_take]; omega
    have lt2 : (t.take (p + 2)).length ≤ t.length := by rw [List.length_take]; omega
    have lt1 : (t.take (p + 1)).length ≤ t.length := by rw [List.length_take]; omega
    rcases h1 with h1 | h1
    · skip
      by_cases h63 : x.toNat = 63
      · rcases h2 with ⟨_, he, hend⟩ | h2
        · skip
          go_enter Try.func8, Try.ntmps8
          refine wp_seq ?_
          refine wp_region_L (W0 := w) [] (KS.start w) ?_
          refine lm (v := .bool false) rfl rfl ?_
          refine wpL_done (fun W1 hW1 => ?_)
          refine (show Code.wp _ _ _ _ _ from ?_)
          refine wp_seq ?_
          refine wp_seq ?_
          refine wp_region_L (W0 := w) [] (hW1) ?_
          refine lv (v := .bool true) rfl rfl (yb_call (f := 10) (args := #[]) (fun _ => by kernel_rfl) fun W hW => awake_any W) ?_
          refine lm (v := .bool false) rfl rfl ?_
          refine wpL_done (fun W2 hW2 => ?_)
          refine (show Code.wp _ _ _ _ _ from ?_)
          refine wp_cond_false rfl ?_
          refine wp_skip ?_
          refine (show Code.wp _ _ _ _ _ from ?_)
          refine wp_seq ?_
          refine wp_seq ?_
          refine wp_region_L (W0 := w) [] (hW2) ?_
          refine lm (v := strV t) rfl rfl ?_
          refine lp (v := .int .i64 ((t.length : Nat) : Int)) rfl rfl (run_lenS (l := t) rfl Try.underlying9 (by kernel_rfl)) ?_
          refine lp (v := .bool false) rfl rfl (run_bin rfl (vx := (.int .i64 ((t.length : Nat) : Int))) (vy := (.int .i64 ((2000 : Nat) : Int))) (by kernel_rfl) (by kernel_rfl) fun w => bn_gtr (decide_eq_false hl) w) ?_
          refine lm (v := .bool false) rfl rfl ?_
          refine lm (v := strV o) rfl rfl ?_
          refine lp (v := .int .i64 ((o.length : Nat) : Int)) rfl rfl (run_lenS (l := o) rfl Try.underlying9 (by kernel_rfl)) ?_
          refine lp (v := .bool false) rfl rfl (run_bin rfl (vx := (.int .i64 ((o.length : Nat) : Int))) (vy := (.int .i64 ((2000 : Nat) : Int))) (by kernel_rfl) (by kernel_rfl) fun w => bn_gtr (decide_eq_false hl2) w) ?_
          refine lm (v := .bool false) rfl rfl ?_
          refine wpL_done (fun W3 hW3 => ?_)
          refine (show Code.wp _ _ _ _ _ from ?_)
          refine wp_cond_false rfl ?_
          refine wp_skip ?_
          refine (show Code.wp _ _ _ _ _ from ?_)
          refine wp_seq ?_
          refine wp_region_L (W0 := w) [] (hW3) ?_
          refine lm (v := strV t) rfl rfl ?_
          refine wpL_c (f := 15) (args := #[strV t]) (fun v Tz => v = .tuple #[.slice none 0 0, .int .i64 ((p : Nat) : Int), .int .i64 ((er : Nat) : Int)] ∧ Tz = []) rfl (by kernel_rfl) (fun _ => (by kernel_rfl)) (fun W hW => Read_bad hr (by first | omega | (simp only [List.length_append, List.length_cons, List.length_nil]; omega)) W (hW.sub (fun _ h => by cases h))) (fun _ => by simp only [List.setIfInBounds_toArray, List.set_cons_succ, List.set_cons_zero] <;> rfl) ?_
          rintro _ _ ⟨rfl, rfl⟩
          refine lm (v := .tuple #[.slice none 0 0, .int .i64 ((p : Nat) : Int), .int .i64 ((er : Nat) : Int)]) rfl rfl ?_
          refine lm (v := .slice none 0 0) rfl rfl ?_
          refine lm (v := .int .i64 ((p : Nat) : Int)) rfl rfl ?_
          refine lm (v := .int .i64 ((er : Nat) : Int)) rfl rfl ?_
          refine lm (v := .slice none 0 0) rfl rfl ?_
          refine lm (v := .int .i64 ((p : Nat) : Int)) rfl rfl ?_
          refine lm (v := .int .i64 ((er : Nat) : Int)) rfl rfl ?_
          refine wpL_done (fun W4 hW4 => ?_)
          refine (show Code.wp _ _ _ _ _ from ?_)
          refine wp_seq ?_
          refine wp_seq ?_
          refine wp_region_L (W0 := w) [] (hW4) ?_
          refine lm (v := .int .i64 ((er : Nat) : Int)) rfl rfl ?_
          refine lp (v := .bool false) rfl rfl (run_bin rfl (vx := (.int .i64 ((er : Nat) : Int))) (vy := (.int .i64 ((0 : Nat) : Int))) (by kernel_rfl) (by kernel_rfl) fun w => bn_eql (decide_eq_false hne) w) ?_
          refine lm (v := .bool false) rfl rfl ?_
          refine lm (v := .int .i64 ((er : Nat) : Int)) rfl rfl ?_
          refine lp (v := .bool false) rfl rfl (run_bin rfl (vx := (.int .i64 ((er : Nat) : Int))) (vy := (.int .i64 ((42 : Nat) : Int))) (by kernel_rfl) (by kernel_rfl) fun w => bn_eql (decide_eq_false h42) w) ?_
          refine lm (v := .bool false) rfl rfl ?_
          refine wpL_done (fun W5 hW5 => ?_)
          refine (show Code.wp _ _ _ _ _ from ?_)
          refine wp_cond_false rfl ?_
          refine wp_skip ?_
          refine (show Code.wp _ _ _ _ _ from ?_)
          refine wp_seq ?_
          refine wp_region_L (W0 := w) [] (hW5) ?_
          refine lm (v := strV t) rfl rfl ?_
          refine lm (v := .int .i64 ((p : Nat) : Int)) rfl rfl ?_
          refine lp (v := strV (t.take p)) rfl rfl (run_slH (k2 := .i64) (l := t) (r := (t.take p)) (j := p) rfl Try.underlying9 (by kernel_rfl) (by kernel_rfl) (by omega) rfl) ?_
          refine wpL_c (f := 15) (args := #[strV (t.take p)]) (RdK w A1) rfl (by kernel_rfl) (fun _ => (by kernel_rfl)) (fun W hW => Read_ok h1 (by omega) W (hW.sub (fun _ h => by cases h))) (fun _ => by simp only [List.setIfInBounds_toArray, List.set_cons_succ, List.set_cons_zero] <;> rfl) ?_
          rintro _ T2 ⟨p2, c2, rfl, M2⟩
          refine lm (v := .tuple #[.slice p2 A1.length c2, .int .i64 0, .int .i64 0]) rfl rfl ?_
          refine lm (v := .slice p2 A1.length c2) rfl rfl ?_
          refine lm (v := .int .i64 0) rfl rfl ?_
          refine lm (v := .int .i64 0) rfl rfl ?_
          refine lm (v := .slice p2 A1.length c2) rfl rfl ?_
          refine lm (v := .int .i64 0) rfl rfl ?_
          refine lm (v := .int .i64 0) rfl rfl ?_
          refine wpL_done (fun W6 hW6 => ?_)
          have HB4 := Lib.hid ((lv_lvp ((sgo_sgr M2) W6 ((hW6).sub (fun p hp => by first | exact hp | (simp only [List.mem_cons, List.mem_append, List.nil_append, List.not_mem_nil, or_assoc, or_false, false_or, List.cons_append, List.append_assoc] at hp ⊢ <;> grind))))))
          have hbz3 : Below w.heap.size w W6 := (hW6).1
          refine (show Code.wp _ _ _ _ _ from ?_)
          refine wp_seq ?_
          refine wp_seq ?_
          refine wp_region_L (W0 := W6) [] (KS.start W6) ?_
          refine lm (v := .int .i64 0) rfl rfl ?_
          refine lm (v := .bool false) rfl rfl ?_
          refine lm (v := .bool false) rfl rfl ?_
          refine ln rfl ?_
          refine ln rfl ?_
          refine ln rfl ?_
          refine ln rfl ?_
          refine ln rfl ?_
          refine ln rfl ?_
          refine ln rfl ?_
          refine lm (v := .bool false) rfl rfl ?_
          refine wpL_done (fun W7 hW7 => ?_)
          refine (show Code.wp _ _ _ _ _ from ?_)
          refine wp_cond_false rfl ?_
          refine wp_skip ?_
          refine (show Code.wp _ _ _ _ _ from ?_)
          refine wp_seq ?_
          refine wp_region_L (W0 := W6) [] (hW7) ?_
          refine lm (v := .int .i64 ((p : Nat) : Int)) rfl rfl ?_
          refine lp (v := .int .i64 (((p + 1) : Nat) : Int)) rfl rfl (run_bin rfl (vx := (.int .i64 ((p : Nat) : Int))) (vy := (.int .i64 ((1 : Nat) : Int))) (by kernel_rfl) (by kernel_rfl) fun w => bn_add (z := (p + 1)) rfl (wr_i64 (by omega)) w) ?_
          refine lm (v := .int .i64 (((p + 1) : Nat) : Int)) rfl rfl ?_
          refine wpL_done (fun W8 hW8 => ?_)
          refine (show Code.wp _ _ _ _ _ from ?_)
          refine wp_seq ?_
          refine wp_seq ?_
          refine wp_region_L (W0 := W6) [] (hW8) ?_
          refine lm (v := strV t) rfl rfl ?_
          refine lm (v := .int .i64 ((p : Nat) : Int)) rfl rfl ?_
          refine lp (v := .int .u8 ((x.toNat : Nat) : Int)) rfl rfl (run_idxS (j := .i64) (l := t) (k := p) (b := x) rfl Try.underlying9 (by kernel_rfl) (by kernel_rfl) hx) ?_
          refine lp (v := .bool true) rfl rfl (run_bin rfl (vx := (.int .u8 ((x.toNat : Nat) : Int))) (vy := (.int .u8 ((63 : Nat) : Int))) (by kernel_rfl) (by kernel_rfl) fun w => bn_eql (decide_eq_true h63) w) ?_
          refine wpL_done (fun W9 hW9 => ?_)
          refine (show Code.wp _ _ _ _ _ from ?_)
          refine wp_cond_true rfl ?_
          refine wp_region_L (W0 := W6) [] (hW9) ?_
          refine lm (v := .int .i64 ((p : Nat) : Int)) rfl rfl ?_
          refine lp (v := .int .i64 (((p + 2) : Nat) : Int)) rfl rfl (run_bin rfl (vx := (.int .i64 ((p : Nat) : Int))) (vy := (.int .i64 ((2 : Nat) : Int))) (by kernel_rfl) (by kernel_rfl) fun w => bn_add (z := (p + 2)) rfl (wr_i64 (by omega)) w) ?_
          refine lm (v := strV t) rfl rfl ?_
          refine lp (v := .int .i64 ((t.length : Nat) : Int)) rfl rfl (run_lenS (l := t) rfl Try.underlying9 (by kernel_rfl)) ?_
          refine lp (v := .int .i64 ((t.length : Nat) : Int)) rfl rfl (run_minR (k := .i64) (k2 := .i64) (u := (((p + 2) : Nat) : Int)) (v := ((t.length : Nat) : Int)) rfl (by kernel_rfl) (by kernel_rfl) (by rw [if_pos (by omega)])) ?_
          refine lm (v := .int .i64 ((t.length : Nat) : Int)) rfl rfl ?_
          refine wpL_done (fun W10 hW10 => ?_)
          refine (show Code.wp _ _ _ _ _ from ?_)
          refine wp_seq ?_
          refine wp_seq ?_
          refine wp_region_L (W0 := W6) [] (hW10) ?_
          refine lm (v := .int .i64 ((er : Nat) : Int)) rfl rfl ?_
          refine lp (v := .bool true) rfl rfl (run_bin rfl (vx := (.int .i64 ((er : Nat) : Int))) (vy := (.int .i64 ((41 : Nat) : Int))) (by kernel_rfl) (by kernel_rfl) fun w => bn_eql (decide_eq_true he) w) ?_
          refine lm (v := .bool true) rfl rfl ?_
          refine lm (v := .int .i64 ((t.length : Nat) : Int)) rfl rfl ?_
          refine lm (v := .int .i64 ((p : Nat) : Int)) rfl rfl ?_
          refine lp (v := .int .i64 (((p + 1) : Nat) : Int)) rfl rfl (run_bin rfl (vx := (.int .i64 ((p : Nat) : Int))) (vy := (.int .i64 ((1 : Nat) : Int))) (by kernel_rfl) (by kernel_rfl) fun w => bn_add (z := (p + 1)) rfl (wr_i64 (by omega)) w) ?_
          refine lp (v := .bool true) rfl rfl (run_bin rfl (vx := (.int .i64 ((t.length : Nat) : Int))) (vy := (.int .i64 (((p + 1) : Nat) : Int))) (by kernel_rfl) (by kernel_rfl) fun w => bn_eql (decide_eq_true hend.symm) w) ?_
          refine lm (v := .bool true) rfl rfl ?_
          refine wpL_done (fun W11 hW11 => ?_)
          refine (show Code.wp _ _ _ _ _ from ?_)
          refine wp_cond_true rfl ?_
          refine wp_seq ?_
          refine wp_region_L (W0 := W6) [] (hW11) ?_
          refine lm (v := .bool true) rfl rfl ?_
          refine wpL_done (fun W12 hW12 => ?_)
          refine (show Code.wp _ _ _ _ _ from ?_)
          refine wp_ret ?_
          try simp only [inBlock_ret, then_ret]
          refine bodyPost_ret (v := .bool true) ?_ rfl ?_
          · kernel_rfl
          · exact ⟨rfl, (Below.trans hbz3 (Below.mono (hW12).1 hbz3.size))⟩
        by_cases hend : t.length < p + 2
        · by_cases he : er = 41
          · skip
            go_enter Try.func8, Try.ntmps8
            refine wp_seq ?_
            refine wp_region_L (W0 := w) [] (KS.start w) ?_
            refine lm (v := .bool false) rfl rfl ?_
            refine wpL_done (fun W1 hW1 => ?_)
            refine (show Code.wp _ _ _ _ _ from ?_)
            refine wp_seq ?_
            refine wp_seq ?_
            refine wp_region_L (W0 := w) [] (hW1) ?_
            refine lv (v := .bool true) rfl rfl (yb_call (f := 10) (args := #[]) (fun _ => by kernel_rfl) fun W hW => awake_any W) ?_
            refine lm (v := .bool false) rfl rfl ?_
            refine wpL_done (fun W2 hW2 => ?_)
            refine (show Code.wp _ _ _ _ _ from ?_)
            refine wp_cond_false rfl ?_
            refine wp_skip ?_
            refine (show Code.wp _ _ _ _ _ from ?_)
            refine wp_seq ?_
            refine wp_seq ?_
            refine wp_region_L (W0 := w) [] (hW2) ?_
            refine lm (v := strV t) rfl rfl ?_
            refine lp (v := .int .i64 ((t.length : Nat) : Int)) rfl rfl (run_lenS (l := t) rfl Try.underlying9 (by kernel_rfl)) ?_
            refine lp (v := .bool false) rfl rfl (run_bin rfl (vx := (.int .i64 ((t.length : Nat) : Int))) (vy := (.int .i64 ((2000 : Nat) : Int))) (by kernel_rfl) (by kernel_rfl) fun w => bn_gtr (decide_eq_false hl) w) ?_
            refine lm (v := .bool false) rfl rfl ?_
            refine lm (v := strV o) rfl rfl ?_
            refine lp (v := .int .i64 ((o.length : Nat) : Int)) rfl rfl (run_lenS (l := o) rfl Try.underlying9 (by kernel_rfl)) ?_
            refine lp (v := .bool false) rfl rfl (run_bin rfl (vx := (.int .i64 ((o.length : Nat) : Int))) (vy := (.int .i64 ((2000 : Nat) : Int))) (by kernel_rfl) (by kernel_rfl) fun w => bn_gtr (decide_eq_false hl2) w) ?_
            refine lm (v := .bool false) rfl rfl ?_
            refine wpL_done (fun W3 hW3 => ?_)
            refine (show Code.wp _ _ _ _ _ from ?_)
            refine wp_cond_false rfl ?_
            refine wp_skip ?_
            refine (show Code.wp _ _ _ _ _ from ?_)
            refine wp_seq ?_
            refine wp_region_L (W0 := w) [] (hW3) ?_
            refine lm (v := strV t) rfl rfl ?_
            refine wpL_c (f := 15) (args := #[strV t]) (fun v Tz => v = .tuple #[.slice none 0 0, .int .i64 ((p : Nat) : Int), .int .i64 ((er : Nat) : Int)] ∧ Tz = []) rfl (by kernel_rfl) (fun _ => (by kernel_rfl)) (fun W hW => Read_bad hr (by first | omega | (simp only [List.length_append, List.length_cons, List.length_nil]; omega)) W (hW.sub (fun _ h => by cases h))) (fun _ => by simp only [List.setIfInBounds_toArray, List.set_cons_succ, List.set_cons_zero] <;> rfl) ?_
            rintro _ _ ⟨rfl, rfl⟩
            refine lm (v := .tuple #[.slice none 0 0, .int .i64 ((p : Nat) : Int), .int .i64 ((er : Nat) : Int)]) rfl rfl ?_
            refine lm (v := .slice none 0 0) rfl rfl ?_
            refine lm (v := .int .i64 ((p : Nat) : Int)) rfl rfl ?_
            refine lm (v := .int .i64 ((er : Nat) : Int)) rfl rfl ?_
            refine lm (v := .slice none 0 0) rfl rfl ?_
            refine lm (v := .int .i64 ((p : Nat) : Int)) rfl rfl ?_
            refine lm (v := .int .i64 ((er : Nat) : Int)) rfl rfl ?_
            refine wpL_done (fun W4 hW4 => ?_)
            refine (show Code.wp _ _ _ _ _ from ?_)
            refine wp_seq ?_
            refine wp_seq ?_
            refine wp_region_L (W0 := w) [] (hW4) ?_
            refine lm (v := .int .i64 ((er : Nat) : Int)) rfl rfl ?_
            refine lp (v := .bool false) rfl rfl (run_bin rfl (vx := (.int .i64 ((er : Nat) : Int))) (vy := (.int .i64 ((0 : Nat) : Int))) (by kernel_rfl) (by kernel_rfl) fun w => bn_eql (decide_eq_false hne) w) ?_
            refine lm (v := .bool false) rfl rfl ?_
            refine lm (v := .int .i64 ((er : Nat) : Int)) rfl rfl ?_
            refine lp (v := .bool false) rfl rfl (run_bin rfl (vx := (.int .i64 ((er : Nat) : Int))) (vy := (.int .i64 ((42 : Nat) : Int))) (by kernel_rfl) (by kernel_rfl) fun w => bn_eql (decide_eq_false h42) w) ?_
            refine lm (v := .bool false) rfl rfl ?_
            refine wpL_done (fun W5 hW5 => ?_)
            refine (show Code.wp _ _ _ _ _ from ?_)
            refine wp_cond_false rfl ?_
            refine wp_skip ?_
            refine (show Code.wp _ _ _ _ _ from ?_)
            refine wp_seq ?_
            refine wp_region_L (W0 := w) [] (hW5) ?_
            refine lm (v := strV t) rfl rfl ?_
            refine lm (v := .int .i64 ((p : Nat) : Int)) rfl rfl ?_
            refine lp (v := strV (t.take p)) rfl rfl (run_slH (k2 := .i64) (l := t) (r := (t.take p)) (j := p) rfl Try.underlying9 (by kernel_rfl) (by kernel_rfl) (by omega) rfl) ?_
            refine wpL_c (f := 15) (args := #[strV (t.take p)]) (RdK w A1) rfl (by kernel_rfl) (fun _ => (by kernel_rfl)) (fun W hW => Read_ok h1 (by omega) W (hW.sub (fun _ h => by cases h))) (fun _ => by simp only [List.setIfInBounds_toArray, List.set_cons_succ, List.set_cons_zero] <;> rfl) ?_
            rintro _ T2 ⟨p2, c2, rfl, M2⟩
            refine lm (v := .tuple #[.slice p2 A1.length c2, .int .i64 0, .int .i64 0]) rfl rfl ?_
            refine lm (v := .slice p2 A1.length c2) rfl rfl ?_
            refine lm (v := .int .i64 0) rfl rfl ?_
            refine lm (v := .int .i64 0) rfl rfl ?_
            refine lm (v := .slice p2 A1.length c2) rfl rfl ?_
            refine lm (v := .int .i64 0) rfl rfl ?_
            refine lm (v := .int .i64 0) rfl rfl ?_
            refine wpL_done (fun W6 hW6 => ?_)
            have HB4 := Lib.hid ((lv_lvp ((sgo_sgr M2) W6 ((hW6).sub (fun p hp => by first | exact hp | (simp only [List.mem_cons, List.mem_append, List.nil_append, List.not_mem_nil, or_assoc, or_false, false_or, List.cons_append, List.append_assoc] at hp ⊢ <;> grind))))))
            have hbz3 : Below w.heap.size w W6 := (hW6).1
            refine (show Code.wp _ _ _ _ _ from ?_)
            refine wp_seq ?_
            refine wp_seq ?_
            refine wp_region_L (W0 := W6) [] (KS.start W6) ?_
            refine lm (v := .int .i64 0) rfl rfl ?_
            refine lm (v := .bool false) rfl rfl ?_
            refine lm (v := .bool false) rfl rfl ?_
            refine ln rfl ?_
            refine ln rfl ?_
            refine ln rfl ?_
            refine ln rfl ?_
            refine ln rfl ?_
            refine ln rfl ?_
            refine ln rfl ?_
            refine lm (v := .bool false) rfl rfl ?_
            refine wpL_done (fun W7 hW7 => ?_)
            refine (show Code.wp _ _ _ _ _ from ?_)
            refine wp_cond_false rfl ?_
            refine wp_skip ?_
            refine (show Code.wp _ _ _ _ _ from ?_)
            refine wp_seq ?_
            refine wp_region_L (W0 := W6) [] (hW7) ?_
            refine lm (v := .int .i64 ((p : Nat) : Int)) rfl rfl ?_
            refine lp (v := .int .i64 (((p + 1) : Nat) : Int)) rfl rfl (run_bin rfl (vx := (.int .i64 ((p : Nat) : Int))) (vy := (.int .i64 ((1 : Nat) : Int))) (by kernel_rfl) (by kernel_rfl) fun w => bn_add (z := (p + 1)) rfl (wr_i64 (by omega)) w) ?_
            refine lm (v := .int .i64 (((p + 1) : Nat) : Int)) rfl rfl ?_
            refine wpL_done (fun W8 hW8 => ?_)
            refine (show Code.wp _ _ _ _ _ from ?_)
            refine wp_seq ?_
            refine wp_seq ?_
            refine wp_region_L (W0 := W6) [] (hW8) ?_
            refine lm (v := strV t) rfl rfl ?_
            refine lm (v := .int .i64 ((p : Nat) : Int)) rfl rfl ?_
            refine lp (v := .int .u8 ((x.toNat : Nat) : Int)) rfl rfl (run_idxS (j := .i64) (l := t) (k := p) (b := x) rfl Try.underlying9 (by kernel_rfl) (by kernel_rfl) hx) ?_
            refine lp (v := .bool true) rfl rfl (run_bin rfl (vx := (.int .u8 ((x.toNat : Nat) : Int))) (vy := (.int .u8 ((63 : Nat) : Int))) (by kernel_rfl) (by kernel_rfl) fun w => bn_eql (decide_eq_true h63) w) ?_
            refine wpL_done (fun W9 hW9 => ?_)
            refine (show Code.wp _ _ _ _ _ from ?_)
            refine wp_cond_true rfl ?_
            refine wp_region_L (W0 := W6) [] (hW9) ?_
            refine lm (v := .int .i64 ((p : Nat) : Int)) rfl rfl ?_
            refine lp (v := .int .i64 (((p + 2) : Nat) : Int)) rfl rfl (run_bin rfl (vx := (.int .i64 ((p : Nat) : Int))) (vy := (.int .i64 ((2 : Nat) : Int))) (by kernel_rfl) (by kernel_rfl) fun w => bn_add (z := (p + 2)) rfl (wr_i64 (by omega)) w) ?_
            refine lm (v := strV t) rfl rfl ?_
            refine lp (v := .int .i64 ((t.length : Nat) : Int)) rfl rfl (run_lenS (l := t) rfl Try.underlying9 (by kernel_rfl)) ?_
            refine lp (v := .int .i64 ((t.length : Nat) : Int)) rfl rfl (run_minR (k := .i64) (k2 := .i64) (u := (((p + 2) : Nat) : Int)) (v := ((t.length : Nat) : Int)) rfl (by kernel_rfl) (by kernel_rfl) (by rw [if_pos (by omega)])) ?_
            refine lm (v := .int .i64 ((t.length : Nat) : Int)) rfl rfl ?_
            refine wpL_done (fun W10 hW10 => ?_)
            refine (show Code.wp _ _ _ _ _ from ?_)
            refine wp_seq ?_
            refine wp_seq ?_
            refine wp_region_L (W0 := W6) [] (hW10) ?_
            refine lm (v := .int .i64 ((er : Nat) : Int)) rfl rfl ?_
            refine lp (v := .bool true) rfl rfl (run_bin rfl (vx := (.int .i64 ((er : Nat) : Int))) (vy := (.int .i64 ((41 : Nat) : Int))) (by kernel_rfl) (by kernel_rfl) fun w => bn_eql (decide_eq_true he) w) ?_
            refine lm (v := .bool true) rfl rfl ?_
            refine lm (v := .int .i64 ((t.length : Nat) : Int)) rfl rfl ?_
            refine lm (v := .int .i64 ((p : Nat) : Int)) rfl rfl ?_
            refine lp (v := .int .i64 (((p + 1) : Nat) : Int)) rfl rfl (run_bin rfl (vx := (.int .i64 ((p : Nat) : Int))) (vy := (.int .i64 ((1 : Nat) : Int))) (by kernel_rfl) (by kernel_rfl) fun w => bn_add (z := (p + 1)) rfl (wr_i64 (by omega)) w) ?_
            refine lp (v := .bool true) rfl rfl (run_bin rfl (vx := (.int .i64 ((t.length : Nat) : Int))) (vy := (.int .i64 (((p + 1) : Nat) : Int))) (by kernel_rfl) (by kernel_rfl) fun w => bn_eql (decide_eq_true (by omega)) w) ?_
            refine lm (v := .bool true) rfl rfl ?_
            refine wpL_done (fun W11 hW11 => ?_)
            refine (show Code.wp _ _ _ _ _ from ?_)
            refine wp_cond_true rfl ?_
            refine wp_seq ?_
            refine wp_region_L (W0 := W6) [] (hW11) ?_
            refine lm (v := .bool true) rfl rfl ?_
            refine wpL_done (fun W12 hW12 => ?_)
            refine (show Code.wp _ _ _ _ _ from ?_)
            refine wp_ret ?_
            try simp only [inBlock_ret, then_ret]
            refine bodyPost_ret (v := .bool true) ?_ rfl ?_
            · kernel_rfl
            · exact ⟨rfl, (Below.trans hbz3 (Below.mono (hW12).1 hbz3.size))⟩
          exact absurd (last_q hr hx h63 (by omega) (by omega)) he
        have h3 : readT (t.take (p + 2) ++ o) = .bad p er := h2 (p + 2) o (by omega) (fun _ => by omega) (by rw [List.length_append, List.length_take]; omega) (by omega)
        go_enter Try.func8, Try.ntmps8
        refine wp_seq ?_
        refine wp_region_L (W0 := w) [] (KS.start w) ?_
        refine lm (v := .bool false) rfl rfl ?_
        refine wpL_done (fun W1 hW1 => ?_)
        refine (show Code.wp _ _ _ _ _ from ?_)
        refine wp_seq ?_
        refine wp_seq ?_
        refine wp_region_L (W0 := w) [] (hW1) ?_
        refine lv (v := .bool true) rfl rfl (yb_call (f := 10) (args := #[]) (fun _ => by kernel_rfl) fun W hW => awake_any W) ?_
        refine lm (v := .bool false) rfl rfl ?_
        refine wpL_done (fun W2 hW2 => ?_)
        refine (show Code.wp _ _ _ _ _ from ?_)
        refine wp_cond_false rfl ?_
        refine wp_skip ?_
        refine (show Code.wp _ _ _ _ _ from ?_)
        refine wp_seq ?_
        refine wp_seq ?_
        refine wp_region_L (W0 := w) [] (hW2) ?_
        refine lm (v := strV t) rfl rfl ?_
        refine lp (v := .int .i64 ((t.length : Nat) : Int)) rfl rfl (run_lenS (l := t) rfl Try.underlying9 (by kernel_rfl)) ?_
        refine lp (v := .bool false) rfl rfl (run_bin rfl (vx := (.int .i64 ((t.length : Nat) : Int))) (vy := (.int .i64 ((2000 : Nat) : Int))) (by kernel_rfl) (by kernel_rfl) fun w => bn_gtr (decide_eq_false hl) w) ?_
        refine lm (v := .bool false) rfl rfl ?_
        refine lm (v := strV o) rfl rfl ?_
        refine lp (v := .int .i64 ((o.length : Nat) : Int)) rfl rfl (run_lenS (l := o) rfl Try.underlying9 (by kernel_rfl)) ?_
        refine lp (v := .bool false) rfl rfl (run_bin rfl (vx := (.int .i64 ((o.length : Nat) : Int))) (vy := (.int .i64 ((2000 : Nat) : Int))) (by kernel_rfl) (by kernel_rfl) fun w => bn_gtr (decide_eq_false hl2) w) ?_
        refine lm (v := .bool false) rfl rfl ?_
        refine wpL_done (fun W3 hW3 => ?_)
        refine (show Code.wp _ _ _ _ _ from ?_)
        refine wp_cond_false rfl ?_
        refine wp_skip ?_
        refine (show Code.wp _ _ _ _ _ from ?_)
        refine wp_seq ?_
        refine wp_region_L (W0 := w) [] (hW3) ?_
        refine lm (v := strV t) rfl rfl ?_
        refine wpL_c (f := 15) (args := #[strV t]) (fun v Tz => v = .tuple #[.slice none 0 0, .int .i64 ((p : Nat) : Int), .int .i64 ((er : Nat) : Int)] ∧ Tz = []) rfl (by kernel_rfl) (fun _ => (by kernel_rfl)) (fun W hW => Read_bad hr (by first | omega | (simp only [List.length_append, List.length_cons, List.length_nil]; omega)) W (hW.sub (fun _ h => by cases h))) (fun _ => by simp only [List.setIfInBounds_toArray, List.set_cons_succ, List.set_cons_zero] <;> rfl) ?_
        rintro _ _ ⟨rfl, rfl⟩
        refine lm (v := .tuple #[.slice none 0 0, .int .i64 ((p : Nat) : Int), .int .i64 ((er : Nat) : Int)]) rfl rfl ?_
        refine lm (v := .slice none 0 0) rfl rfl ?_
        refine lm (v := .int .i64 ((p : Nat) : Int)) rfl rfl ?_
        refine lm (v := .int .i64 ((er : Nat) : Int)) rfl rfl ?_
        refine lm (v := .slice none 0 0) rfl rfl ?_
        refine lm (v := .int .i64 ((p : Nat) : Int)) rfl rfl ?_
        refine lm (v := .int .i64 ((er : Nat) : Int)) rfl rfl ?_
        refine wpL_done (fun W4 hW4 => ?_)
        refine (show Code.wp _ _ _ _ _ from ?_)
        refine wp_seq ?_
        refine wp_seq ?_
        refine wp_region_L (W0 := w) [] (hW4) ?_
        refine lm (v := .int .i64 ((er : Nat) : Int)) rfl rfl ?_
        refine lp (v := .bool false) rfl rfl (run_bin rfl (vx := (.int .i64 ((er : Nat) : Int))) (vy := (.int .i64 ((0 : Nat) : Int))) (by kernel_rfl) (by kernel_rfl) fun w => bn_eql (decide_eq_false hne) w) ?_
        refine lm (v := .bool false) rfl rfl ?_
        refine lm (v := .int .i64 ((er : Nat) : Int)) rfl rfl ?_
        refine lp (v := .bool false) rfl rfl (run_bin rfl (vx := (.int .i64 ((er : Nat) : Int))) (vy := (.int .i64 ((42 : Nat) : Int))) (by kernel_rfl) (by kernel_rfl) fun w => bn_eql (decide_eq_false h42) w) ?_
        refine lm (v := .bool false) rfl rfl ?_
        refine wpL_done (fun W5 hW5 => ?_)
        refine (show Code.wp _ _ _ _ _ from ?_)
        refine wp_cond_false rfl ?_
        refine wp_skip ?_
        refine (show Code.wp _ _ _ _ _ from ?_)
        refine wp_seq ?_
        refine wp_region_L (W0 := w) [] (hW5) ?_
        refine lm (v := strV t) rfl rfl ?_
        refine lm (v := .int .i64 ((p : Nat) : Int)) rfl rfl ?_
        refine lp (v := strV (t.take p)) rfl rfl (run_slH (k2 := .i64) (l := t) (r := (t.take p)) (j := p) rfl Try.underlying9 (by kernel_rfl) (by kernel_rfl) (by omega) rfl) ?_
        refine wpL_c (f := 15) (args := #[strV (t.take p)]) (RdK w A1) rfl (by kernel_rfl) (fun _ => (by kernel_rfl)) (fun W hW => Read_ok h1 (by omega) W (hW.sub (fun _ h => by cases h))) (fun _ => by simp only [List.setIfInBounds_toArray, List.set_cons_succ, List.set_cons_zero] <;> rfl) ?_
        rintro _ T2 ⟨p2, c2, rfl, M2⟩
        refine lm (v := .tuple #[.slice p2 A1.length c2, .int .i64 0, .int .i64 0]) rfl rfl ?_
        refine lm (v := .slice p2 A1.length c2) rfl rfl ?_
        refine lm (v := .int .i64 0) rfl rfl ?_
        refine lm (v := .int .i64 0) rfl rfl ?_
        refine lm (v := .slice p2 A1.length c2) rfl rfl ?_
        refine lm (v := .int .i64 0) rfl rfl ?_
        refine lm (v := .int .i64 0) rfl rfl ?_
        refine wpL_done (fun W6 hW6 => ?_)
        have HB4 := Lib.hid ((lv_lvp ((sgo_sgr M2) W6 ((hW6).sub (fun p hp => by first | exact hp | (simp only [List.mem_cons, List.mem_append, List.nil_append, List.not_mem_nil, or_assoc, or_false, false_or, List.cons_append, List.append_assoc] at hp ⊢ <;> grind))))))
        have hbz3 : Below w.heap.size w W6 := (hW6).1
        refine (show Code.wp _ _ _ _ _ from ?_)
        refine wp_seq ?_
        refine wp_seq ?_
        refine wp_region_L (W0 := W6) [] (KS.start W6) ?_
        refine lm (v := .int .i64 0) rfl rfl ?_
        refine lm (v := .bool false) rfl rfl ?_
        refine lm (v := .bool false) rfl rfl ?_
        refine ln rfl ?_
        refine ln rfl ?_
        refine ln rfl ?_
        refine ln rfl ?_
        refine ln rfl ?_
        refine ln rfl ?_
        refine ln rfl ?_
        refine lm (v := .bool false) rfl rfl ?_
        refine wpL_done (fun W7 hW7 => ?_)
        refine (show Code.wp _ _ _ _ _ from ?_)
        refine wp_cond_false rfl ?_
        refine wp_skip ?_
        refine (show Code.wp _ _ _ _ _ from ?_)
        refine wp_seq ?_
        refine wp_region_L (W0 := W6) [] (hW7) ?_
        refine lm (v := .int .i64 ((p : Nat) : Int)) rfl rfl ?_
        refine lp (v := .int .i64 (((p + 1) : Nat) : Int)) rfl rfl (run_bin rfl (vx := (.int .i64 ((p : Nat) : Int))) (vy := (.int .i64 ((1 : Nat) : Int))) (by kernel_rfl) (by kernel_rfl) fun w => bn_add (z := (p + 1)) rfl (wr_i64 (by omega)) w) ?_
        refine lm (v := .int .i64 (((p + 1) : Nat) : Int)) rfl rfl ?_
        refine wpL_done (fun W8 hW8 => ?_)
        refine (show Code.wp _ _ _ _ _ from ?_)
        refine wp_seq ?_
        refine wp_seq ?_
        refine wp_region_L (W0 := W6) [] (hW8) ?_
        refine lm (v := strV t) rfl rfl ?_
        refine lm (v := .int .i64 ((p : Nat) : Int)) rfl rfl ?_
        refine lp (v := .int .u8 ((x.toNat : Nat) : Int)) rfl rfl (run_idxS (j := .i64) (l := t) (k := p) (b := x) rfl Try.underlying9 (by kernel_rfl) (by kernel_rfl) hx) ?_
        refine lp (v := .bool true) rfl rfl (run_bin rfl (vx := (.int .u8 ((x.toNat : Nat) : Int))) (vy := (.int .u8 ((63 : Nat) : Int))) (by kernel_rfl) (by kernel_rfl) fun w => bn_eql (decide_eq_true h63) w) ?_
        refine wpL_done (fun W9 hW9 => ?_)
        refine (show Code.wp _ _ _ _ _ from ?_)
        refine wp_cond_true rfl ?_
        refine wp_region_L (W0 := W6) [] (hW9) ?_
        refine lm (v := .int .i64 ((p : Nat) : Int)) rfl rfl ?_
        refine lp (v := .int .i64 (((p + 2) : Nat) : Int)) rfl rfl (run_bin rfl (vx := (.int .i64 ((p : Nat) : Int))) (vy := (.int .i64 ((2 : Nat) : Int))) (by kernel_rfl) (by kernel_rfl) fun w => bn_add (z := (p + 2)) rfl (wr_i64 (by omega)) w) ?_
        refine lm (v := strV t) rfl rfl ?_
        refine lp (v := .int .i64 ((t.length : Nat) : Int)) rfl rfl (run_lenS (l := t) rfl Try.underlying9 (by kernel_rfl)) ?_
        refine lp (v := .int .i64 (((p + 2) : Nat) : Int)) rfl rfl (run_minR (k := .i64) (k2 := .i64) (u := (((p + 2) : Nat) : Int)) (v := ((t.length : Nat) : Int)) rfl (by kernel_rfl) (by kernel_rfl) (by rw [if_neg (by omega)])) ?_
        refine lm (v := .int .i64 (((p + 2) : Nat) : Int)) rfl rfl ?_
        refine wpL_done (fun W10 hW10 => ?_)
        refine (show Code.wp _ _ _ _ _ from ?_)
        refine wp_seq ?_
        refine wp_seq ?_
        refine wp_region_L (W0 := W6) [] (hW10) ?_
        refine lm (v := .int .i64 ((er : Nat) : Int)) rfl rfl ?_
        refine lp (v := .bool (decide (er = 41))) rfl rfl (run_bin rfl (vx := (.int .i64 ((er : Nat) : Int))) (vy := (.int .i64 ((41 : Nat) : Int))) (by kernel_rfl) (by kernel_rfl) fun w => bn_eql rfl w) ?_
        refine lm (v := .bool (decide (er = 41))) rfl rfl ?_
        cases hd1 : (decide (er = 41)) with
        | false =>
          have h1 : ¬ (er = 41) := of_decide_eq_false hd1
          clear hd1
          refine ln rfl ?_
          refine ln rfl ?_
          refine ln rfl ?_
          refine ln rfl ?_
          refine lm (v := .bool false) rfl rfl ?_
          refine wpL_done (fun W11 hW11 => ?_)
          refine (show Code.wp _ _ _ _ _ from ?_)
          refine wp_cond_false rfl ?_
          refine wp_skip ?_
          refine (show Code.wp _ _ _ _ _ from ?_)
          refine wp_seq ?_
          refine wp_region_L (W0 := W6) [] (hW11) ?_
          refine lm (v := strV t) rfl rfl ?_
          refine lm (v := .int .i64 (((p + 2) : Nat) : Int)) rfl rfl ?_
          refine lp (v := strV (t.take (p + 2))) rfl rfl (run_slH (k2 := .i64) (l := t) (r := (t.take (p + 2))) (j := (p + 2)) rfl Try.underlying9 (by kernel_rfl) (by kernel_rfl) (by omega) rfl) ?_
          refine lm (v := strV o) rfl rfl ?_
          refine lp (v := strV ((t.take (p + 2)) ++ o)) rfl rfl (run_bin rfl (vx := strV (t.take (p + 2))) (vy := strV o) (by kernel_rfl) (by kernel_rfl) fun w => bs_add (c := ((t.take (p + 2)) ++ o)) rfl (by first | omega | (simp; omega)) w) ?_
          refine wpL_c (f := 15) (args := #[strV ((t.take (p + 2)) ++ o)]) (fun v Tz => v = .tuple #[.slice none 0 0, .int .i64 ((p : Nat) : Int), .int .i64 ((er : Nat) : Int)] ∧ Tz = []) rfl (by kernel_rfl) (fun _ => (by kernel_rfl)) (fun W hW => Read_bad h3 (by first | omega | (simp only [List.length_append, List.length_cons, List.length_nil]; omega)) W (hW.sub (fun _ h => by cases h))) (fun _ => by simp only [List.setIfInBounds_toArray, List.set_cons_succ, List.set_cons_zero] <;> rfl) ?_
          rintro _ _ ⟨rfl, rfl⟩
          refine lm (v := .tuple #[.slice none 0 0, .int .i64 ((p : Nat) : Int), .int .i64 ((er : Nat) : Int)]) rfl rfl ?_
          refine lm (v := .slice none 0 0) rfl rfl ?_
          refine lm (v := .int .i64 ((p : Nat) : Int)) rfl rfl ?_
          refine lm (v := .int .i64 ((er : Nat) : Int)) rfl rfl ?_
          refine lm (v := .int .i64 ((p : Nat) : Int)) rfl rfl ?_
          refine lm (v := .int .i64 ((er : Nat) : Int)) rfl rfl ?_
          refine wpL_done (fun W12 hW12 => ?_)
          refine (show Code.wp _ _ _ _ _ from ?_)
          refine wp_seq ?_
          refine wp_region_L (W0 := W6) [] (hW12) ?_
          refine lm (v := .int .i64 ((er : Nat) : Int)) rfl rfl ?_
          refine lm (v := .int .i64 ((er : Nat) : Int)) rfl rfl ?_
          refine lp (v := .bool true) rfl rfl (run_bin rfl (vx := (.int .i64 ((er : Nat) : Int))) (vy := (.int .i64 ((er : Nat) : Int))) (by kernel_rfl) (by kernel_rfl) fun w => bn_eql (decide_eq_true rfl) w) ?_
          refine lm (v := .bool true) rfl rfl ?_
          refine lm (v := .int .i64 ((p : Nat) : Int)) rfl rfl ?_
          refine lm (v := .int .i64 ((p : Nat) : Int)) rfl rfl ?_
          refine lp (v := .bool true) rfl rfl (run_bin rfl (vx := (.int .i64 ((p : Nat) : Int))) (vy := (.int .i64 ((p : Nat) : Int))) (by kernel_rfl) (by kernel_rfl) fun w => bn_eql (decide_eq_true rfl) w) ?_
          refine lm (v := .bool true) rfl rfl ?_
          refine lm (v := .bool true) rfl rfl ?_
          refine wpL_done (fun W13 hW13 => ?_)
          refine (show Code.wp _ _ _ _ _ from ?_)
          refine wp_ret ?_
          try simp only [inBlock_ret, then_ret]
          refine bodyPost_ret (v := .bool true) ?_ rfl ?_
          · kernel_rfl
          · exact ⟨rfl, (Below.trans hbz3 (Below.mono (hW13).1 hbz3.size))⟩
        | true =>
          have h1 : er = 41 := of_decide_eq_true hd1
          clear hd1
          refine lm (v := .int .i64 (((p + 2) : Nat) : Int)) rfl rfl ?_
          refine lm (v := .int .i64 ((p : Nat) : Int)) rfl rfl ?_
          refine lp (v := .int .i64 (((p + 1) : Nat) : Int)) rfl rfl (run_bin rfl (vx := (.int .i64 ((p : Nat) : Int))) (vy := (.int .i64 ((1 : Nat) : Int))) (by kernel_rfl) (by kernel_rfl) fun w => bn_add (z := (p + 1)) rfl (wr_i64 (by omega)) w) ?_
          refine lp (v := .bool false) rfl rfl (run_bin rfl (vx := (.int .i64 (((p + 2) : Nat) : Int))) (vy := (.int .i64 (((p + 1) : Nat) : Int))) (by kernel_rfl) (by kernel_rfl) fun w => bn_eql (decide_eq_false (by omega)) w) ?_
          refine lm (v := .bool false) rfl rfl ?_
          refine wpL_done (fun W14 hW14 => ?_)
          refine (show Code.wp _ _ _ _ _ from ?_)
          refine wp_cond_false rfl ?_
          refine wp_skip ?_
          refine (show Code.wp _ _ _ _ _ from ?_)
          refine wp_seq ?_
          refine wp_region_L (W0 := W6) [] (hW14) ?_
          refine lm (v := strV t) rfl rfl ?_
          refine lm (v := .int .i64 (((p + 2) : Nat) : Int)) rfl rfl ?_
          refine lp (v := strV (t.take (p + 2))) rfl rfl (run_slH (k2 := .i64) (l := t) (r := (t.take (p + 2))) (j := (p + 2)) rfl Try.underlying9 (by kernel_rfl) (by kernel_rfl) (by omega) rfl) ?_
          refine lm (v := strV o) rfl rfl ?_
          refine lp (v := strV ((t.take (p + 2)) ++ o)) rfl rfl (run_bin rfl (vx := strV (t.take (p + 2))) (vy := strV o) (by kernel_rfl) (by kernel_rfl) fun w => bs_add (c := ((t.take (p + 2)) ++ o)) rfl (by first | omega | (simp; omega)) w) ?_
          refine wpL_c (f := 15) (args := #[strV ((t.take (p + 2)) ++ o)]) (fun v Tz => v = .tuple #[.slice none 0 0, .int .i64 ((p : Nat) : Int), .int .i64 ((er : Nat) : Int)] ∧ Tz = []) rfl (by kernel_rfl) (fun _ => (by kernel_rfl)) (fun W hW => Read_bad h3 (by first | omega | (simp only [List.length_append, List.length_cons, List.length_nil]; omega)) W (hW.sub (fun _ h => by cases h))) (fun _ => by simp only [List.setIfInBounds_toArray, List.set_cons_succ, List.set_cons_zero] <;> rfl) ?_
          rintro _ _ ⟨rfl, rfl⟩
          refine lm (v := .tuple #[.slice none 0 0, .int .i64 ((p : Nat) : Int), .int .i64 ((er : Nat) : Int)]) rfl rfl ?_
          refine lm (v := .slice none 0 0) rfl rfl ?_
          refine lm (v := .int .i64 ((p : Nat) : Int)) rfl rfl ?_
          refine lm (v := .int .i64 ((er : Nat) : Int)) rfl rfl ?_
          refine lm (v := .int .i64 ((p : Nat) : Int)) rfl rfl ?_
          refine lm (v := .int .i64 ((er : Nat) : Int)) rfl rfl ?_
          refine wpL_done (fun W15 hW15 => ?_)
          refine (show Code.wp _ _ _ _ _ from ?_)
          refine wp_seq ?_
          refine wp_region_L (W0 := W6) [] (hW15) ?_
          refine lm (v := .int .i64 ((er : Nat) : Int)) rfl rfl ?_
          refine lm (v := .int .i64 ((er : Nat) : Int)) rfl rfl ?_
          refine lp (v := .bool true) rfl rfl (run_bin rfl (vx := (.int .i64 ((er : Nat) : Int))) (vy := (.int .i64 ((er : Nat) : Int))) (by kernel_rfl) (by kernel_rfl) fun w => bn_eql (decide_eq_true rfl) w) ?_
          refine lm (v := .bool true) rfl rfl ?_
          refine lm (v := .int .i64 ((p : Nat) : Int)) rfl rfl ?_
          refine lm (v := .int .i64 ((p : Nat) : Int)) rfl rfl ?_
          refine lp (v := .bool true) rfl rfl (run_bin rfl (vx := (.int .i64 ((p : Nat) : Int))) (vy := (.int .i64 ((p : Nat) : Int))) (by kernel_rfl) (by kernel_rfl) fun w => bn_eql (decide_eq_true rfl) w) ?_
          refine lm (v := .bool true) rfl rfl ?_
          refine lm (v := .bool true) rfl rfl ?_
          refine wpL_done (fun W16 hW16 => ?_)
          refine (show Code.wp _ _ _ _ _ from ?_)
          refine wp_ret ?_
          try simp only [inBlock_ret, then_ret]
          refine bodyPost_ret (v := .bool true) ?_ rfl ?_
          · kernel_rfl
          · exact ⟨rfl, (Below.trans hbz3 (Below.mono (hW16).1 hbz3.size))⟩
      · rcases h2 with ⟨h, _⟩ | h2
        · exact absurd h h63
        have h3 : readT (t.take (p + 1) ++ o) = .bad p er := h2 (p + 1) o (Nat.le_refl _) (fun h => absurd h h63) (by rw [List.length_append, List.length_take]; omega) (by omega)
        go_enter Try.func8, Try.ntmps8
        refine wp_seq ?_
        refine wp_region_L (W0 := w) [] (KS.start w) ?_
        refine lm (v := .bool false) rfl rfl ?_
        refine wpL_done (fun W1 hW1 => ?_)
        refine (show Code.wp _ _ _ _ _ from ?_)
        refine wp_seq ?_
        refine wp_seq ?_
        refine wp_region_L (W0 := w) [] (hW1) ?_
        refine lv (v := .bool true) rfl rfl (yb_call (f := 10) (args := #[]) (fun _ => by kernel_rfl) fun W hW => awake_any W) ?_
        refine lm (v := .bool false) rfl rfl ?_
        refine wpL_done (fun W2 hW2 => ?_)
        refine (show Code.wp _ _ _ _ _ from ?_)
        refine wp_cond_false rfl ?_
        refine wp_skip ?_
        refine (show Code.wp _ _ _ _ _ from ?_)
        refine wp_seq ?_
        refine wp_seq ?_
        refine wp_region_L (W0 := w) [] (hW2) ?_
        refine lm (v := strV t) rfl rfl ?_
        refine lp (v := .int .i64 ((t.length : Nat) : Int)) rfl rfl (run_lenS (l := t) rfl Try.underlying9 (by kernel_rfl)) ?_
        refine lp (v := .bool false) rfl rfl (run_bin rfl (vx := (.int .i64 ((t.length : Nat) : Int))) (vy := (.int .i64 ((2000 : Nat) : Int))) (by kernel_rfl) (by kernel_rfl) fun w => bn_gtr (decide_eq_false hl) w) ?_
        refine lm (v := .bool false) rfl rfl ?_
        refine lm (v := strV o) rfl rfl ?_
        refine lp (v := .int .i64 ((o.length : Nat) : Int)) rfl rfl (run_lenS (l := o) rfl Try.underlying9 (by kernel_rfl)) ?_
        refine lp (v := .bool false) rfl rfl (run_bin rfl (vx := (.int .i64 ((o.length : Nat) : Int))) (vy := (.int .i64 ((2000 : Nat) : Int))) (by kernel_rfl) (by kernel_rfl) fun w => bn_gtr (decide_eq_false hl2) w) ?_
        refine lm (v := .bool false) rfl rfl ?_
        refine wpL_done (fun W3 hW3 => ?_)
        refine (show Code.wp _ _ _ _ _ from ?_)
        refine wp_cond_false rfl ?_
        refine wp_skip ?_
        refine (show Code.wp _ _ _ _ _ from ?_)
        refine wp_seq ?_
        refine wp_region_L (W0 := w) [] (hW3) ?_
        refine lm (v := strV t) rfl rfl ?_
        refine wpL_c (f := 15) (args := #[strV t]) (fun v Tz => v = .tuple #[.slice none 0 0, .int .i64 ((p : Nat) : Int), .int .i64 ((er : Nat) : Int)] ∧ Tz = []) rfl (by kernel_rfl) (fun _ => (by kernel_rfl)) (fun W hW => Read_bad hr (by first | omega | (simp only [List.length_append, List.length_cons, List.length_nil]; omega)) W (hW.sub (fun _ h => by cases h))) (fun _ => by simp only [List.setIfInBounds_toArray, List.set_cons_succ, List.set_cons_zero] <;> rfl) ?_
        rintro _ _ ⟨rfl, rfl⟩
        refine lm (v := .tuple #[.slice none 0 0, .int .i64 ((p : Nat) : Int), .int .i64 ((er : Nat) : Int)]) rfl rfl ?_
        refine lm (v := .slice none 0 0) rfl rfl ?_
        refine lm (v := .int .i64 ((p : Nat) : Int)) rfl rfl ?_
        refine lm (v := .int .i64 ((er : Nat) : Int)) rfl rfl ?_
        refine lm (v := .slice none 0 0) rfl rfl ?_
        refine lm (v := .int .i64 ((p : Nat) : Int)) rfl rfl ?_
        refine lm (v := .int .i64 ((er : Nat) : Int)) rfl rfl ?_
        refine wpL_done (fun W4 hW4 => ?_)
        refine (show Code.wp _ _ _ _ _ from ?_)
        refine wp_seq ?_
        refine wp_seq ?_
        refine wp_region_L (W0 := w) [] (hW4) ?_
        refine lm (v := .int .i64 ((er : Nat) : Int)) rfl rfl ?_
        refine lp (v := .bool false) rfl rfl (run_bin rfl (vx := (.int .i64 ((er : Nat) : Int))) (vy := (.int .i64 ((0 : Nat) : Int))) (by kernel_rfl) (by kernel_rfl) fun w => bn_eql (decide_eq_false hne) w) ?_
        refine lm (v := .bool false) rfl rfl ?_
        refine lm (v := .int .i64 ((er : Nat) : Int)) rfl rfl ?_
        refine lp (v := .bool false) rfl rfl (run_bin rfl (vx := (.int .i64 ((er : Nat) : Int))) (vy := (.int .i64 ((42 : Nat) : Int))) (by kernel_rfl) (by kernel_rfl) fun w => bn_eql (decide_eq_false h42) w) ?_
        refine lm (v := .bool false) rfl rfl ?_
        refine wpL_done (fun W5 hW5 => ?_)
        refine (show Code.wp _ _ _ _ _ from ?_)
        refine wp_cond_false rfl ?_
        refine wp_skip ?_
        refine (show Code.wp _ _ _ _ _ from ?_)
        refine wp_seq ?_
        refine wp_region_L (W0 := w) [] (hW5) ?_
        refine lm (v := strV t) rfl rfl ?_
        refine lm (v := .int .i64 ((p : Nat) : Int)) rfl rfl ?_
        refine lp (v := strV (t.take p)) rfl rfl (run_slH (k2 := .i64) (l := t) (r := (t.take p)) (j := p) rfl Try.underlying9 (by kernel_rfl) (by kernel_rfl) (by omega) rfl) ?_
        refine wpL_c (f := 15) (args := #[strV (t.take p)]) (RdK w A1) rfl (by kernel_rfl) (fun _ => (by kernel_rfl)) (fun W hW => Read_ok h1 (by omega) W (hW.sub (fun _ h => by cases h))) (fun _ => by simp only [List.setIfInBounds_toArray, List.set_cons_succ, List.set_cons_zero] <;> rfl) ?_
        rintro _ T2 ⟨p2, c2, rfl, M2⟩
        refine lm (v := .tuple #[.slice p2 A1.length c2, .int .i64 0, .int .i64 0]) rfl rfl ?_
        refine lm (v := .slice p2 A1.length c2) rfl rfl ?_
        refine lm (v := .int .i64 0) rfl rfl ?_
        refine lm (v := .int .i64 0) rfl rfl ?_
        refine lm (v := .slice p2 A1.length c2) rfl rfl ?_
        refine lm (v := .int .i64 0) rfl rfl ?_
        refine lm (v := .int .i64 0) rfl rfl ?_
        refine wpL_done (fun W6 hW6 => ?_)
        have HB4 := Lib.hid ((lv_lvp ((sgo_sgr M2) W6 ((hW6).sub (fun p hp => by first | exact hp | (simp only [List.mem_cons, List.mem_append, List.nil_append, List.not_mem_nil, or_assoc, or_false, false_or, List.cons_append, List.append_assoc] at hp ⊢ <;> grind))))))
        have hbz3 : Below w.heap.size w W6 := (hW6).1
        refine (show Code.wp _ _ _ _ _ from ?_)
        refine wp_seq ?_
        refine wp_seq ?_
        refine wp_region_L (W0 := W6) [] (KS.start W6) ?_
        refine lm (v := .int .i64 0) rfl rfl ?_
        refine lm (v := .bool false) rfl rfl ?_
        refine lm (v := .bool false) rfl rfl ?_
        refine ln rfl ?_
        refine ln rfl ?_
        refine ln rfl ?_
        refine ln rfl ?_
        refine ln rfl ?_
        refine ln rfl ?_
        refine ln rfl ?_
        refine lm (v := .bool false) rfl rfl ?_
        refine wpL_done (fun W7 hW7 => ?_)
        refine (show Code.wp _ _ _ _ _ from ?_)
        refine wp_cond_false rfl ?_
        refine wp_skip ?_
        refine (show Code.wp _ _ _ _ _ from ?_)
        refine wp_seq ?_
        refine wp_region_L (W0 := W6) [] (hW7) ?_
        refine lm (v := .int .i64 ((p : Nat) : Int)) rfl rfl ?_
        refine lp (v := .int .i64 (((p + 1) : Nat) : Int)) rfl rfl (run_bin rfl (vx := (.int .i64 ((p : Nat) : Int))) (vy := (.int .i64 ((1 : Nat) : Int))) (by kernel_rfl) (by kernel_rfl) fun w => bn_add (z := (p + 1)) rfl (wr_i64 (by omega)) w) ?_
        refine lm (v := .int .i64 (((p + 1) : Nat) : Int)) rfl rfl ?_
        refine wpL_done (fun W8 hW8 => ?_)
        refine (show Code.wp _ _ _ _ _ from ?_)
        refine wp_seq ?_
        refine wp_seq ?_
        refine wp_region_L (W0 := W6) [] (hW8) ?_
        refine lm (v := strV t) rfl rfl ?_
        refine lm (v := .int .i64 ((p : Nat) : Int)) rfl rfl ?_
        refine lp (v := .int .u8 ((x.toNat : Nat) : Int)) rfl rfl (run_idxS (j := .i64) (l := t) (k := p) (b := x) rfl Try.underlying9 (by kernel_rfl) (by kernel_rfl) hx) ?_
        refine lp (v := .bool false) rfl rfl (run_bin rfl (vx := (.int .u8 ((x.toNat : Nat) : Int))) (vy := (.int .u8 ((63 : Nat) : Int))) (by kernel_rfl) (by kernel_rfl) fun w => bn_eql (decide_eq_false h63) w) ?_
        refine wpL_done (fun W9 hW9 => ?_)
        refine (show Code.wp _ _ _ _ _ from ?_)
        refine wp_cond_false rfl ?_
        refine wp_skip ?_
        refine (show Code.wp _ _ _ _ _ from ?_)
        refine wp_seq ?_
        refine wp_seq ?_
        refine wp_region_L (W0 := W6) [] (hW9) ?_
        refine lm (v := .int .i64 ((er : Nat) : Int)) rfl rfl ?_
        refine lp (v := .bool (decide (er = 41))) rfl rfl (run_bin rfl (vx := (.int .i64 ((er : Nat) : Int))) (vy := (.int .i64 ((41 : Nat) : Int))) (by kernel_rfl) (by kernel_rfl) fun w => bn_eql rfl w) ?_
        refine lm (v := .bool (decide (er = 41))) rfl rfl ?_
        cases hd1 : (decide (er = 41)) with
        | false =>
          have h1 : ¬ (er = 41) := of_decide_eq_false hd1
          clear hd1
          refine ln rfl ?_
          refine ln rfl ?_
          refine ln rfl ?_
          refine ln rfl ?_
          refine lm (v := .bool false) rfl rfl ?_
          refine wpL_done (fun W10 hW10 => ?_)
          refine (show Code.wp _ _ _ _ _ from ?_)
          refine wp_cond_false rfl ?_
          refine wp_skip ?_
          refine (show Code.wp _ _ _ _ _ from ?_)
          refine wp_seq ?_
          refine wp_region_L (W0 := W6) [] (hW10) ?_
          refine lm (v := strV t) rfl rfl ?_
          refine lm (v := .int .i64 (((p + 1) : Nat) : Int)) rfl rfl ?_
          refine lp (v := strV (t.take (p + 1))) rfl rfl (run_slH (k2 := .i64) (l := t) (r := (t.take (p + 1))) (j := (p + 1)) rfl Try.underlying9 (by kernel_rfl) (by kernel_rfl) (by omega) rfl) ?_
          refine lm (v := strV o) rfl rfl ?_
          refine lp (v := strV ((t.take (p + 1)) ++ o)) rfl rfl (run_bin rfl (vx := strV (t.take (p + 1))) (vy := strV o) (by kernel_rfl) (by kernel_rfl) fun w => bs_add (c := ((t.take (p + 1)) ++ o)) rfl (by first | omega | (simp; omega)) w) ?_
          refine wpL_c (f := 15) (args := #[strV ((t.take (p + 1)) ++ o)]) (fun v Tz => v = .tuple #[.slice none 0 0, .int .i64 ((p : Nat) : Int), .int .i64 ((er : Nat) : Int)] ∧ Tz = []) rfl (by kernel_rfl) (fun _ => (by kernel_rfl)) (fun W hW => Read_bad h3 (by first | omega | (simp only [List.length_append, List.length_cons, List.length_nil]; omega)) W (hW.sub (fun _ h => by cases h))) (fun _ => by simp only [List.setIfInBounds_toArray, List.set_cons_succ, List.set_cons_zero] <;> rfl) ?_
          rintro _ _ ⟨rfl, rfl⟩
          refine lm (v := .tuple #[.slice none 0 0, .int .i64 ((p : Nat) : Int), .int .i64 ((er : Nat) : Int)]) rfl rfl ?_
          refine lm (v := .slice none 0 0) rfl rfl ?_
          refine lm (v := .int .i64 ((p : Nat) : Int)) rfl rfl ?_
          refine lm (v := .int .i64 ((er : Nat) : Int)) rfl rfl ?_
          refine lm (v := .int .i64 ((p : Nat) : Int)) rfl rfl ?_
          refine lm (v := .int .i64 ((er : Nat) : Int)) rfl rfl ?_
          refine wpL_done (fun W11 hW11 => ?_)
          refine (show Code.wp _ _ _ _ _ from ?_)
          refine wp_seq ?_
          refine wp_region_L (W0 := W6) [] (hW11) ?_
          refine lm (v := .int .i64 ((er : Nat) : Int)) rfl rfl ?_
          refine lm (v := .int .i64 ((er : Nat) : Int)) rfl rfl ?_
          refine lp (v := .bool true) rfl rfl (run_bin rfl (vx := (.int .i64 ((er : Nat) : Int))) (vy := (.int .i64 ((er : Nat) : Int))) (by kernel_rfl) (by kernel_rfl) fun w => bn_eql (decide_eq_true rfl) w) ?_
          refine lm (v := .bool true) rfl rfl ?_
          refine lm (v := .int .i64 ((p : Nat) : Int)) rfl rfl ?_
          refine lm (v := .int .i64 ((p : Nat) : Int)) rfl rfl ?_
          refine lp (v := .bool true) rfl rfl (run_bin rfl (vx := (.int .i64 ((p : Nat) : Int))) (vy := (.int .i64 ((p : Nat) : Int))) (by kernel_rfl) (by kernel_rfl) fun w => bn_eql (decide_eq_true rfl) w) ?_
          refine lm (v := .bool true) rfl rfl ?_
          refine lm (v := .bool true) rfl rfl ?_
          refine wpL_done (fun W12 hW12 => ?_)
          refine (show Code.wp _ _ _ _ _ from ?_)
          refine wp_ret ?_
          try simp only [inBlock_ret, then_ret]
          refine bodyPost_ret (v := .bool true) ?_ rfl ?_
          · kernel_rfl
          · exact ⟨rfl, (Below.trans hbz3 (Below.mono (hW12).1 hbz3.size))⟩
        | true =>
          have h1 : er = 41 := of_decide_eq_true hd1
          clear hd1
          refine lm (v := .int .i64 (((p + 1) : Nat) : Int)) rfl rfl ?_
          refine lm (v := .int .i64 ((p : Nat) : Int)) rfl rfl ?_
          refine lp (v := .int .i64 (((p + 1) : Nat) : Int)) rfl rfl (run_bin rfl (vx := (.int .i64 ((p : Nat) : Int))) (vy := (.int .i64 ((1 : Nat) : Int))) (by kernel_rfl) (by kernel_rfl) fun w => bn_add (z := (p + 1)) rfl (wr_i64 (by omega)) w) ?_
          refine lp (v := .bool true) rfl rfl (run_bin rfl (vx := (.int .i64 (((p + 1) : Nat) : Int))) (vy := (.int .i64 (((p + 1) : Nat) : Int))) (by kernel_rfl) (by kernel_rfl) fun w => bn_eql (decide_eq_true rfl) w) ?_
          refine lm (v := .bool true) rfl rfl ?_
          refine wpL_done (fun W13 hW13 => ?_)
          refine (show Code.wp _ _ _ _ _ from ?_)
          refine wp_cond_true rfl ?_
          refine wp_seq ?_
          refine wp_region_L (W0 := W6) [] (hW13) ?_
          refine lm (v := .bool true) rfl rfl ?_
          refine wpL_done (fun W14 hW14 => ?_)
          refine (show Code.wp _ _ _ _ _ from ?_)
          refine wp_ret ?_
          try simp only [inBlock_ret, then_ret]
          refine bodyPost_ret (v := .bool true) ?_ rfl ?_
          · kernel_rfl
          · exact ⟨rfl, (Below.trans hbz3 (Below.mono (hW14).1 hbz3.size))⟩
    · skip
      by_cases h63 : x.toNat = 63
      · rcases h2 with ⟨_, he, hend⟩ | h2
        · skip
          go_enter Try.func8, Try.ntmps8
          refine wp_seq ?_
          refine wp_region_L (W0 := w) [] (KS.start w) ?_
          refine lm (v := .bool false) rfl rfl ?_
          refine wpL_done (fun W1 hW1 => ?_)
          refine (show Code.wp _ _ _ _ _ from ?_)
          refine wp_seq ?_
          refine wp_seq ?_
          refine wp_region_L (W0 := w) [] (hW1) ?_
          refine lv (v := .bool true) rfl rfl (yb_call (f := 10) (args := #[]) (fun _ => by kernel_rfl) fun W hW => awake_any W) ?_
          refine lm (v := .bool false) rfl rfl ?_
          refine wpL_done (fun W2 hW2 => ?_)
          refine (show Code.wp _ _ _ _ _ from ?_)
          refine wp_cond_false rfl ?_
          refine wp_skip ?_
          refine (show Code.wp _ _ _ _ _ from ?_)
          refine wp_seq ?_
          refine wp_seq ?_
          refine wp_region_L (W0 := w) [] (hW2) ?_
          refine lm (v := strV t) rfl rfl ?_
          refine lp (v := .int .i64 ((t.length : Nat) : Int)) rfl rfl (run_lenS (l := t) rfl Try.underlying9 (by kernel_rfl)) ?_
          refine lp (v := .bool false) rfl rfl (run_bin rfl (vx := (.int .i64 ((t.length : Nat) : Int))) (vy := (.int .i64 ((2000 : Nat) : Int))) (by kernel_rfl) (by kernel_rfl) fun w => bn_gtr (decide_eq_false hl) w) ?_
          refine lm (v := .bool false) rfl rfl ?_
          refine lm (v := strV o) rfl rfl ?_
          refine lp (v := .int .i64 ((o.length : Nat) : Int)) rfl rfl (run_lenS (l := o) rfl Try.underlying9 (by kernel_rfl)) ?_
          refine lp (v := .bool false) rfl rfl (run_bin rfl (vx := (.int .i64 ((o.length : Nat) : Int))) (vy := (.int .i64 ((2000 : Nat) : Int))) (by kernel_rfl) (by kernel_rfl) fun w => bn_gtr (decide_eq_false hl2) w) ?_
          refine lm (v := .bool false) rfl rfl ?_
          refine wpL_done (fun W3 hW3 => ?_)
          refine (show Code.wp _ _ _ _ _ from ?_)
          refine wp_cond_false rfl ?_
          refine wp_skip ?_
          refine (show Code.wp _ _ _ _ _ from ?_)
          refine wp_seq ?_
          refine wp_region_L (W0 := w) [] (hW3) ?_
          refine lm (v := strV t) rfl rfl ?_
          refine wpL_c (f := 15) (args := #[strV t]) (fun v Tz => v = .tuple #[.slice none 0 0, .int .i64 ((p : Nat) : Int), .int .i64 ((er : Nat) : Int)] ∧ Tz = []) rfl (by kernel_rfl) (fun _ => (by kernel_rfl)) (fun W hW => Read_bad hr (by first | omega | (simp only [List.length_append, List.length_cons, List.length_nil]; omega)) W (hW.sub (fun _ h => by cases h))) (fun _ => by simp only [List.setIfInBounds_toArray, List.set_cons_succ, List.set_cons_zero] <;> rfl) ?_
          rintro _ _ ⟨rfl, rfl⟩
          refine lm (v := .tuple #[.slice none 0 0, .int .i64 ((p : Nat) : Int), .int .i64 ((er : Nat) : Int)]) rfl rfl ?_
          refine lm (v := .slice none 0 0) rfl rfl ?_
          refine lm (v := .int .i64 ((p : Nat) : Int)) rfl rfl ?_
          refine lm (v := .int .i64 ((er : Nat) : Int)) rfl rfl ?_
          refine lm (v := .slice none 0 0) rfl rfl ?_
          refine lm (v := .int .i64 ((p : Nat) : Int)) rfl rfl ?_
          refine lm (v := .int .i64 ((er : Nat) : Int)) rfl rfl ?_
          refine wpL_done (fun W4 hW4 => ?_)
          refine (show Code.wp _ _ _ _ _ from ?_)
          refine wp_seq ?_
          refine wp_seq ?_
          refine wp_region_L (W0 := w) [] (hW4) ?_
          refine lm (v := .int .i64 ((er : Nat) : Int)) rfl rfl ?_
          refine lp (v := .bool false) rfl rfl (run_bin rfl (vx := (.int .i64 ((er : Nat) : Int))) (vy := (.int .i64 ((0 : Nat) : Int))) (by kernel_rfl) (by kernel_rfl) fun w => bn_eql (decide_eq_false hne) w) ?_
          refine lm (v := .bool false) rfl rfl ?_
          refine lm (v := .int .i64 ((er : Nat) : Int)) rfl rfl ?_
          refine lp (v := .bool false) rfl rfl (run_bin rfl (vx := (.int .i64 ((er : Nat) : Int))) (vy := (.int .i64 ((42 : Nat) : Int))) (by kernel_rfl) (by kernel_rfl) fun w => bn_eql (decide_eq_false h42) w) ?_
          refine lm (v := .bool false) rfl rfl ?_
          refine wpL_done (fun W5 hW5 => ?_)
          refine (show Code.wp _ _ _ _ _ from ?_)
          refine wp_cond_false rfl ?_
          refine wp_skip ?_
          refine (show Code.wp _ _ _ _ _ from ?_)
          refine wp_seq ?_
          refine wp_region_L (W0 := w) [] (hW5) ?_
          refine lm (v := strV t) rfl rfl ?_
          refine lm (v := .int .i64 ((p : Nat) : Int)) rfl rfl ?_
          refine lp (v := strV (t.take p)) rfl rfl (run_slH (k2 := .i64) (l := t) (r := (t.take p)) (j := p) rfl Try.underlying9 (by kernel_rfl) (by kernel_rfl) (by omega) rfl) ?_
          refine wpL_c (f := 15) (args := #[strV (t.take p)]) (fun v Tz => v = .tuple #[.slice none 0 0, .int .i64 ((p : Nat) : Int), .int .i64 ((42 : Nat) : Int)] ∧ Tz = []) rfl (by kernel_rfl) (fun _ => (by kernel_rfl)) (fun W hW => Read_bad h1 (by omega) W (hW.sub (fun _ h => by cases h))) (fun _ => by simp only [List.setIfInBounds_toArray, List.set_cons_succ, List.set_cons_zero] <;> rfl) ?_
          rintro _ _ ⟨rfl, rfl⟩
          refine lm (v := .tuple #[.slice none 0 0, .int .i64 ((p : Nat) : Int), .int .i64 42]) rfl rfl ?_
          refine lm (v := .slice none 0 0) rfl rfl ?_
          refine lm (v := .int .i64 ((p : Nat) : Int)) rfl rfl ?_
          refine lm (v := .int .i64 42) rfl rfl ?_
          refine lm (v := .slice none 0 0) rfl rfl ?_
          refine lm (v := .int .i64 ((p : Nat) : Int)) rfl rfl ?_
          refine lm (v := .int .i64 42) rfl rfl ?_
          refine wpL_done (fun W6 hW6 => ?_)
          refine (show Code.wp _ _ _ _ _ from ?_)
          refine wp_seq ?_
          refine wp_seq ?_
          refine wp_region_L (W0 := w) [] (hW6) ?_
          refine lm (v := .int .i64 42) rfl rfl ?_
          refine lm (v := .bool true) rfl rfl ?_
          refine lm (v := .bool true) rfl rfl ?_
          refine lm (v := .int .i64 42) rfl rfl ?_
          refine lm (v := .bool false) rfl rfl ?_
          refine lm (v := .bool false) rfl rfl ?_
          refine lm (v := .int .i64 ((p : Nat) : Int)) rfl rfl ?_
          refine lm (v := .int .i64 ((p : Nat) : Int)) rfl rfl ?_
          refine lp (v := .bool false) rfl rfl (run_bin rfl (vx := (.int .i64 ((p : Nat) : Int))) (vy := (.int .i64 ((p : Nat) : Int))) (by kernel_rfl) (by kernel_rfl) fun w => bn_neq (decide_eq_true rfl) w) ?_
          refine lm (v := .bool false) rfl rfl ?_
          refine lm (v := .bool false) rfl rfl ?_
          refine wpL_done (fun W7 hW7 => ?_)
          refine (show Code.wp _ _ _ _ _ from ?_)
          refine wp_cond_false rfl ?_
          refine wp_skip ?_
          refine (show Code.wp _ _ _ _ _ from ?_)
          refine wp_seq ?_
          refine wp_region_L (W0 := w) [] (hW7) ?_
          refine lm (v := .int .i64 ((p : Nat) : Int)) rfl rfl ?_
          refine lp (v := .int .i64 (((p + 1) : Nat) : Int)) rfl rfl (run_bin rfl (vx := (.int .i64 ((p : Nat) : Int))) (vy := (.int .i64 ((1 : Nat) : Int))) (by kernel_rfl) (by kernel_rfl) fun w => bn_add (z := (p + 1)) rfl (wr_i64 (by omega)) w) ?_
          refine lm (v := .int .i64 (((p + 1) : Nat) : Int)) rfl rfl ?_
          refine wpL_done (fun W8 hW8 => ?_)
          refine (show Code.wp _ _ _ _ _ from ?_)
          refine wp_seq ?_
          refine wp_seq ?_
          refine wp_region_L (W0 := w) [] (hW8) ?_
          refine lm (v := strV t) rfl rfl ?_
          refine lm (v := .int .i64 ((p : Nat) : Int)) rfl rfl ?_
          refine lp (v := .int .u8 ((x.toNat : Nat) : Int)) rfl rfl (run_idxS (j := .i64) (l := t) (k := p) (b := x) rfl Try.underlying9 (by kernel_rfl) (by kernel_rfl) hx) ?_
          refine lp (v := .bool true) rfl rfl (run_bin rfl (vx := (.int .u8 ((x.toNat : Nat) : Int))) (vy := (.int .u8 ((63 : Nat) : Int))) (by kernel_rfl) (by kernel_rfl) fun w => bn_eql (decide_eq_true h63) w) ?_
          refine wpL_done (fun W9 hW9 => ?_)
          refine (show Code.wp _ _ _ _ _ from ?_)
          refine wp_cond_true rfl ?_
          refine wp_region_L (W0 := w) [] (hW9) ?_
          refine lm (v := .int .i64 ((p : Nat) : Int)) rfl rfl ?_
          refine lp (v := .int .i64 (((p + 2) : Nat) : Int)) rfl rfl (run_bin rfl (vx := (.int .i64 ((p : Nat) : Int))) (vy := (.int .i64 ((2 : Nat) : Int))) (by kernel_rfl) (by kernel_rfl) fun w => bn_add (z := (p + 2)) rfl (wr_i64 (by omega)) w) ?_
          refine lm (v := strV t) rfl rfl ?_
          refine lp (v := .int .i64 ((t.length : Nat) : Int)) rfl rfl (run_lenS (l := t) rfl Try.underlying9 (by kernel_rfl)) ?_
          refine lp (v := .int .i64 ((t.length : Nat) : Int)) rfl rfl (run_minR (k := .i64) (k2 := .i64) (u := (((p + 2) : Nat) : Int)) (v := ((t.length : Nat) : Int)) rfl (by kernel_rfl) (by kernel_rfl) (by rw [if_pos (by omega)])) ?_
          refine lm (v := .int .i64 ((t.length : Nat) : Int)) rfl rfl ?_
          refine wpL_done (fun W10 hW10 => ?_)
          refine (show Code.wp _ _ _ _ _ from ?_)
          refine wp_seq ?_
          refine wp_seq ?_
          refine wp_region_L (W0 := w) [] (hW10) ?_
          refine lm (v := .int .i64 ((er : Nat) : Int)) rfl rfl ?_
          refine lp (v := .bool true) rfl rfl (run_bin rfl (vx := (.int .i64 ((er : Nat) : Int))) (vy := (.int .i64 ((41 : Nat) : Int))) (by kernel_rfl) (by kernel_rfl) fun w => bn_eql (decide_eq_true he) w) ?_
          refine lm (v := .bool true) rfl rfl ?_
          refine lm (v := .int .i64 ((t.length : Nat) : Int)) rfl rfl ?_
          refine lm (v := .int .i64 ((p : Nat) : Int)) rfl rfl ?_
          refine lp (v := .int .i64 (((p + 1) : Nat) : Int)) rfl rfl (run_bin rfl (vx := (.int .i64 ((p : Nat) : Int))) (vy := (.int .i64 ((1 : Nat) : Int))) (by kernel_rfl) (by kernel_rfl) fun w => bn_add (z := (p + 1)) rfl (wr_i64 (by omega)) w) ?_
          refine lp (v := .bool true) rfl rfl (run_bin rfl (vx := (.int .i64 ((t.length : Nat) : Int))) (vy := (.int .i64 (((p + 1) : Nat) : Int))) (by kernel_rfl) (by kernel_rfl) fun w => bn_eql (decide_eq_true hend.symm) w) ?_
          refine lm (v := .bool true) rfl rfl ?_
          refine wpL_done (fun W11 hW11 => ?_)
          refine (show Code.wp _ _ _ _ _ from ?_)
          refine wp_cond_true rfl ?_
          refine wp_seq ?_
          refine wp_region_L (W0 := w) [] (hW11) ?_
          refine lm (v := .bool true) rfl rfl ?_
          refine wpL_done (fun W12 hW12 => ?_)
          refine (show Code.wp _ _ _ _ _ from ?_)
          refine wp_ret ?_
          try simp only [inBlock_ret, then_ret]
          refine bodyPost_ret (v := .bool true) ?_ rfl ?_
          · kernel_rfl
          · exact ⟨rfl, (hW12).1⟩
        by_cases hend : t.length < p + 2
        · by_cases he : er = 41
          · skip
            go_enter Try.func8, Try.ntmps8
            refine wp_seq ?_
            refine wp_region_L (W0 := w) [] (KS.start w) ?_
            refine lm (v := .bool false) rfl rfl ?_
            refine wpL_done (fun W1 hW1 => ?_)
            refine (show Code.wp _ _ _ _ _ from ?_)
            refine wp_seq ?_
            refine wp_seq ?_
            refine wp_region_L (W0 := w) [] (hW1) ?_
            refine lv (v := .bool true) rfl rfl (yb_call (f := 10) (args := #[]) (fun _ => by kernel_rfl) fun W hW => awake_any W) ?_
            refine lm (v := .bool false) rfl rfl ?_
            refine wpL_done (fun W2 hW2 => ?_)
            refine (show Code.wp _ _ _ _ _ from ?_)
            refine wp_cond_false rfl ?_
            refine wp_skip ?_
            refine (show Code.wp _ _ _ _ _ from ?_)
            refine wp_seq ?_
            refine wp_seq ?_
            refine wp_region_L (W0 := w) [] (hW2) ?_
            refine lm (v := strV t) rfl rfl ?_
            refine lp (v := .int .i64 ((t.length : Nat) : Int)) rfl rfl (run_lenS (l := t) rfl Try.underlying9 (by kernel_rfl)) ?_
            refine lp (v := .bool false) rfl rfl (run_bin rfl (vx := (.int .i64 ((t.length : Nat) : Int))) (vy := (.int .i64 ((2000 : Nat) : Int))) (by kernel_rfl) (by kernel_rfl) fun w => bn_gtr (decide_eq_false hl) w) ?_
            refine lm (v := .bool false) rfl rfl ?_
            refine lm (v := strV o) rfl rfl ?_
            refine lp (v := .int .i64 ((o.length : Nat) : Int)) rfl rfl (run_lenS (l := o) rfl Try.underlying9 (by kernel_rfl)) ?_
            refine lp (v := .bool false) rfl rfl (run_bin rfl (vx := (.int .i64 ((o.length : Nat) : Int))) (vy := (.int .i64 ((2000 : Nat) : Int))) (by kernel_rfl) (by kernel_rfl) fun w => bn_gtr (decide_eq_false hl2) w) ?_
            refine lm (v := .bool false) rfl rfl ?_
            refine wpL_done (fun W3 hW3 => ?_)
            refine (show Code.wp _ _ _ _ _ from ?_)
            refine wp_cond_false rfl ?_
            refine wp_skip ?_
            refine (show Code.wp _ _ _ _ _ from ?_)
            refine wp_seq ?_
            refine wp_region_L (W0 := w) [] (hW3) ?_
            refine lm (v := strV t) rfl rfl ?_
            refine wpL_c (f := 15) (args := #[strV t]) (fun v Tz => v = .tuple #[.slice none 0 0, .int .i64 ((p : Nat) : Int), .int .i64 ((er : Nat) : Int)] ∧ Tz = []) rfl (by kernel_rfl) (fun _ => (by kernel_rfl)) (fun W hW => Read_bad hr (by first | omega | (simp only [List.length_append, List.length_cons, List.length_nil]; omega)) W (hW.sub (fun _ h => by cases h))) (fun _ => by simp only [List.setIfInBounds_toArray, List.set_cons_succ, List.set_cons_zero] <;> rfl) ?_
            rintro _ _ ⟨rfl, rfl⟩
            refine lm (v := .tuple #[.slice none 0 0, .int .i64 ((p : Nat) : Int), .int .i64 ((er : Nat) : Int)]) rfl rfl ?_
            refine lm (v := .slice none 0 0) rfl rfl ?_
            refine lm (v := .int .i64 ((p : Nat) : Int)) rfl rfl ?_
            refine lm (v := .int .i64 ((er : Nat) : Int)) rfl rfl ?_
            refine lm (v := .slice none 0 0) rfl rfl ?_
            refine lm (v := .int .i64 ((p : Nat) : Int)) rfl rfl ?_
            refine lm (v := .int .i64 ((er : Nat) : Int)) rfl rfl ?_
            refine wpL_done (fun W4 hW4 => ?_)
            refine (show Code.wp _ _ _ _ _ from ?_)
            refine wp_seq ?_
            refine wp_seq ?_
            refine wp_region_L (W0 := w) [] (hW4) ?_
            refine lm (v := .int .i64 ((er : Nat) : Int)) rfl rfl ?_
            refine lp (v := .bool false) rfl rfl (run_bin rfl (vx := (.int .i64 ((er : Nat) : Int))) (vy := (.int .i64 ((0 : Nat) : Int))) (by kernel_rfl) (by kernel_rfl) fun w => bn_eql (decide_eq_false hne) w) ?_
            refine lm (v := .bool false) rfl rfl ?_
            refine lm (v := .int .i64 ((er : Nat) : Int)) rfl rfl ?_
            refine lp (v := .bool false) rfl rfl (run_bin rfl (vx := (.int .i64 ((er : Nat) : Int))) (vy := (.int .i64 ((42 : Nat) : Int))) (by kernel_rfl) (by kernel_rfl) fun w => bn_eql (decide_eq_false h42) w) ?_
            refine lm (v := .bool false) rfl rfl ?_
            refine wpL_done (fun W5 hW5 => ?_)
            refine (show Code.wp _ _ _ _ _ from ?_)
            refine wp_cond_false rfl ?_
            refine wp_skip ?_
            refine (show Code.wp _ _ _ _ _ from ?_)
            refine wp_seq ?_
            refine wp_region_L (W0 := w) [] (hW5) ?_
            refine lm (v := strV t) rfl rfl ?_
            refine lm (v := .int .i64 ((p : Nat) : Int)) rfl rfl ?_
            refine lp (v := strV (t.take p)) rfl rfl (run_slH (k2 := .i64) (l := t) (r := (t.take p)) (j := p) rfl Try.underlying9 (by kernel_rfl) (by kernel_rfl) (by omega) rfl) ?_
            refine wpL_c (f := 15) (args := #[strV (t.take p)]) (fun v Tz => v = .tuple #[.slice none 0 0, .int .i64 ((p : Nat) : Int), .int .i64 ((42 : Nat) : Int)] ∧ Tz = []) rfl (by kernel_rfl) (fun _ => (by kernel_rfl)) (fun W hW => Read_bad h1 (by omega) W (hW.sub (fun _ h => by cases h))) (fun _ => by simp only [List.setIfInBounds_toArray, List.set_cons_succ, List.set_cons_zero] <;> rfl) ?_
            rintro _ _ ⟨rfl, rfl⟩
            refine lm (v := .tuple #[.slice none 0 0, .int .i64 ((p : Nat) : Int), .int .i64 42]) rfl rfl ?_
            refine lm (v := .slice none 0 0) rfl rfl ?_
            refine lm (v := .int .i64 ((p : Nat) : Int)) rfl rfl ?_
            refine lm (v := .int .i64 42) rfl rfl ?_
            refine lm (v := .slice none 0 0) rfl rfl ?_
            refine lm (v := .int .i64 ((p : Nat) : Int)) rfl rfl ?_
            refine lm (v := .int .i64 42) rfl rfl ?_
            refine wpL_done (fun W6 hW6 => ?_)
            refine (show Code.wp _ _ _ _ _ from ?_)
            refine wp_seq ?_
            refine wp_seq ?_
            refine wp_region_L (W0 := w) [] (hW6) ?_
            refine lm (v := .int .i64 42) rfl rfl ?_
            refine lm (v := .bool true) rfl rfl ?_
            refine lm (v := .bool true) rfl rfl ?_
            refine lm (v := .int .i64 42) rfl rfl ?_
            refine lm (v := .bool false) rfl rfl ?_
            refine lm (v := .bool false) rfl rfl ?_
            refine lm (v := .int .i64 ((p : Nat) : Int)) rfl rfl ?_
            refine lm (v := .int .i64 ((p : Nat) : Int)) rfl rfl ?_
            refine lp (v := .bool false) rfl rfl (run_bin rfl (vx := (.int .i64 ((p : Nat) : Int))) (vy := (.int .i64 ((p : Nat) : Int))) (by kernel_rfl) (by kernel_rfl) fun w => bn_neq (decide_eq_true rfl) w) ?_
            refine lm (v := .bool false) rfl rfl ?_
            refine lm (v := .bool false) rfl rfl ?_
            refine wpL_done (fun W7 hW7 => ?_)
            refine (show Code.wp _ _ _ _ _ from ?_)
            refine wp_cond_false rfl ?_
            refine wp_skip ?_
            refine (show Code.wp _ _ _ _ _ from ?_)
            refine wp_seq ?_
            refine wp_region_L (W0 := w) [] (hW7) ?_
            refine lm (v := .int .i64 ((p : Nat) : Int)) rfl rfl ?_
            refine lp (v := .int .i64 (((p + 1) : Nat) : Int)) rfl rfl (run_bin rfl (vx := (.int .i64 ((p : Nat) : Int))) (vy := (.int .i64 ((1 : Nat) : Int))) (by kernel_rfl) (by kernel_rfl) fun w => bn_add (z := (p + 1)) rfl (wr_i64 (by omega)) w) ?_
            refine lm (v := .int .i64 (((p + 1) : Nat) : Int)) rfl rfl ?_
            refine wpL_done (fun W8 hW8 => ?_)
            refine (show Code.wp _ _ _ _ _ from ?_)
            refine wp_seq ?_
            refine wp_seq ?_
            refine wp_region_L (W0 := w) [] (hW8) ?_
            refine lm (v := strV t) rfl rfl ?_
            refine lm (v := .int .i64 ((p : Nat) : Int)) rfl rfl ?_
            refine lp (v := .int .u8 ((x.toNat : Nat) : Int)) rfl rfl (run_idxS (j := .i64) (l := t) (k := p) (b := x) rfl Try.underlying9 (by kernel_rfl) (by kernel_rfl) hx) ?_
            refine lp (v := .bool true) rfl rfl (run_bin rfl (vx := (.int .u8 ((x.toNat : Nat) : Int))) (vy := (.int .u8 ((63 : Nat) : Int))) (by kernel_rfl) (by kernel_rfl) fun w => bn_eql (decide_eq_true h63) w) ?_
            refine wpL_done (fun W9 hW9 => ?_)
            refine (show Code.wp _ _ _ _ _ from ?_)
            refine wp_cond_true rfl ?_
            refine wp_region_L (W0 := w) [] (hW9) ?_
            refine lm (v := .int .i64 ((p : Nat) : Int)) rfl rfl ?_
            refine lp (v := .int .i64 (((p + 2) : Nat) : Int)) rfl rfl (run_bin rfl (vx := (.int .i64 ((p : Nat) : Int))) (vy := (.int .i64 ((2 : Nat) : Int))) (by kernel_rfl) (by kernel_rfl) fun w => bn_add (z := (p + 2)) rfl (wr_i64 (by omega)) w) ?_
            refine lm (v := strV t) rfl rfl ?_
            refine lp (v := .int .i64 ((t.length : Nat) : Int)) rfl rfl (run_lenS (l := t) rfl Try.underlying9 (by kernel_rfl)) ?_
            refine lp (v := .int .i64 ((t.length : Nat) : Int)) rfl rfl (run_minR (k := .i64) (k2 := .i64) (u := (((p + 2) : Nat) : Int)) (v := ((t.length : Nat) : Int)) rfl (by kernel_rfl) (by kernel_rfl) (by rw [if_pos (by omega)])) ?_
            refine lm (v := .int .i64 ((t.length : Nat) : Int)) rfl rfl ?_
            refine wpL_done (fun W10 hW10 => ?_)
            refine (show Code.wp _ _ _ _ _ from ?_)
            refine wp_seq ?_
            refine wp_seq ?_
            refine wp_region_L (W0 := w) [] (hW10) ?_
            refine lm (v := .int .i64 ((er : Nat) : Int)) rfl rfl ?_
            refine lp (v := .bool true) rfl rfl (run_bin rfl (vx := (.int .i64 ((er : Nat) : Int))) (vy := (.int .i64 ((41 : Nat) : Int))) (by kernel_rfl) (by kernel_rfl) fun w => bn_eql (decide_eq_true he) w) ?_
            refine lm (v := .bool true) rfl rfl ?_
            refine lm (v := .int .i64 ((t.length : Nat) : Int)) rfl rfl ?_
            refine lm (v := .int .i64 ((p : Nat) : Int)) rfl rfl ?_
            refine lp (v := .int .i64 (((p + 1) : Nat) : Int)) rfl rfl (run_bin rfl (vx := (.int .i64 ((p : Nat) : Int))) (vy := (.int .i64 ((1 : Nat) : Int))) (by kernel_rfl) (by kernel_rfl) fun w => bn_add (z := (p + 1)) rfl (wr_i64 (by omega)) w) ?_
            refine lp (v := .bool true) rfl rfl (run_bin rfl (vx := (.int .i64 ((t.length : Nat) : Int))) (vy := (.int .i64 (((p + 1) : Nat) : Int))) (by kernel_rfl) (by kernel_rfl) fun w => bn_eql (decide_eq_true (by omega)) w) ?_
            refine lm (v := .bool true) rfl rfl ?_
            refine wpL_done (fun W11 hW11 => ?_)
            refine (show Code.wp _ _ _ _ _ from ?_)
            refine wp_cond_true rfl ?_
            refine wp_seq ?_
            refine wp_region_L (W0 := w) [] (hW11) ?_
            refine lm (v := .bool true) rfl rfl ?_
            refine wpL_done (fun W12 hW12 => ?_)
            refine (show Code.wp _ _ _ _ _ from ?_)
            refine wp_ret ?_
            try simp only [inBlock_ret, then_ret]
            refine bodyPost_ret (v := .bool true) ?_ rfl ?_
            · kernel_rfl
            · exact ⟨rfl, (hW12).1⟩
          exact absurd (last_q hr hx h63 (by omega) (by omega)) he
        have h3 : readT (t.take (p + 2) ++ o) = .bad p er := h2 (p + 2) o (by omega) (fun _ => by omega) (by rw [List.length_append, List.length_take]; omega) (by omega)
        go_enter Try.func8, Try.ntmps8
        refine wp_seq ?_
        refine wp_region_L (W0 := w) [] (KS.start w) ?_
        refine lm (v := .bool false) rfl rfl ?_
        refine wpL_done (fun W1 hW1 => ?_)
        refine (show Code.wp _ _ _ _ _ from ?_)
        refine wp_seq ?_
        refine wp_seq ?_
        refine wp_region_L (W0 := w) [] (hW1) ?_
        refine lv (v := .bool true) rfl rfl (yb_call (f := 10) (args := #[]) (fun _ => by kernel_rfl) fun W hW => awake_any W) ?_
        refine lm (v := .bool false) rfl rfl ?_
        refine wpL_done (fun W2 hW2 => ?_)
        refine (show Code.wp _ _ _ _ _ from ?_)
        refine wp_cond_false rfl ?_
        refine wp_skip ?_
        refine (show Code.wp _ _ _ _ _ from ?_)
        refine wp_seq ?_
        refine wp_seq ?_
        refine wp_region_L (W0 := w) [] (hW2) ?_
        refine lm (v := strV t) rfl rfl ?_
        refine lp (v := .int .i64 ((t.length : Nat) : Int)) rfl rfl (run_lenS (l := t) rfl Try.underlying9 (by kernel_rfl)) ?_
        refine lp (v := .bool false) rfl rfl (run_bin rfl (vx := (.int .i64 ((t.length : Nat) : Int))) (vy := (.int .i64 ((2000 : Nat) : Int))) (by kernel_rfl) (by kernel_rfl) fun w => bn_gtr (decide_eq_false hl) w) ?_
        refine lm (v := .bool false) rfl rfl ?_
        refine lm (v := strV o) rfl rfl ?_
        refine lp (v := .int .i64 ((o.length : Nat) : Int)) rfl rfl (run_lenS (l := o) rfl Try.underlying9 (by kernel_rfl)) ?_
        refine lp (v := .bool false) rfl rfl (run_bin rfl (vx := (.int .i64 ((o.length : Nat) : Int))) (vy := (.int .i64 ((2000 : Nat) : Int))) (by kernel_rfl) (by kernel_rfl) fun w => bn_gtr (decide_eq_false hl2) w) ?_
        refine lm (v := .bool false) rfl rfl ?_
        refine wpL_done (fun W3 hW3 => ?_)
        refine (show Code.wp _ _ _ _ _ from ?_)
        refine wp_cond_false rfl ?_
        refine wp_skip ?_
        refine (show Code.wp _ _ _ _ _ from ?_)
        refine wp_seq ?_
        refine wp_region_L (W0 := w) [] (hW3) ?_
        refine lm (v := strV t) rfl rfl ?_
        refine wpL_c (f := 15) (args := #[strV t]) (fun v Tz => v = .tuple #[.slice none 0 0, .int .i64 ((p : Nat) : Int), .int .i64 ((er : Nat) : Int)] ∧ Tz = []) rfl (by kernel_rfl) (fun _ => (by kernel_rfl)) (fun W hW => Read_bad hr (by first | omega | (simp only [List.length_append, List.length_cons, List.length_nil]; omega)) W (hW.sub (fun _ h => by cases h))) (fun _ => by simp only [List.setIfInBounds_toArray, List.set_cons_succ, List.set_cons_zero] <;> rfl) ?_
        rintro _ _ ⟨rfl, rfl⟩
        refine lm (v := .tuple #[.slice none 0 0, .int .i64 ((p : Nat) : Int), .int .i64 ((er : Nat) : Int)]) rfl rfl ?_
        refine lm (v := .slice none 0 0) rfl rfl ?_
        refine lm (v := .int .i64 ((p : Nat) : Int)) rfl rfl ?_
        refine lm (v := .int .i64 ((er : Nat) : Int)) rfl rfl ?_
        refine lm (v := .slice none 0 0) rfl rfl ?_
        refine lm (v := .int .i64 ((p : Nat) : Int)) rfl rfl ?_
        refine lm (v := .int .i64 ((er : Nat) : Int)) rfl rfl ?_
        refine wpL_done (fun W4 hW4 => ?_)
        refine (show Code.wp _ _ _ _ _ from ?_)
        refine wp_seq ?_
        refine wp_seq ?_
        refine wp_region_L (W0 := w) [] (hW4) ?_
        refine lm (v := .int .i64 ((er : Nat) : Int)) rfl rfl ?_
        refine lp (v := .bool false) rfl rfl (run_bin rfl (vx := (.int .i64 ((er : Nat) : Int))) (vy := (.int .i64 ((0 : Nat) : Int))) (by kernel_rfl) (by kernel_rfl) fun w => bn_eql (decide_eq_false hne) w) ?_
        refine lm (v := .bool false) rfl rfl ?_
        refine lm (v := .int .i64 ((er : Nat) : Int)) rfl rfl ?_
        refine lp (v := .bool false) rfl rfl (run_bin rfl (vx := (.int .i64 ((er : Nat) : Int))) (vy := (.int .i64 ((42 : Nat) : Int))) (by kernel_rfl) (by kernel_rfl) fun w => bn_eql (decide_eq_false h42) w) ?_
        refine lm (v := .bool false) rfl rfl ?_
        refine wpL_done (fun W5 hW5 => ?_)
        refine (show Code.wp _ _ _ _ _ from ?_)
        refine wp_cond_false rfl ?_
        refine wp_skip ?_
        refine (show Code.wp _ _ _ _ _ from ?_)
        refine wp_seq ?_
        refine wp_region_L (W0 := w) [] (hW5) ?_
        refine lm (v := strV t) rfl rfl ?_
        refine lm (v := .int .i64 ((p : Nat) : Int)) rfl rfl ?_
        refine lp (v := strV (t.take p)) rfl rfl (run_slH (k2 := .i64) (l := t) (r := (t.take p)) (j := p) rfl Try.underlying9 (by kernel_rfl) (by kernel_rfl) (by omega) rfl) ?_
        refine wpL_c (f := 15) (args := #[strV (t.take p)]) (fun v Tz => v = .tuple #[.slice none 0 0, .int .i64 ((p : Nat) : Int), .int .i64 ((42 : Nat) : Int)] ∧ Tz = []) rfl (by kernel_rfl) (fun _ => (by kernel_rfl)) (fun W hW => Read_bad h1 (by omega) W (hW.sub (fun _ h => by cases h))) (fun _ => by simp only [List.setIfInBounds_toArray, List.set_cons_succ, List.set_cons_zero] <;> rfl) ?_
        rintro _ _ ⟨rfl, rfl⟩
        refine lm (v := .tuple #[.slice none 0 0, .int .i64 ((p : Nat) : Int), .int .i64 42]) rfl rfl ?_
        refine lm (v := .slice none 0 0) rfl rfl ?_
        refine lm (v := .int .i64 ((p : Nat) : Int)) rfl rfl ?_
        refine lm (v := .int .i64 42) rfl rfl ?_
        refine lm (v := .slice none 0 0) rfl rfl ?_
        refine lm (v := .int .i64 ((p : Nat) : Int)) rfl rfl ?_
        refine lm (v := .int .i64 42) rfl rfl ?_
        refine wpL_done (fun W6 hW6 => ?_)
        refine (show Code.wp _ _ _ _ _ from ?_)
        refine wp_seq ?_
        refine wp_seq ?_
        refine wp_region_L (W0 := w) [] (hW6) ?_
        refine lm (v := .int .i64 42) rfl rfl ?_
        refine lm (v := .bool true) rfl rfl ?_
        refine lm (v := .bool true) rfl rfl ?_
        refine lm (v := .int .i64 42) rfl rfl ?_
        refine lm (v := .bool false) rfl rfl ?_
        refine lm (v := .bool false) rfl rfl ?_
        refine lm (v := .int .i64 ((p : Nat) : Int)) rfl rfl ?_
        refine lm (v := .int .i64 ((p : Nat) : Int)) rfl rfl ?_
        refine lp (v := .bool false) rfl rfl (run_bin rfl (vx := (.int .i64 ((p : Nat) : Int))) (vy := (.int .i64 ((p : Nat) : Int))) (by kernel_rfl) (by kernel_rfl) fun w => bn_neq (decide_eq_true rfl) w) ?_
        refine lm (v := .bool false) rfl rfl ?_
        refine lm (v := .bool false) rfl rfl ?_
        refine wpL_done (fun W7 hW7 => ?_)
        refine (show Code.wp _ _ _ _ _ from ?_)
        refine wp_cond_false rfl ?_
        refine wp_skip ?_
        refine (show Code.wp _ _ _ _ _ from ?_)
        refine wp_seq ?_
        refine wp_region_L (W0 := w) [] (hW7) ?_
        refine lm (v := .int .i64 ((p : Nat) : Int)) rfl rfl ?_
        refine lp (v := .int .i64 (((p + 1) : Nat) : Int)) rfl rfl (run_bin rfl (vx := (.int .i64 ((p : Nat) : Int))) (vy := (.int .i64 ((1 : Nat) : Int))) (by kernel_rfl) (by kernel_rfl) fun w => bn_add (z := (p + 1)) rfl (wr_i64 (by omega)) w) ?_
        refine lm (v := .int .i64 (((p + 1) : Nat) : Int)) rfl rfl ?_
        refine wpL_done (fun W8 hW8 => ?_)
        refine (show Code.wp _ _ _ _ _ from ?_)
        refine wp_seq ?_
        refine wp_seq ?_
        refine wp_region_L (W0 := w) [] (hW8) ?_
        refine lm (v := strV t) rfl rfl ?_
        refine lm (v := .int .i64 ((p : Nat) : Int)) rfl rfl ?_
        refine lp (v := .int .u8 ((x.toNat : Nat) : Int)) rfl rfl (run_idxS (j := .i64) (l := t) (k := p) (b := x) rfl Try.underlying9 (by kernel_rfl) (by kernel_rfl) hx) ?_
        refine lp (v := .bool true) rfl rfl (run_bin rfl (vx := (.int .u8 ((x.toNat : Nat) : Int))) (vy := (.int .u8 ((63 : Nat) : Int))) (by kernel_rfl) (by kernel_rfl) fun w => bn_eql (decide_eq_true h63) w) ?_
        refine wpL_done (fun W9 hW9 => ?_)
        refine (show Code.wp _ _ _ _ _ from ?_)
        refine wp_cond_true rfl ?_
        refine wp_region_L (W0 := w) [] (hW9) ?_
        refine lm (v := .int .i64 ((p : Nat) : Int)) rfl rfl ?_
        refine lp (v := .int .i64 (((p + 2) : Nat) : Int)) rfl rfl (run_bin rfl (vx := (.int .i64 ((p : Nat) : Int))) (vy := (.int .i64 ((2 : Nat) : Int))) (by kernel_rfl) (by kernel_rfl) fun w => bn_add (z := (p + 2)) rfl (wr_i64 (by omega)) w) ?_
        refine lm (v := strV t) rfl rfl ?_
        refine lp (v := .int .i64 ((t.length : Nat) : Int)) rfl rfl (run_lenS (l := t) rfl Try.underlying9 (by kernel_rfl)) ?_
        refine lp (v := .int .i64 (((p + 2) : Nat) : Int)) rfl rfl (run_minR (k := .i64) (k2 := .i64) (u := (((p + 2) : Nat) : Int)) (v := ((t.length : Nat) : Int)) rfl (by kernel_rfl) (by kernel_rfl) (by rw [if_neg (by omega)])) ?_
        refine lm (v := .int .i64 (((p + 2) : Nat) : Int)) rfl rfl ?_
        refine wpL_done (fun W10 hW10 => ?_)
        refine (show Code.wp _ _ _ _ _ from ?_)
        refine wp_seq ?_
        refine wp_seq ?_
        refine wp_region_L (W0 := w) [] (hW10) ?_
        refine lm (v := .int .i64 ((er : Nat) : Int)) rfl rfl ?_
        refine lp (v := .bool (decide (er = 41))) rfl rfl (run_bin rfl (vx := (.int .i64 ((er : Nat) : Int))) (vy := (.int .i64 ((41 : Nat) : Int))) (by kernel_rfl) (by kernel_rfl) fun w => bn_eql rfl w) ?_
        refine lm (v := .bool (decide (er = 41))) rfl rfl ?_
        cases hd1 : (decide (er = 41)) with
        | false =>
          have h1 : ¬ (er = 41) := of_decide_eq_false hd1
          clear hd1
          refine ln rfl ?_
          refine ln rfl ?_
          refine ln rfl ?_
          refine ln rfl ?_
          refine lm (v := .bool false) rfl rfl ?_
          refine wpL_done (fun W11 hW11 => ?_)
          refine (show Code.wp _ _ _ _ _ from ?_)
          refine wp_cond_false rfl ?_
          refine wp_skip ?_
          refine (show Code.wp _ _ _ _ _ from ?_)
          refine wp_seq ?_
          refine wp_region_L (W0 := w) [] (hW11) ?_
          refine lm (v := strV t) rfl rfl ?_
          refine lm (v := .int .i64 (((p + 2) : Nat) : Int)) rfl rfl ?_
          refine lp (v := strV (t.take (p + 2))) rfl rfl (run_slH (k2 := .i64) (l := t) (r := (t.take (p + 2))) (j := (p + 2)) rfl Try.underlying9 (by kernel_rfl) (by kernel_rfl) (by omega) rfl) ?_
          refine lm (v := strV o) rfl rfl ?_
          refine lp (v := strV ((t.take (p + 2)) ++ o)) rfl rfl (run_bin rfl (vx := strV (t.take (p + 2))) (vy := strV o) (by kernel_rfl) (by kernel_rfl) fun w => bs_add (c := ((t.take (p + 2)) ++ o)) rfl (by first | omega | (simp; omega)) w) ?_
          refine wpL_c (f := 15) (args := #[strV ((t.take (p + 2)) ++ o)]) (fun v Tz => v = .tuple #[.slice none 0 0, .int .i64 ((p : Nat) : Int), .int .i64 ((er : Nat) : Int)] ∧ Tz = []) rfl (by kernel_rfl) (fun _ => (by kernel_rfl)) (fun W hW => Read_bad h3 (by first | omega | (simp only [List.length_append, List.length_cons, List.length_nil]; omega)) W (hW.sub (fun _ h => by cases h))) (fun _ => by simp only [List.setIfInBounds_toArray, List.set_cons_succ, List.set_cons_zero] <;> rfl) ?_
          rintro _ _ ⟨rfl, rfl⟩
          refine lm (v := .tuple #[.slice none 0 0, .int .i64 ((p : Nat) : Int), .int .i64 ((er : Nat) : Int)]) rfl rfl ?_
          refine lm (v := .slice none 0 0) rfl rfl ?_
          refine lm (v := .int .i64 ((p : Nat) : Int)) rfl rfl ?_
          refine lm (v := .int .i64 ((er : Nat) : Int)) rfl rfl ?_
          refine lm (v := .int .i64 ((p : Nat) : Int)) rfl rfl ?_
          refine lm (v := .int .i64 ((er : Nat) : Int)) rfl rfl ?_
          refine wpL_done (fun W12 hW12 => ?_)
          refine (show Code.wp _ _ _ _ _ from ?_)
          refine wp_seq ?_
          refine wp_region_L (W0 := w) [] (hW12) ?_
          refine lm (v := .int .i64 ((er : Nat) : Int)) rfl rfl ?_
          refine lm (v := .int .i64 ((er : Nat) : Int)) rfl rfl ?_
          refine lp (v := .bool true) rfl rfl (run_bin rfl (vx := (.int .i64 ((er : Nat) : Int))) (vy := (.int .i64 ((er : Nat) : Int))) (by kernel_rfl) (by kernel_rfl) fun w => bn_eql (decide_eq_true rfl) w) ?_
          refine lm (v := .bool true) rfl rfl ?_
          refine lm (v := .int .i64 ((p : Nat) : Int)) rfl rfl ?_
          refine lm (v := .int .i64 ((p : Nat) : Int)) rfl rfl ?_
          refine lp (v := .bool true) rfl rfl (run_bin rfl (vx := (.int .i64 ((p : Nat) : Int))) (vy := (.int .i64 ((p : Nat) : Int))) (by kernel_rfl) (by kernel_rfl) fun w => bn_eql (decide_eq_true rfl) w) ?_
          refine lm (v := .bool true) rfl rfl ?_
          refine lm (v := .bool true) rfl rfl ?_
          refine wpL_done (fun W13 hW13 => ?_)
          refine (show Code.wp _ _ _ _ _ from ?_)
          refine wp_ret ?_
          try simp only [inBlock_ret, then_ret]
          refine bodyPost_ret (v := .bool true) ?_ rfl ?_
          · kernel_rfl
          · exact ⟨rfl, (hW13).1⟩
        | true =>
          have h1 : er = 41 := of_decide_eq_true hd1
          clear hd1
          refine lm (v := .int .i64 (((p + 2) : Nat) : Int)) rfl rfl ?_
          refine lm (v := .int .i64 ((p : Nat) : Int)) rfl rfl ?_
          refine lp (v := .int .i64 (((p + 1) : Nat) : Int)) rfl rfl (run_bin rfl (vx := (.int .i64 ((p : Nat) : Int))) (vy := (.int .i64 ((1 : Nat) : Int))) (by kernel_rfl) (by kernel_rfl) fun w => bn_add (z := (p + 1)) rfl (wr_i64 (by omega)) w) ?_
          refine lp (v := .bool false) rfl rfl (run_bin rfl (vx := (.int .i64 (((p + 2) : Nat) : Int))) (vy := (.int .i64 (((p + 1) : Nat) : Int))) (by kernel_rfl) (by kernel_rfl) fun w => bn_eql (decide_eq_false (by omega)) w) ?_
          refine lm (v := .bool false) rfl rfl ?_
          refine wpL_done (fun W14 hW14 => ?_)
          refine (show Code.wp _ _ _ _ _ from ?_)
          refine wp_cond_false rfl ?_
          refine wp_skip ?_
          refine (show Code.wp _ _ _ _ _ from ?_)
          refine wp_seq ?_
          refine wp_region_L (W0 := w) [] (hW14) ?_
          refine lm (v := strV t) rfl rfl ?_
          refine lm (v := .int .i64 (((p + 2) : Nat) : Int)) rfl rfl ?_
          refine lp (v := strV (t.take (p + 2))) rfl rfl (run_slH (k2 := .i64) (l := t) (r := (t.take (p + 2))) (j := (p + 2)) rfl Try.underlying9 (by kernel_rfl) (by kernel_rfl) (by omega) rfl) ?_
          refine lm (v := strV o) rfl rfl ?_
          refine lp (v := strV ((t.take (p + 2)) ++ o)) rfl rfl (run_bin rfl (vx := strV (t.take (p + 2))) (vy := strV o) (by kernel_rfl) (by kernel_rfl) fun w => bs_add (c := ((t.take (p + 2)) ++ o)) rfl (by first | omega | (simp; omega)) w) ?_
          refine wpL_c (f := 15) (args := #[strV ((t.take (p + 2)) ++ o)]) (fun v Tz => v = .tuple #[.slice none 0 0, .int .i64 ((p : Nat) : Int), .int .i64 ((er : Nat) : Int)] ∧ Tz = []) rfl (by kernel_rfl) (fun _ => (by kernel_rfl)) (fun W hW => Read_bad h3 (by first | omega | (simp only [List.length_append, List.length_cons, List.length_nil]; omega)) W (hW.sub (fun _ h => by cases h))) (fun _ => by simp only [List.setIfInBounds_toArray, List.set_cons_succ, List.set_cons_zero] <;> rfl) ?_
          rintro _ _ ⟨rfl, rfl⟩
          refine lm (v := .tuple #[.slice none 0 0, .int .i64 ((p : Nat) : Int), .int .i64 ((er : Nat) : Int)]) rfl rfl ?_
          refine lm (v := .slice none 0 0) rfl rfl ?_
          refine lm (v := .int .i64 ((p : Nat) : Int)) rfl rfl ?_
          refine lm (v := .int .i64 ((er : Nat) : Int)) rfl rfl ?_
          refine lm (v := .int .i64 ((p : Nat) : Int)) rfl rfl ?_
          refine lm (v := .int .i64 ((er : Nat) : Int)) rfl rfl ?_
          refine wpL_done (fun W15 hW15 => ?_)
          refine (show Code.wp _ _ _ _ _ from ?_)
          refine wp_seq ?_
          refine wp_region_L (W0 := w) [] (hW15) ?_
          refine lm (v := .int .i64 ((er : Nat) : Int)) rfl rfl ?_
          refine lm (v := .int .i64 ((er : Nat) : Int)) rfl rfl ?_
          refine lp (v := .bool true) rfl rfl (run_bin rfl (vx := (.int .i64 ((er : Nat) : Int))) (vy := (.int .i64 ((er : Nat) : Int))) (by kernel_rfl) (by kernel_rfl) fun w => bn_eql (decide_eq_true rfl) w) ?_
          refine lm (v := .bool true) rfl rfl ?_
          refine lm (v := .int .i64 ((p : Nat) : Int)) rfl rfl ?_
          refine lm (v := .int .i64 ((p : Nat) : Int)) rfl rfl ?_
          refine lp (v := .bool true) rfl rfl (run_bin rfl (vx := (.int .i64 ((p : Nat) : Int))) (vy := (.int .i64 ((p : Nat) : Int))) (by kernel_rfl) (by kernel_rfl) fun w => bn_eql (decide_eq_true rfl) w) ?_
          refine lm (v := .bool true) rfl rfl ?_
          refine lm (v := .bool true) rfl rfl ?_
          refine wpL_done (fun W16 hW16 => ?_)
          refine (show Code.wp _ _ _ _ _ from ?_)
          refine wp_ret ?_
          try simp only [inBlock_ret, then_ret]
          refine bodyPost_ret (v := .bool true) ?_ rfl ?_
          · kernel_rfl
          · exact ⟨rfl, (hW16).1⟩
      · rcases h2 with ⟨h, _⟩ | h2
        · exact absurd h h63
        have h3 : readT (t.take (p + 1) ++ o) = .bad p er := h2 (p + 1) o (Nat.le_refl _) (fun h => absurd h h63) (by rw [List.length_append, List.length_take]; omega) (by omega)
        go_enter Try.func8, Try.ntmps8
        refine wp_seq ?_
        refine wp_region_L (W0 := w) [] (KS.start w) ?_
        refine lm (v := .bool false) rfl rfl ?_
        refine wpL_done (fun W1 hW1 => ?_)
        refine (show Code.wp _ _ _ _ _ from ?_)
        refine wp_seq ?_
        refine wp_seq ?_
        refine wp_region_L (W0 := w) [] (hW1) ?_
        refine lv (v := .bool true) rfl rfl (yb_call (f := 10) (args := #[]) (fun _ => by kernel_rfl) fun W hW => awake_any W) ?_
        refine lm (v := .bool false) rfl rfl ?_
        refine wpL_done (fun W2 hW2 => ?_)
        refine (show Code.wp _ _ _ _ _ from ?_)
        refine wp_cond_false rfl ?_
        refine wp_skip ?_
        refine (show Code.wp _ _ _ _ _ from ?_)
        refine wp_seq ?_
        refine wp_seq ?_
        refine wp_region_L (W0 := w) [] (hW2) ?_
        refine lm (v := strV t) rfl rfl ?_
        refine lp (v := .int .i64 ((t.length : Nat) : Int)) rfl rfl (run_lenS (l := t) rfl Try.underlying9 (by kernel_rfl)) ?_
        refine lp (v := .bool false) rfl rfl (run_bin rfl (vx := (.int .i64 ((t.length : Nat) : Int))) (vy := (.int .i64 ((2000 : Nat) : Int))) (by kernel_rfl) (by kernel_rfl) fun w => bn_gtr (decide_eq_false hl) w) ?_
        refine lm (v := .bool false) rfl rfl ?_
        refine lm (v := strV o) rfl rfl ?_
        refine lp (v := .int .i64 ((o.length : Nat) : Int)) rfl rfl (run_lenS (l := o) rfl Try.underlying9 (by kernel_rfl)) ?_
        refine lp (v := .bool false) rfl rfl (run_bin rfl (vx := (.int .i64 ((o.length : Nat) : Int))) (vy := (.int .i64 ((2000 : Nat) : Int))) (by kernel_rfl) (by kernel_rfl) fun w => bn_gtr (decide_eq_false hl2) w) ?_
        refine lm (v := .bool false) rfl rfl ?_
        refine wpL_done (fun W3 hW3 => ?_)
        refine (show Code.wp _ _ _ _ _ from ?_)
        refine wp_cond_false rfl ?_
        refine wp_skip ?_
        refine (show Code.wp _ _ _ _ _ from ?_)
        refine wp_seq ?_
        refine wp_region_L (W0 := w) [] (hW3) ?_
        refine lm (v := strV t) rfl rfl ?_
        refine wpL_c (f := 15) (args := #[strV t]) (fun v Tz => v = .tuple #[.slice none 0 0, .int .i64 ((p : Nat) : Int), .int .i64 ((er : Nat) : Int)] ∧ Tz = []) rfl (by kernel_rfl) (fun _ => (by kernel_rfl)) (fun W hW => Read_bad hr (by first | omega | (simp only [List.length_append, List.length_cons, List.length_nil]; omega)) W (hW.sub (fun _ h => by cases h))) (fun _ => by simp only [List.setIfInBounds_toArray, List.set_cons_succ, List.set_cons_zero] <;> rfl) ?_
        rintro _ _ ⟨rfl, rfl⟩
        refine lm (v := .tuple #[.slice none 0 0, .int .i64 ((p : Nat) : Int), .int .i64 ((er : Nat) : Int)]) rfl rfl ?_
        refine lm (v := .slice none 0 0) rfl rfl ?_
        refine lm (v := .int .i64 ((p : Nat) : Int)) rfl rfl ?_
        refine lm (v := .int .i64 ((er : Nat) : Int)) rfl rfl ?_
        refine lm (v := .slice none 0 0) rfl rfl ?_
        refine lm (v := .int .i64 ((p : Nat) : Int)) rfl rfl ?_
        refine lm (v := .int .i64 ((er : Nat) : Int)) rfl rfl ?_
        refine wpL_done (fun W4 hW4 => ?_)
        refine (show Code.wp _ _ _ _ _ from ?_)
        refine wp_seq ?_
        refine wp_seq ?_
        refine wp_region_L (W0 := w) [] (hW4) ?_
        refine lm (v := .int .i64 ((er : Nat) : Int)) rfl rfl ?_
        refine lp (v := .bool false) rfl rfl (run_bin rfl (vx := (.int .i64 ((er : Nat) : Int))) (vy := (.int .i64 ((0 : Nat) : Int))) (by kernel_rfl) (by kernel_rfl) fun w => bn_eql (decide_eq_false hne) w) ?_
        refine lm (v := .bool false) rfl rfl ?_
        refine lm (v := .int .i64 ((er : Nat) : Int)) rfl rfl ?_
        refine lp (v := .bool false) rfl rfl (run_bin rfl (vx := (.int .i64 ((er : Nat) : Int))) (vy := (.int .i64 ((42 : Nat) : Int))) (by kernel_rfl) (by kernel_rfl) fun w => bn_eql (decide_eq_false h42) w) ?_
        refine lm (v := .bool false) rfl rfl ?_
        refine wpL_done (fun W5 hW5 => ?_)
        refine (show Code.wp _ _ _ _ _ from ?_)
        refine wp_cond_false rfl ?_
        refine wp_skip ?_
        refine (show Code.wp _ _ _ _ _ from ?_)
        refine wp_seq ?_
        refine wp_region_L (W0 := w) [] (hW5) ?_
        refine lm (v := strV t) rfl rfl ?_
        refine lm (v := .int .i64 ((p : Nat) : Int)) rfl rfl ?_
        refine lp (v := strV (t.take p)) rfl rfl (run_slH (k2 := .i64) (l := t) (r := (t.take p)) (j := p) rfl Try.underlying9 (by kernel_rfl) (by kernel_rfl) (by omega) rfl) ?_
        refine wpL_c (f := 15) (args := #[strV (t.take p)]) (fun v Tz => v = .tuple #[.slice none 0 0, .int .i64 ((p : Nat) : Int), .int .i64 ((42 : Nat) : Int)] ∧ Tz = []) rfl (by kernel_rfl) (fun _ => (by kernel_rfl)) (fun W hW => Read_bad h1 (by omega) W (hW.sub (fun _ h => by cases h))) (fun _ => by simp only [List.setIfInBounds_toArray, List.set_cons_succ, List.set_cons_zero] <;> rfl) ?_
        rintro _ _ ⟨rfl, rfl⟩
        refine lm (v := .tuple #[.slice none 0 0, .int .i64 ((p : Nat) : Int), .int .i64 42]) rfl rfl ?_
        refine lm (v := .slice none 0 0) rfl rfl ?_
        refine lm (v := .int .i64 ((p : Nat) : Int)) rfl rfl ?_
        refine lm (v := .int .i64 42) rfl rfl ?_
        refine lm (v := .slice none 0 0) rfl rfl ?_
        refine lm (v := .int .i64 ((p : Nat) : Int)) rfl rfl ?_
        refine lm (v := .int .i64 42) rfl rfl ?_
        refine wpL_done (fun W6 hW6 => ?_)
        refine (show Code.wp _ _ _ _ _ from ?_)
        refine wp_seq ?_
        refine wp_seq ?_
        refine wp_region_L (W0 := w) [] (hW6) ?_
        refine lm (v := .int .i64 42) rfl rfl ?_
        refine lm (v := .bool true) rfl rfl ?_
        refine lm (v := .bool true) rfl rfl ?_
        refine lm (v := .int .i64 42) rfl rfl ?_
        refine lm (v := .bool false) rfl rfl ?_
        refine lm (v := .bool false) rfl rfl ?_
        refine lm (v := .int .i64 ((p : Nat) : Int)) rfl rfl ?_
        refine lm (v := .int .i64 ((p : Nat) : Int)) rfl rfl ?_
        refine lp (v := .bool false) rfl rfl (run_bin rfl (vx := (.int .i64 ((p : Nat) : Int))) (vy := (.int .i64 ((p : Nat) : Int))) (by kernel_rfl) (by kernel_rfl) fun w => bn_neq (decide_eq_true rfl) w) ?_
        refine lm (v := .bool false) rfl rfl ?_
        refine lm (v := .bool false) rfl rfl ?_
        refine wpL_done (fun W7 hW7 => ?_)
        refine (show Code.wp _ _ _ _ _ from ?_)
        refine wp_cond_false rfl ?_
        refine wp_skip ?_
        refine (show Code.wp _ _ _ _ _ from ?_)
        refine wp_seq ?_
        refine wp_region_L (W0 := w) [] (hW7) ?_
        refine lm (v := .int .i64 ((p : Nat) : Int)) rfl rfl ?_
        refine lp (v := .int .i64 (((p + 1) : Nat) : Int)) rfl rfl (run_bin rfl (vx := (.int .i64 ((p : Nat) : Int))) (vy := (.int .i64 ((1 : Nat) : Int))) (by kernel_rfl) (by kernel_rfl) fun w => bn_add (z := (p + 1)) rfl (wr_i64 (by omega)) w) ?_
        refine lm (v := .int .i64 (((p + 1) : Nat) : Int)) rfl rfl ?_
        refine wpL_done (fun W8 hW8 => ?_)
        refine (show Code.wp _ _ _ _ _ from ?_)
        refine wp_seq ?_
        refine wp_seq ?_
        refine wp_region_L (W0 := w) [] (hW8) ?_
        refine lm (v := strV t) rfl rfl ?_
        refine lm (v := .int .i64 ((p : Nat) : Int)) rfl rfl ?_
        refine lp (v := .int .u8 ((x.toNat : Nat) : Int)) rfl rfl (run_idxS (j := .i64) (l := t) (k := p) (b := x) rfl Try.underlying9 (by kernel_rfl) (by kernel_rfl) hx) ?_
        refine lp (v := .bool false) rfl rfl (run_bin rfl (vx := (.int .u8 ((x.toNat : Nat) : Int))) (vy := (.int .u8 ((63 : Nat) : Int))) (by kernel_rfl) (by kernel_rfl) fun w => bn_eql (decide_eq_false h63) w) ?_
        refine wpL_done (fun W9 hW9 => ?_)
        refine (show Code.wp _ _ _ _ _ from ?_)
        refine wp_cond_false rfl ?_
        refine wp_skip ?_
        refine (show Code.wp _ _ _ _ _ from ?_)
        refine wp_seq ?_
        refine wp_seq ?_
        refine wp_region_L (W0 := w) [] (hW9) ?_
        refine lm (v := .int .i64 ((er : Nat) : Int)) rfl rfl ?_
        refine lp (v := .bool (decide (er = 41))) rfl rfl (run_bin rfl (vx := (.int .i64 ((er : Nat) : Int))) (vy := (.int .i64 ((41 : Nat) : Int))) (by kernel_rfl) (by kernel_rfl) fun w => bn_eql rfl w) ?_
        refine lm (v := .bool (decide (er = 41))) rfl rfl ?_
        cases hd1 : (decide (er = 41)) with
        | false =>
          have h1 : ¬ (er = 41) := of_decide_eq_false hd1
          clear hd1
          refine ln rfl ?_
          refine ln rfl ?_
          refine ln rfl ?_
          refine ln rfl ?_
          refine lm (v := .bool false) rfl rfl ?_
          refine wpL_done (fun W10 hW10 => ?_)
          refine (show Code.wp _ _ _ _ _ from ?_)
          refine wp_cond_false rfl ?_
          refine wp_skip ?_
          refine (show Code.wp _ _ _ _ _ from ?_)
          refine wp_seq ?_
          refine wp_region_L (W0 := w) [] (hW10) ?_
          refine lm (v := strV t) rfl rfl ?_
          refine lm (v := .int .i64 (((p + 1) : Nat) : Int)) rfl rfl ?_
          refine lp (v := strV (t.take (p + 1))) rfl rfl (run_slH (k2 := .i64) (l := t) (r := (t.take (p + 1))) (j := (p + 1)) rfl Try.underlying9 (by kernel_rfl) (by kernel_rfl) (by omega) rfl) ?_
          refine lm (v := strV o) rfl rfl ?_
          refine lp (v := strV ((t.take (p + 1)) ++ o)) rfl rfl (run_bin rfl (vx := strV (t.take (p + 1))) (vy := strV o) (by kernel_rfl) (by kernel_rfl) fun w => bs_add (c := ((t.take (p + 1)) ++ o)) rfl (by first | omega | (simp; omega)) w) ?_
          refine wpL_c (f := 15) (args := #[strV ((t.take (p + 1)) ++ o)]) (fun v Tz => v = .tuple #[.slice none 0 0, .int .i64 ((p : Nat) : Int), .int .i64 ((er : Nat) : Int)] ∧ Tz = []) rfl (by kernel_rfl) (fun _ => (by kernel_rfl)) (fun W hW => Read_bad h3 (by first | omega | (simp only [List.length_append, List.length_cons, List.length_nil]; omega)) W (hW.sub (fun _ h => by cases h))) (fun _ => by simp only [List.setIfInBounds_toArray, List.set_cons_succ, List.set_cons_zero] <;> rfl) ?_
          rintro _ _ ⟨rfl, rfl⟩
          refine lm (v := .tuple #[.slice none 0 0, .int .i64 ((p : Nat) : Int), .int .i64 ((er : Nat) : Int)]) rfl rfl ?_
          refine lm (v := .slice none 0 0) rfl rfl ?_
          refine lm (v := .int .i64 ((p : Nat) : Int)) rfl rfl ?_
          refine lm (v := .int .i64 ((er : Nat) : Int)) rfl rfl ?_
          refine lm (v := .int .i64 ((p : Nat) : Int)) rfl rfl ?_
          refine lm (v := .int .i64 ((er : Nat) : Int)) rfl rfl ?_
          refine wpL_done (fun W11 hW11 => ?_)
          refine (show Code.wp _ _ _ _ _ from ?_)
          refine wp_seq ?_
          refine wp_region_L (W0 := w) [] (hW11) ?_
          refine lm (v := .int .i64 ((er : Nat) : Int)) rfl rfl ?_
          refine lm (v := .int .i64 ((er : Nat) : Int)) rfl rfl ?_
          refine lp (v := .bool true) rfl rfl (run_bin rfl (vx := (.int .i64 ((er : Nat) : Int))) (vy := (.int .i64 ((er : Nat) : Int))) (by kernel_rfl) (by kernel_rfl) fun w => bn_eql (decide_eq_true rfl) w) ?_
          refine lm (v := .bool true) rfl rfl ?_
          refine lm (v := .int .i64 ((p : Nat) : Int)) rfl rfl ?_
          refine lm (v := .int .i64 ((p : Nat) : Int)) rfl rfl ?_
          refine lp (v := .bool true) rfl rfl (run_bin rfl (vx := (.int .i64 ((p : Nat) : Int))) (vy := (.int .i64 ((p : Nat) : Int))) (by kernel_rfl) (by kernel_rfl) fun w => bn_eql (decide_eq_true rfl) w) ?_
          refine lm (v := .bool true) rfl rfl ?_
          refine lm (v := .bool true) rfl rfl ?_
          refine wpL_done (fun W12 hW12 => ?_)
          refine (show Code.wp _ _ _ _ _ from ?_)
          refine wp_ret ?_
          try simp only [inBlock_ret, then_ret]
          refine bodyPost_ret (v := .bool true) ?_ rfl ?_
          · kernel_rfl
          · exact ⟨rfl, (hW12).1⟩
        | true =>
          have h1 : er = 41 := of_decide_eq_true hd1
          clear hd1
          refine lm (v := .int .i64 (((p + 1) : Nat) : Int)) rfl rfl ?_
          refine lm (v := .int .i64 ((p : Nat) : Int)) rfl rfl ?_
          refine lp (v := .int .i64 (((p + 1) : Nat) : Int)) rfl rfl (run_bin rfl (vx := (.int .i64 ((p : Nat) : Int))) (vy := (.int .i64 ((1 : Nat) : Int))) (by kernel_rfl) (by kernel_rfl) fun w => bn_add (z := (p + 1)) rfl (wr_i64 (by omega)) w) ?_
          refine lp (v := .bool true) rfl rfl (run_bin rfl (vx := (.int .i64 (((p + 1) : Nat) : Int))) (vy := (.int .i64 (((p + 1) : Nat) : Int))) (by kernel_rfl) (by kernel_rfl) fun w => bn_eql (decide_eq_true rfl) w) ?_
          refine lm (v := .bool true) rfl rfl ?_
          refine wpL_done (fun W13 hW13 => ?_)
          refine (show Code.wp _ _ _ _ _ from ?_)
          refine wp_cond_true rfl ?_
          refine wp_seq ?_
          refine wp_region_L (W0 := w) [] (hW13) ?_
          refine lm (v := .bool true) rfl rfl ?_
          refine wpL_done (fun W14 hW14 => ?_)
          refine (show Code.wp _ _ _ _ _ from ?_)
          refine wp_ret ?_
          try simp only [inBlock_ret, then_ret]
          refine bodyPost_ret (v := .bool true) ?_ rfl ?_
          · kernel_rfl
          · exact ⟨rfl, (hW14).1⟩
end Go.Proofs.Ytppegdbelgobiaa
namespace Go.Proofs.Ytppegdbelgobiaa
open Go Go.RowKit Tw
def wrA (A : List Sgm) : List UInt8 := if 5000 < A.length then [] else if A.all rightS = false then [] else if 65536 < (wrL A).length then [] else wrL A
def wrN (A : List Sgm) : Nat := if 5000 < A.length then 5 else if A.all rightS = false then 2 else if 65536 < (wrL A).length then 3 else 0
theorem writeV_eq (A : List Sgm) : writeV A = .tuple #[strV (wrA A), .int .i64 ((wrN A : Nat) : Int)] := by
  unfold writeV wrA wrN
  split
  · rfl
  · split
    · rfl
    · split <;> rfl
theorem wrN_le (A : List Sgm) : wrN A ≤ 5 := by
  unfold wrN
  split
  · omega
  · split
    · omega
    · split <;> omega
theorem shape_of {W0 : Base} {A : List Sgm} {v : Value} {T : List (Nat × Obj)} {w : World} (hk : KS W0 T w) (hM : MkV SgR W0 v A T) : ∃ p c, v = .slice p A.length c := by
  obtain ⟨p, c, e, _⟩ := hM w hk
  exact ⟨p, c, e⟩
set_option maxRecDepth 100000 in
set_option maxHeartbeats 4000000 in
theorem writes_any (A : List Sgm) (pA : Option Addr) (cA : Nat) (lA : A.length ≤ 4000000000) (lE : ∀ y ∈ A, y.length ≤ 4000000000 ∧ ∀ z ∈ y, z.length ≤ 4000000000) (w : World) (hA : LVp ElR w pA A) : Calls Try.prog 12 #[.slice pA A.length cA] w fun e w' => e = .returned (.bool true) ∧ Below w.heap.size w w' := by
  have HA := Lib.hid hA
  clear hA
  have ln := wrN_le A
  go_enter Try.func12, Try.ntmps12
  refine wp_seq ?_
  refine wp_region_L (W0 := w) [] (KS.start w) ?_
  refine lm (v := .bool false) rfl rfl ?_
  refine wpL_done (fun W1 hW1 => ?_)
  refine (show Code.wp _ _ _ _ _ from ?_)
  refine wp_seq ?_
  refine wp_region_L (W0 := w) [] (hW1) ?_
  refine lm (v := .slice pA A.length cA) rfl rfl ?_
  refine wpL_c (f := 19) (args := #[.slice pA A.length cA]) (fun v T => (∃ p c, v = .slice p A.length c) ∧ MkV SgR w v A T) rfl (by kernel_rfl) (fun _ => (by kernel_rfl)) (fun W hW => (Own_any A pA cA lA lE HA.out W (hW.sub (fun _ h => by cases h))).mono fun e w2 ⟨v, T, he, hk, hM⟩ => ⟨v, T, he, hk, shape_of hk hM.mkv, hM.mkv⟩) (fun _ => by simp only [List.setIfInBounds_toArray, List.set_cons_succ, List.set_cons_zero] <;> rfl) ?_
  rintro _ T1 ⟨⟨p1, c1, rfl⟩, M1⟩
  refine lm (v := .slice p1 A.length c1) rfl rfl ?_
  refine wpL_done (fun W2 hW2 => ?_)
  have HB3 := Lib.hid ((HA.out.keep ElR.keeps (hW2).1))
  have HB4 := Lib.hid ((lv_lvp (M1 W2 ((hW2).sub (fun p hp => by first | exact hp | (simp only [List.mem_cons, List.mem_append, List.nil_append, List.not_mem_nil, or_assoc, or_false, false_or, List.cons_append, List.append_assoc] at hp ⊢ <;> grind))))))
  have hbz2 : Below w.heap.size w W2 := (hW2).1
  refine (show Code.wp _ _ _ _ _ from ?_)
  refine wp_seq ?_
  refine wp_region_L (W0 := W2) [] (KS.start W2) ?_
  refine lm (v := .slice p1 A.length c1) rfl rfl ?_
  refine lv (v := .tuple #[strV (wrA A), .int .i64 (((wrN A) : Nat) : Int)]) rfl rfl (yb_call (f := 14) (args := #[.slice p1 A.length c1]) (fun _ => by kernel_rfl) fun W hW => (by have z := PWrite_any A p1 c1 W (HB4.out.keep ElR.keeps hW.1); rw [writeV_eq] at z; exact z)) ?_
  refine lm (v := .tuple #[strV (wrA A), .int .i64 (((wrN A) : Nat) : Int)]) rfl rfl ?_
  refine lm (v := strV (wrA A)) rfl rfl ?_
  refine lm (v := .int .i64 (((wrN A) : Nat) : Int)) rfl rfl ?_
  refine lm (v := strV (wrA A)) rfl rfl ?_
  refine lm (v := .int .i64 (((wrN A) : Nat) : Int)) rfl rfl ?_
  refine wpL_done (fun W3 hW3 => ?_)
  refine (show Code.wp _ _ _ _ _ from ?_)
  refine wp_seq ?_
  refine wp_region_L (W0 := W2) [] (hW3) ?_
  refine lm (v := .slice pA A.length cA) rfl rfl ?_
  refine wpL_c (f := 22) (args := #[.slice pA A.length cA]) (fun v T => (∃ p c, v = .slice p A.length c) ∧ MkV SgR W2 v A T) rfl (by kernel_rfl) (fun _ => (by kernel_rfl)) (fun W hW => (bare_any A pA cA lA HB3.out W (hW.sub (fun _ h => by cases h))).mono fun e w2 ⟨v, T, he, hk, hM⟩ => ⟨v, T, he, hk, shape_of hk hM, hM⟩) (fun _ => by simp only [List.setIfInBounds_toArray, List.set_cons_succ, List.set_cons_zero] <;> rfl) ?_
  rintro _ T5 ⟨⟨p5, c5, rfl⟩, M5⟩
  refine lv (v := .tuple #[strV (wrA A), .int .i64 (((wrN A) : Nat) : Int)]) rfl rfl (yb_call (f := 21) (args := #[.slice p5 A.length c5]) (fun _ => by kernel_rfl) fun W hW => (by have z := RWrite_any A p5 c5 W (lv_lvp (M5 W (hW.sub (fun p hp => by first | exact hp | (simp only [List.mem_cons, List.mem_append, List.nil_append, List.not_mem_nil, or_assoc, or_false, false_or, List.cons_append, List.append_assoc] at hp ⊢ <;> grind))))); rw [writeV_eq] at z; exact z)) ?_
  refine lm (v := .tuple #[strV (wrA A), .int .i64 (((wrN A) : Nat) : Int)]) rfl rfl ?_
  refine lm (v := strV (wrA A)) rfl rfl ?_
  refine lm (v := .int .i64 (((wrN A) : Nat) : Int)) rfl rfl ?_
  refine lm (v := strV (wrA A)) rfl rfl ?_
  refine lm (v := .int .i64 (((wrN A) : Nat) : Int)) rfl rfl ?_
  refine wpL_done (fun W4 hW4 => ?_)
  have HB7 := Lib.hid ((HB3.out.keep ElR.keeps (hW4).1))
  have HB8 := Lib.hid ((HB4.out.keep ElR.keeps (hW4).1))
  have HB9 := Lib.hid ((lv_lvp (M5 W4 ((hW4).sub (fun p hp => by first | exact hp | (simp only [List.mem_cons, List.mem_append, List.nil_append, List.not_mem_nil, or_assoc, or_false, false_or, List.cons_append, List.append_assoc] at hp ⊢ <;> grind))))))
  have hbz6 : Below w.heap.size w W4 := hbz2.trans ((hW4).1.mono hbz2.size)
  refine (show Code.wp _ _ _ _ _ from ?_)
  refine wp_seq ?_
  refine wp_seq ?_
  refine wp_region_L (W0 := W4) [] (KS.start W4) ?_
  refine lm (v := .int .i64 0) rfl rfl ?_
  refine wpL_done (fun W5 hW5 => ?_)
  refine (show Code.wp _ _ _ _ _ from ?_)
  refine wp_block ?_
  go_loopw [8] (fun u8 wr => ∃ (k : Nat), (k ≤ A.length) ∧ u8 = .int .i64 ((k : Nat) : Int) ∧ KS W4 [] wr) (fun u8 _ => A.length - (intOf u8).toNat)
  case atStart => exact ⟨0, (Nat.zero_le _), rfl, (hW5.sub (fun p hp => by first | exact hp | (simp only [List.mem_cons, List.mem_append, List.nil_append, List.not_mem_nil, or_assoc, or_false, false_or, List.cons_append, List.append_assoc] at hp ⊢ <;> grind)))⟩
  case round =>
    obtain ⟨k, hk, rfl, hL6⟩ := hrel
    refine wp_seq ?_
    refine wp_seq ?_
    refine wp_region_L (W0 := W4) [] (hL6) ?_
    refine lm (v := .int .i64 ((k : Nat) : Int)) rfl rfl ?_
    refine lm (v := .slice pA A.length cA) rfl rfl ?_
    refine lp (v := .int .i64 ((A.length : Nat) : Int)) rfl rfl (run_lenL (p := pA) (cap := cA) (n := A.length) rfl Try.underlying24 (by kernel_rfl)) ?_
    refine lp (v := .bool (decide (k < A.length))) rfl rfl (run_bin rfl (vx := (.int .i64 ((k : Nat) : Int))) (vy := (.int .i64 ((A.length : Nat) : Int))) (by kernel_rfl) (by kernel_rfl) fun w => bn_lss rfl w) ?_
    refine wpL_done (fun W7 hW7 => ?_)
    refine (show Code.wp _ _ _ _ _ from ?_)
    cases hd1 : (decide (k < A.length)) with
    | false =>
      have h1 : ¬ (k < A.length) := of_decide_eq_false hd1
      clear hd1
      refine wp_cond_false rfl ?_
      refine wp_exit ?_
      refine (show Code.wp _ _ _ _ _ from ?_)
      refine wp_seq ?_
      refine wp_region_L (W0 := W4) [] (hW7) ?_
      refine lm (v := strV (wrA A)) rfl rfl ?_
      refine lm (v := strV (wrA A)) rfl rfl ?_
      refine lp (v := .bool true) rfl rfl (run_bin rfl (vx := strV (wrA A)) (vy := strV (wrA A)) (by kernel_rfl) (by kernel_rfl) fun w => bs_eql (decide_eq_true rfl) w) ?_
      refine lm (v := .bool true) rfl rfl ?_
      refine lm (v := .int .i64 (((wrN A) : Nat) : Int)) rfl rfl ?_
      refine lm (v := .int .i64 (((wrN A) : Nat) : Int)) rfl rfl ?_
      refine lp (v := .bool true) rfl rfl (run_bin rfl (vx := (.int .i64 (((wrN A) : Nat) : Int))) (vy := (.int .i64 (((wrN A) : Nat) : Int))) (by kernel_rfl) (by kernel_rfl) fun w => bn_eql (decide_eq_true rfl) w) ?_
      refine lm (v := .bool true) rfl rfl ?_
      refine lm (v := .bool true) rfl rfl ?_
      refine lm (v := .slice p1 A.length c1) rfl rfl ?_
      refine lm (v := .slice pA A.length cA) rfl rfl ?_
      refine lv (v := .bool true) rfl rfl (yb_call (f := 16) (args := #[.slice p1 A.length c1, .slice pA A.length cA]) (fun _ => by kernel_rfl) fun W hW => (by have z := same_any A A p1 pA c1 cA lA lE W (HB8.out.keep ElR.keeps hW.1) (HB7.out.keep ElR.keeps hW.1); rw [decide_eq_true rfl] at z; exact z)) ?_
      refine lm (v := .bool true) rfl rfl ?_
      refine lm (v := .bool true) rfl rfl ?_
      refine wpL_done (fun W8 hW8 => ?_)
      refine (show Code.wp _ _ _ _ _ from ?_)
      refine wp_ret ?_
      try simp only [inBlock_ret, then_ret]
      refine bodyPost_ret (v := .bool true) ?_ rfl ?_
      · kernel_rfl
      · exact ⟨rfl, (Below.trans hbz6 (Below.mono (hW8).1 hbz6.size))⟩
    | true =>
      have h1 : k < A.length := of_decide_eq_true hd1
      clear hd1
      refine wp_cond_true rfl ?_
      refine wp_skip ?_
      refine (show Code.wp _ _ _ _ _ from ?_)
      refine wp_seq ?_
      refine wp_block ?_
      refine wp_seq ?_
      refine wp_region_V (W0 := W4) [] (by kernel_rfl) (hW7) ?_
      refine vm (i := 0) (v := .slice p1 A.length c1) rfl rfl rfl ?_
      refine vm (i := 1) (v := .int .i64 ((k : Nat) : Int)) rfl rfl rfl ?_
      obtain ⟨y10, p10, c10, b10, f10, hy10, HY10, hp10, lt10, hc10⟩ := lvp_lst (k := k) HB8.out (by omega)
      have HY10 := Lib.hid HY10
      refine vp (i := 2) (v := .pointer (some ⟨b10, f10 + k * 1, none⟩)) rfl rfl rfl (run_idxQ (p := p1) (cap := c1) (n := A.length) (j := .i64) (k := k) (sz := 1) rfl Try.underlying24 (by kernel_rfl) (by kernel_rfl) hp10 (by kernel_rfl) (by omega)) ?_
      refine vv (i := 3) (v := .slice p10 y10.length c10) rfl rfl rfl (yb_old (off := f10 + k * 1) rfl (by kernel_rfl) hc10 lt10 Try.underlying37 rfl) ?_
      refine vv (i := 4) (v := .bool (rightS y10)) rfl rfl rfl (yb_call (f := 18) (args := #[.slice p10 y10.length c10]) (fun _ => by kernel_rfl) fun W hW => PRight_any y10 p10 c10 W (HY10.out.keep TxR.keeps hW.1)) ?_
      refine vm (i := 5) (v := .slice pA A.length cA) rfl rfl rfl ?_
      refine vm (i := 6) (v := .int .i64 ((k : Nat) : Int)) rfl rfl rfl ?_
      obtain ⟨y11, p11, c11, b11, f11, hy11, HY11, hp11, lt11, hc11⟩ := lvp_lst (k := k) HB7.out (by omega)
      have HY11 := Lib.hid HY11
      refine vp (i := 7) (v := .pointer (some ⟨b11, f11 + k * 1, none⟩)) rfl rfl rfl (run_idxQ (p := pA) (cap := cA) (n := A.length) (j := .i64) (k := k) (sz := 1) rfl Try.underlying24 (by kernel_rfl) (by kernel_rfl) hp11 (by kernel_rfl) (by omega)) ?_
      obtain rfl : y10 = y11 := Option.some.inj (hy10.symm.trans hy11)
      refine vv (i := 8) (v := .slice p11 y10.length c11) rfl rfl rfl (yb_old (off := f11 + k * 1) rfl (by kernel_rfl) hc11 lt11 Try.underlying37 rfl) ?_
      refine vv (i := 9) (v := .bool (rightS y10)) rfl rfl rfl (yb_call (f := 23) (args := #[.slice p11 y10.length c11]) (fun _ => by kernel_rfl) fun W hW => RRight_any y10 p11 c11 W (HY11.out.keep TxR.keeps hW.1)) ?_
      cases h2 : (rightS y10) with
      | false =>
        refine vm (i := 10) (v := .bool false) rfl rfl rfl ?_
        refine wpV_done (by kernel_rfl) (fun W9 hW9 => ?_) _
        refine (show Code.wp _ _ _ _ _ from ?_)
        refine wp_cond_false rfl ?_
        refine wp_skip ?_
        refine (show Code.wp _ _ _ _ _ from ?_)
        refine wp_region_L (W0 := W4) [] (hW9) ?_
        refine lm (v := .int .i64 ((k : Nat) : Int)) rfl rfl ?_
        refine lp (v := .int .i64 (((k + 1) : Nat) : Int)) rfl rfl (run_bin rfl (vx := (.int .i64 ((k : Nat) : Int))) (vy := (.int .i64 ((1 : Nat) : Int))) (by kernel_rfl) (by kernel_rfl) fun w => bn_add (z := (k + 1)) rfl (wr_i64 (by omega)) w) ?_
        refine lm (v := .int .i64 (((k + 1) : Nat) : Int)) rfl rfl ?_
        refine wpL_done (fun W10 hW10 => ?_)
        go_roundw
        case rel =>
          repeat apply Exists.intro
          exact ⟨⟨k + 1, (by omega), rfl, (hW10.sub (fun p hp => by first | exact hp | (simp only [List.mem_cons, List.mem_append, List.nil_append, List.not_mem_nil, or_assoc, or_false, false_or, List.cons_append, List.append_assoc] at hp ⊢ <;> grind)))⟩, rfl⟩
        case measure => (show A.length - (intOf (.int .i64 (((k + 1) : Nat) : Int))).toNat < A.length - (intOf (.int .i64 ((k : Nat) : Int))).toNat); simp only [intOf]; omega
      | true =>
        refine vm (i := 10) (v := .bool false) rfl rfl rfl ?_
        refine wpV_done (by kernel_rfl) (fun W11 hW11 => ?_) _
        refine (show Code.wp _ _ _ _ _ from ?_)
        refine wp_cond_false rfl ?_
        refine wp_skip ?_
        refine (show Code.wp _ _ _ _ _ from ?_)
        refine wp_region_L (W0 := W4) [] (hW11) ?_
        refine lm (v := .int .i64 ((k : Nat) : Int)) rfl rfl ?_
        refine lp (v := .int .i64 (((k + 1) : Nat) : Int)) rfl rfl (run_bin rfl (vx := (.int .i64 ((k : Nat) : Int))) (vy := (.int .i64 ((1 : Nat) : Int))) (by kernel_rfl) (by kernel_rfl) fun w => bn_add (z := (k + 1)) rfl (wr_i64 (by omega)) w) ?_
        refine lm (v := .int .i64 (((k + 1) : Nat) : Int)) rfl rfl ?_
        refine wpL_done (fun W12 hW12 => ?_)
        go_roundw
        case rel =>
          repeat apply Exists.intro
          exact ⟨⟨k + 1, (by omega), rfl, (hW12.sub (fun p hp => by first | exact hp | (simp only [List.mem_cons, List.mem_append, List.nil_append, List.not_mem_nil, or_assoc, or_false, false_or, List.cons_append, List.append_assoc] at hp ⊢ <;> grind)))⟩, rfl⟩
        case measure => (show A.length - (intOf (.int .i64 (((k + 1) : Nat) : Int))).toNat < A.length - (intOf (.int .i64 ((k : Nat) : Int))).toNat); simp only [intOf]; omega
end Go.Proofs.Ytppegdbelgobiaa
namespace Go.Proofs.Ytppegdbelgobiaa
open Go Go.RowKit Tw
def sz1 (c : Cmp) : Nat := c.length + 1
def sz2 (e : Elt) : Nat := (e.map sz1).sum + 1
def sz3 (s : Sgm) : Nat := (s.map sz2).sum + 1
def sz4 (A : List Sgm) : Nat := (A.map sz3).sum + 1
theorem sum_mem {α : Type} {f : α → Nat} {x : α} : ∀ {l : List α}, x ∈ l → f x ≤ (l.map f).sum := by
  intro l
  induction l with
  | nil => intro h; cases h
  | cons y l ih =>
    intro h
    simp only [List.map_cons, List.sum_cons]
    rcases List.mem_cons.1 h with rfl | h
    · omega
    · have := ih h; omega
theorem sum_len {α : Type} {f : α → Nat} (hf : ∀ x, 1 ≤ f x) : ∀ (l : List α), l.length ≤ (l.map f).sum := by
  intro l
  induction l with
  | nil => exact Nat.le_refl _
  | cons y l ih =>
    simp only [List.map_cons, List.sum_cons, List.length_cons]
    have := hf y
    omega
theorem sz2_eq (e : Elt) : sz2 e = eltN e + 1 := by
  unfold sz2 eltN cmpsN
  induction e with
  | nil => rfl
  | cons c e ih =>
    simp only [List.map_cons, List.sum_cons, List.length_cons, sz1] at ih ⊢
    omega
theorem sgN_le (s : Sgm) : sgN s + 1 ≤ sz3 s := by
  unfold sgN sz3
  induction s with
  | nil => exact Nat.le_refl _
  | cons e s ih =>
    have := sz2_eq e
    simp only [List.map_cons, List.sum_cons, List.length_cons] at ih ⊢
    omega
theorem sz4_seg {A : List Sgm} {s : Sgm} (h : s ∈ A) : sgN s ≤ sz4 A := by
  have h1 := sum_mem (f := sz3) h
  have h2 := sgN_le s
  unfold sz4
  omega
theorem sz4_len (A : List Sgm) : A.length ≤ sz4 A := by
  have := sum_len (f := sz3) (fun s => by unfold sz3; omega) A
  unfold sz4
  omega
theorem lens_of {A : List Sgm} (h : ∀ s ∈ A, sgN s ≤ 4000000000) : ∀ y ∈ A, y.length ≤ 4000000000 ∧ ∀ z ∈ y, z.length ≤ 4000000000 := by
  intro y hy
  have h1 := h y hy
  unfold sgN at h1
  refine ⟨by omega, fun z hz => ?_⟩
  have h2 := sum_mem (f := eltN) hz
  have h3 : z.length ≤ eltN z := by unfold eltN; omega
  omega
set_option maxRecDepth 100000 in
set_option maxHeartbeats 4000000 in
theorem LexWrites_law (w : World) (A : List Sgm) (pA : Option Addr) (cA : Nat) (hA : LVp ElR w pA A) (hb : sz4 A ≤ 1048576) : Calls Try.prog 4 #[.slice pA A.length cA] w fun e w' => e = .returned (.bool true) ∧ Below w.heap.size w w' := by
  have HA := Lib.hid hA
  clear hA
  have lA := sz4_len A
  have hS : ∀ s ∈ A, sgN s ≤ 4000000000 := fun s hs => by have := sz4_seg hs; omega
  go_enter Try.func4, Try.ntmps4
  refine wp_seq ?_
  refine wp_region_L (W0 := w) [] (KS.start w) ?_
  refine lm (v := .bool false) rfl rfl ?_
  refine wpL_done (fun W1 hW1 => ?_)
  refine (show Code.wp _ _ _ _ _ from ?_)
  refine wp_seq ?_
  refine wp_region_L (W0 := w) [] (hW1) ?_
  refine lm (v := .slice pA A.length cA) rfl rfl ?_
  refine lv (v := .bool (smallL A)) rfl rfl (yb_call (f := 11) (args := #[.slice pA A.length cA]) (fun _ => by kernel_rfl) fun W hW => Small_any A pA cA hS W (HA.out.keep ElR.keeps hW.1)) ?_
  refine lp (v := .bool (!(smallL A))) rfl rfl (run_un rfl (by kernel_rfl) fun w => un_not w) ?_
  refine lm (v := .bool (!(smallL A))) rfl rfl ?_
  cases h1 : (smallL A) with
  | false =>
    refine ln rfl ?_
    refine ln rfl ?_
    refine lm (v := .bool true) rfl rfl ?_
    refine lm (v := .bool true) rfl rfl ?_
    refine lv (v := .bool true) rfl rfl (yb_call (f := 10) (args := #[]) (fun _ => by kernel_rfl) fun W hW => awake_any W) ?_
    refine lm (v := .bool true) rfl rfl ?_
    refine lm (v := .bool true) rfl rfl ?_
    refine wpL_done (fun W2 hW2 => ?_)
    refine (show Code.wp _ _ _ _ _ from ?_)
    refine wp_ret ?_
    try simp only [inBlock_ret, then_ret]
    refine bodyPost_ret (v := .bool true) ?_ rfl ?_
    · kernel_rfl
    · exact ⟨rfl, (hW2).1⟩
  | true =>
    refine lm (v := .slice pA A.length cA) rfl rfl ?_
    refine lv (v := .bool true) rfl rfl (yb_call (f := 12) (args := #[.slice pA A.length cA]) (fun _ => by kernel_rfl) fun W hW => writes_any A pA cA (by omega) (lens_of hS) W (HA.out.keep ElR.keeps hW.1)) ?_
    refine lm (v := .bool true) rfl rfl ?_
    refine lm (v := .bool true) rfl rfl ?_
    refine lv (v := .bool true) rfl rfl (yb_call (f := 10) (args := #[]) (fun _ => by kernel_rfl) fun W hW => awake_any W) ?_
    refine lm (v := .bool true) rfl rfl ?_
    refine lm (v := .bool true) rfl rfl ?_
    refine wpL_done (fun W3 hW3 => ?_)
    refine (show Code.wp _ _ _ _ _ from ?_)
    refine wp_ret ?_
    try simp only [inBlock_ret, then_ret]
    refine bodyPost_ret (v := .bool true) ?_ rfl ?_
    · kernel_rfl
    · exact ⟨rfl, (hW3).1⟩
end Go.Proofs.Ytppegdbelgobiaa
/- What came in, with its bulk. -/
namespace Go.Proofs.Ytppegdbelgobiaa
open Go Go.RowKit Tw Go.Deep Go.ChangeShapes Go.WideShapes Go.ChangeAt
section
variable {H : Type} {enc : TypeId × Value → H} {W : World} {base : Nat} {spare : Nat → Bool} {held : Bool}
def OpensB {α : Type} (R : World → Value → α → Prop) (sz : α → Nat) (enc : TypeId × Value → H) (W : World) (base : Nat) (spare : Nat → Bool) (held : Bool) (t : TypeId) : Prop :=
  ∀ (fuel : Nat) (v : Value) (x : DataW H × List MemPlace), DataW.trod enc Try.prog W base spare held fuel t [v] = some x → ∃ y : α, R W v y ∧ sz y ≤ Rows.uptoBulk x.1
theorem opensb_str {e : TypeId} (he : Try.prog.underlying e = some .string) : OpensB StrR sz1 enc W base spare held e := by
  intro fuel v x h
  obtain ⟨s, h1, h2, h3⟩ := DataW.trod_string he h
  have hv : v = .string s := by simpa using h1
  refine ⟨s.data.toList, ?_, ?_⟩
  · show v = strV s.data.toList
    rw [hv]
    cases s
    simp [strV]
  · rw [h2]
    exact Nat.le_refl _
def ByR (_ : World) (v : Value) (b : UInt8) : Prop := v = .int .u8 ((b.toNat : Nat) : Int)
theorem ByR.keeps : Keeps ByR := fun _ _ _ _ h _ => h
theorem opensb_u8 {e : TypeId} (he : Try.prog.underlying e = some (.int .u8)) : OpensB ByR (fun _ => 1) enc W base spare held e := by
  intro fuel v x h
  obtain ⟨n, h1, h2, h3⟩ := DataW.trod_int he h
  have hv : v = .int .u8 n := by simpa using h1
  have hw : 0 ≤ n ∧ n ≤ 255 := by simpa [Lit.wf, IntKind.min, IntKind.max, IntKind.signed, IntKind.bits] using h3
  refine ⟨UInt8.ofNat n.toNat, ?_, ?_⟩
  · show v = .int .u8 (((UInt8.ofNat n.toNat).toNat : Nat) : Int)
    rw [hv, UInt8.toNat_ofNat', Nat.mod_eq_of_lt (by omega), Int.toNat_of_nonneg hw.1]
  · rw [h2]
    exact Nat.le_refl _
theorem bulk_sum {α : Type} {sz : α → Nat} {Y : Nat → α} {D : Nat → DataW H} : ∀ (l : List Nat), (∀ i ∈ l, sz (Y i) ≤ Rows.uptoBulk (D i)) → ((l.map Y).map sz).sum ≤ Rows.uptoBulkAll (l.map D) := by
  intro l
  induction l with
  | nil => intro _; exact Nat.zero_le _
  | cons i l ih =>
    intro h
    have h1 := h i (.head _)
    have h2 := ih fun j hj => h j (.tail _ hj)
    simp only [List.map_cons, List.sum_cons, Rows.uptoBulkAll]
    omega
theorem opensb_lv {α : Type} [Inhabited α] {R : World → Value → α → Prop} {sz : α → Nat} {t e : TypeId} (ht : Try.prog.underlying t = some (.slice e)) (hc : Try.prog.cellsOf e = 1) (hR : OpensB R sz enc W base spare held e) : OpensB (LV R) (fun l => (l.map sz).sum + 1) enc W base spare held t := by
  intro fuel v x h
  rcases open_slice1 ht hc h with ⟨hv, hx⟩ | ⟨a, len, cap, m, n, V, D, Pl, hv, hb, hl, hm, hmm, hxx, hx⟩
  · have hv : v = .slice none 0 0 := by simpa using hv
    refine ⟨[], ⟨none, 0, hv, [], .inl rfl, rfl, fun k x y h => by simp at h⟩, ?_⟩
    rw [hx]
    exact Nat.le_refl _
  · have hv : v = .slice (some a) len cap := by simpa using hv
    have hlm : len ≤ m := by rw [hmm]; split <;> omega
    obtain ⟨Y, hY⟩ := choose_lt (α := α) (p := fun i y => R W (V i) y ∧ sz y ≤ Rows.uptoBulk (D i)) (fun i (hi : i < len) => hR n (V i) _ (hx i (by omega)).2)
    refine ⟨(List.range len).map Y, ⟨some a, cap, by rw [hv]; simp, (List.range len).map V, ?_, by simp, ?_⟩, ?_⟩
    · by_cases h0 : len = 0
      · subst h0
        exact .inl rfl
      · obtain ⟨b, off, spot⟩ := a
        have hc0 := (hx 0 (by omega)).1
        have hspot : spot = none := by simpa [Addr.add] using World.cell?_spot hc0
        subst hspot
        refine .inr ⟨b, off, rfl, ?_, fun i u hu => ?_⟩
        · rw [addr_add] at hc0
          exact World.block_lt_of_cell? _ _ hc0
        · rw [List.getElem?_map] at hu
          have hi : i < len := by
            rcases Nat.lt_or_ge i len with h | h
            · exact h
            · rw [List.getElem?_eq_none (by simpa using h)] at hu
              cases hu
          rw [List.getElem?_range hi] at hu
          cases hu
          have := (hx i (by omega)).1
          rwa [addr_add] at this
    · intro k x' y hx' hy'
      rw [List.getElem?_map] at hx' hy'
      have hi : k < len := by
        rcases Nat.lt_or_ge k len with h | h
        · exact h
        · rw [List.getElem?_eq_none (by simpa using h)] at hx'
          cases hx'
      rw [List.getElem?_range hi] at hx' hy'
      cases hx'
      cases hy'
      exact (hY k hi).1
    · rw [hxx]
      have := bulk_sum (sz := sz) (Y := Y) (D := D) (List.range len) fun i hi => (hY i (List.mem_range.1 hi)).2
      show ((List.range len).map Y |>.map sz).sum + 1 ≤ Rows.uptoBulkAll ((List.range len).map D) + Rows.uptoBulkAll _ + 1
      omega
end
theorem openb_segs {H : Type} {enc : TypeId × Value → H} {W : World} {v0 : Value} {d0 : DataW H} {p0 : List MemPlace} {base : Nat} (hv : Value.okWide Try.prog W .any base 24 v0)
    (h0 : DataW.Trod enc Try.prog W 0 (fun _ => true) true 24 v0 d0 p0) : ∃ (p : Option Addr) (cap : Nat) (l : List (List (List (List UInt8)))), v0 = .slice p l.length cap ∧ LVp ElR W p l ∧ sz4 l ≤ Rows.uptoBulk d0 := by
  obtain ⟨a0, len0, cap0, rfl⟩ := okWide_slice Try.underlying24 hv
  obtain ⟨fuel, hf⟩ := h0
  have hcs : (Value.slice a0 len0 cap0).cells.toList = [.slice a0 len0 cap0] := by simp [Value.cells]
  rw [hcs] at hf
  obtain ⟨l, ⟨p, cap, h1, h2⟩, h3⟩ := opensb_lv Try.underlying24 (by kernel_rfl) (opensb_lv Try.underlying37 (by kernel_rfl) (opensb_lv Try.underlying43 (by kernel_rfl) (opensb_str Try.underlying9))) fuel _ _ hf
  exact ⟨p, cap, l, h1, h2, h3⟩
theorem openb_by {H : Type} {enc : TypeId × Value → H} {W : World} {v0 : Value} {d0 : DataW H} {p0 : List MemPlace} {base : Nat} (hv : Value.okWide Try.prog W .any base 26 v0)
    (h0 : DataW.Trod enc Try.prog W 0 (fun _ => true) true 26 v0 d0 p0) : ∃ (p : Option Addr) (cap : Nat) (l : List UInt8), v0 = .slice p l.length cap ∧ LVp ByR W p l := by
  obtain ⟨a0, len0, cap0, rfl⟩ := okWide_slice Try.underlying26 hv
  obtain ⟨fuel, hf⟩ := h0
  have hcs : (Value.slice a0 len0 cap0).cells.toList = [.slice a0 len0 cap0] := by simp [Value.cells]
  rw [hcs] at hf
  obtain ⟨l, ⟨p, cap, h1, h2⟩, h3⟩ := opensb_lv Try.underlying26 (by kernel_rfl) (opensb_u8 Try.underlying5) fuel _ _ hf
  exact ⟨p, cap, l, h1, h2⟩
end Go.Proofs.Ytppegdbelgobiaa
/-
  DERIVED: THE SHELF's CONTRACTS AT THIS DUMP, IN PLAIN WORDS (tools/lay-plain.mjs out of 'TryShelf.lean', which tools/lay-shelf.mjs wrote): THE SAME DECLARATIONS UNDER THE SAME NAMES: 'import', 'namespace', 'open', 'def', 'theorem' AND NOTHING ELSE: no command of the shelf's: FOR A HAND-IN. Each laying: the table of numbers ('.._ren') and one theorem, a field a fact of the dump's own or the kernel's comparison; each contract: ONE APPLICATION.
-/
namespace Go.Proofs
open Go.Shelf
def Try.lays105_ren : Go.Shelf.Ren := ⟨fun | 105 => 17 | 212 => 27 | 99 => 28 | 165 => 29 | 166 => 30 | 170 => 31 | 169 => 32 | 263 => 40 | 264 => 41 | 206 => 42 | 240 => 43 | 241 => 44 | 276 => 56 | 277 => 57 | n => n, fun | 9 => 9 | 3 => 3 | 4 => 4 | 20 => 20 | 0 => 0 | 46 => 55 | 109 => 56 | 5 => 5 | 72 => 60 | 76 => 64 | 51 => 77 | 146 => 78 | 53 => 80 | 148 => 81 | 70 => 58 | 37 => 26 | 75 => 63 | 127 => 83 | 164 => 90 | 80 => 67 | n => n, fun | n => n⟩
theorem Try.lays105 : Go.Proofs.Lays.n105 Try.prog Try.lays105_ren := {
  mixed := by kernel_rfl
  f99 := Try.func28.trans (congrArg some (by kernel_rfl))
  f105 := Try.func17.trans (congrArg some (by kernel_rfl))
  f165 := Try.func29.trans (congrArg some (by kernel_rfl))
  f166 := Try.func30.trans (congrArg some (by kernel_rfl))
  f169 := Try.func32.trans (congrArg some (by kernel_rfl))
  f170 := Try.func31.trans (congrArg some (by kernel_rfl))
  f206 := Try.func42.trans (congrArg some (by kernel_rfl))
  f212 := Try.func27.trans (congrArg some (by kernel_rfl))
  f240 := Try.func43.trans (congrArg some (by kernel_rfl))
  f241 := Try.func44.trans (congrArg some (by kernel_rfl))
  f263 := Try.func40.trans (congrArg some (by kernel_rfl))
  f264 := Try.func41.trans (congrArg some (by kernel_rfl))
  f276 := Try.func56.trans (congrArg some (by kernel_rfl))
  f277 := Try.func57.trans (congrArg some (by kernel_rfl))
  t0 := Try.underlying0
  a0 := Try.isAgg0
  z0 := Try.sizeOf0
  v0 := Try.zeroValue0
  t3 := Try.underlying3
  a3 := Try.isAgg3
  z3 := Try.sizeOf3
  v3 := Try.zeroValue3
  t4 := Try.underlying4
  a4 := Try.isAgg4
  z4 := Try.sizeOf4
  v4 := Try.zeroValue4
  t5 := Try.underlying5
  a5 := Try.isAgg5
  z5 := Try.sizeOf5
  v5 := Try.zeroValue5
  t9 := Try.underlying9
  a9 := Try.isAgg9
  z9 := Try.sizeOf9
  v9 := Try.zeroValue9
  t20 := Try.underlying20
  a20 := Try.isAgg20
  z20 := Try.sizeOf20
  v20 := Try.zeroValue20
  t37 := Try.underlying26
  a37 := Try.isAgg26
  z37 := Try.sizeOf26
  v37 := Try.zeroValue26
  t46 := Try.underlying55
  a46 := Try.isAgg55
  z46 := Try.sizeOf55
  v46 := Try.zeroValue55
  t51 := Try.underlying77
  a51 := Try.isAgg77
  z51 := Try.sizeOf77
  v51 := Try.zeroValue77
  t53 := Try.underlying80
  a53 := Try.isAgg80
  z53 := Try.sizeOf80
  v53 := Try.zeroValue80
  t70 := Try.underlying58
  a70 := Try.isAgg58
  z70 := Try.sizeOf58
  v70 := Try.zeroValue58
  t72 := Try.underlying60
  a72 := Try.isAgg60
  z72 := Try.sizeOf60
  v72 := Try.zeroValue60
  t75 := Try.underlying63
  a75 := Try.isAgg63
  z75 := Try.sizeOf63
  v75 := Try.zeroValue63
  t76 := Try.underlying64
  a76 := Try.isAgg64
  z76 := Try.sizeOf64
  v76 := Try.zeroValue64
  t109 := Try.underlying56
  a109 := Try.isAgg56
  z109 := Try.sizeOf56
  v109 := Try.zeroValue56
  t127 := Try.underlying83
  a127 := Try.isAgg83
  z127 := Try.sizeOf83
  v127 := Try.zeroValue83
  t146 := Try.underlying78
  a146 := Try.isAgg78
  z146 := Try.sizeOf78
  v146 := Try.zeroValue78
  t148 := Try.underlying81
  a148 := Try.isAgg81
  z148 := Try.sizeOf81
  v148 := Try.zeroValue81
  t164 := Try.underlying90
  a164 := Try.isAgg90
  z164 := Try.sizeOf90
  v164 := Try.zeroValue90 }
theorem Try.Builder_Extra_105 : Builder.Extra Try.prog Try.lays105_ren := {
  sizeBuilder := by kernel_rfl
  liesBuilder := by kernel_rfl
  t5 := Try.underlying5
  a5 := Try.isAgg5
  z5 := Try.sizeOf5
  v5 := Try.zeroValue5
  infoByte := by kernel_rfl
  cellsByte := by kernel_rfl
  sizeByte := by kernel_rfl
  neB5 := by decide }
open Go.RowKit Go.Lib in
theorem Try.strings_Repeat (s : ByteArray) (c : Nat) (w : World) (hc : c ≤ 9223372036854775807) (hlen : s.size * c ≤ 140737488355328) :
    Calls Try.prog 17 #[.string s, .int .i64 c] w fun e w' => e = .returned (.string ⟨(Lib.repeatL s.data.toList c).toArray⟩) ∧ Below w.heap.size w w' := Any.strings_Repeat Try.lays105 Try.Builder_Extra_105 s c w hc hlen
end Go.Proofs
namespace Go.Proofs.Ytppegdbelgobiaa
open Go Go.RowKit Tw
theorem may_mkB (b : UInt8) : may (mkB b) = true := by
  have h := mkB_val b
  unfold may
  simp
  omega
theorem right_mkC (c : Cmp) : rightC (mkC c) = true := by
  unfold rightC mkC
  simp only [Bool.and_eq_true, decide_eq_true_eq, List.length_map, List.length_take]
  refine ⟨by omega, ?_⟩
  rw [List.all_eq_true]
  intro x hx
  obtain ⟨b, _, rfl⟩ := List.mem_map.1 hx
  exact may_mkB b
theorem right_mkT (e : Elt) : rightE (mkT e) = true := by
  unfold mkT
  split
  · rfl
  · unfold rightE
    simp only [Bool.and_eq_true, decide_eq_true_eq, List.length_map, List.length_take]
    refine ⟨⟨by omega, by omega⟩, ?_⟩
    rw [List.all_eq_true]
    intro x hx
    obtain ⟨c, _, rfl⟩ := List.mem_map.1 hx
    exact right_mkC c
theorem right_mkS (s : Sgm) : rightS (mkS s) = true := by
  unfold mkS
  split
  · rfl
  · unfold rightS
    simp only [Bool.and_eq_true, decide_eq_true_eq, List.length_map, List.length_take]
    refine ⟨⟨by omega, by omega⟩, ?_⟩
    rw [List.all_eq_true]
    intro x hx
    obtain ⟨e, _, rfl⟩ := List.mem_map.1 hx
    exact right_mkT e
theorem right_made (A : List Sgm) : (madeL A).all rightS = true := by
  rw [List.all_eq_true]
  intro x hx
  obtain ⟨s, _, rfl⟩ := List.mem_map.1 hx
  exact right_mkS s
theorem sum_take {α : Type} (f : α → Nat) : ∀ (l : List α) (k : Nat), ((l.take k).map f).sum ≤ (l.map f).sum := by
  intro l
  induction l with
  | nil => intro k; simp
  | cons x l ih =>
    intro k
    cases k with
    | zero => simp
    | succ k =>
      have := ih k
      simp only [List.take_succ_cons, List.map_cons, List.sum_cons]
      omega
theorem sumL_le2 (l : List Cmp) : sumL l ≤ (l.map fun c => 2 * c.length + 1).sum := by
  induction l with
  | nil => exact Nat.le_refl _
  | cons c l ih =>
    have h1 := relC_le c
    rw [show c :: l = [c] ++ l from rfl, sumL_append, sumL_one]
    simp only [List.singleton_append, List.map_cons, List.sum_cons]
    unfold lenC
    omega
theorem sum_map2 (l : List Cmp) : (l.map fun c => 2 * c.length + 1).sum = 2 * (l.map List.length).sum + l.length := by
  induction l with
  | nil => rfl
  | cons c l ih => simp only [List.map_cons, List.sum_cons, List.length_cons, ih]; omega
theorem sumL_mkT (e : Elt) : sumL (mkT e) ≤ 2 * eltN e + 1 := by
  unfold mkT
  split
  · have : sumL [([] : Cmp)] = 1 := rfl
    omega
  · have h1 := sumL_le2 ((e.take 10).map mkC)
    rw [sum_map2] at h1
    have h2 : (((e.take 10).map mkC).map List.length).sum ≤ ((e.take 10).map List.length).sum := by
      generalize e.take 10 = m
      induction m with
      | nil => exact Nat.le_refl _
      | cons c m ih =>
        have : (mkC c).length ≤ c.length := by unfold mkC; rw [List.length_map, List.length_take]; omega
        simp only [List.map_cons, List.sum_cons]
        omega
    have h3 := sum_take List.length e 10
    have h4 : ((e.take 10).map mkC).length ≤ e.length := by rw [List.length_map, List.length_take]; omega
    unfold eltN cmpsN
    omega
theorem sumL_flat (l : List Elt) : sumL (l.map mkT).flatten ≤ 2 * (l.map eltN).sum + l.length := by
  induction l with
  | nil => exact Nat.le_refl _
  | cons e l ih =>
    have := sumL_mkT e
    simp only [List.map_cons, List.flatten_cons, sumL_append, List.sum_cons, List.length_cons]
    omega
theorem wrS_mkS (s : Sgm) : (wrS (mkS s)).length ≤ 2 * sgN s + 1 := by
  have hr := right_mkS s
  obtain ⟨h1, _⟩ := right_all hr
  have h6 := ext_le (mkS s).flatten
  rw [wrS_len (by intro e; rw [e] at hr; simp [rightS] at hr) (right_ne h1)]
  unfold mkS at *
  split
  · have : sumL (([[[]]] : Sgm)).flatten = 1 := rfl
    have : extL (([[[]]] : Sgm)).flatten = 0 := rfl
    omega
  · rename_i h0
    rw [if_neg h0] at h6
    have h2 := sumL_flat (s.take 30)
    have h3 := sum_take eltN s 30
    have h4 : (s.take 30).length ≤ s.length := by rw [List.length_take]; omega
    unfold sgN
    omega
theorem wrL_made (A : List Sgm) (h : A.all smallS = true) : (wrL (madeL A)).length ≤ 1401 * A.length := by
  induction A with
  | nil => exact Nat.le_refl _
  | cons s A ih =>
    simp only [List.all_cons, Bool.and_eq_true] at h
    have h1 := ih h.2
    have h2 := wrS_mkS s
    have h3 := h.1
    unfold smallS at h3
    simp only [decide_eq_true_eq] at h3
    rw [show wrL (madeL (s :: A)) = wrS (mkS s) ++ wrL (madeL A) from by simp [wrL, madeL], List.length_append, List.length_cons]
    omega
theorem small_of {A : List Sgm} (h : smallL A = true) : A.length ≤ 40 ∧ A.all smallS = true := by
  unfold smallL at h
  simpa only [Bool.and_eq_true, decide_eq_true_eq] using h
theorem lens_right {A : List Sgm} (h : A.all rightS = true) : ∀ y ∈ A, y.length ≤ 4000000000 ∧ ∀ z ∈ y, z.length ≤ 4000000000 := right_lens h
theorem wrS_made {A : List Sgm} (h : A.all smallS = true) {k : Nat} {y : Sgm} (hy : (madeL A)[k]? = some y) : (wrS y).length ≤ 1401 := by
  unfold madeL at hy
  rw [List.getElem?_map] at hy
  obtain ⟨s, hs, rfl⟩ := Option.map_eq_some_iff.1 hy
  have h1 := wrS_mkS s
  have h2 := all_at h hs
  unfold smallS at h2
  simp only [decide_eq_true_eq] at h2
  omega
theorem writeV_one {y : Sgm} (h : rightS y = true) (hl : (wrS y).length ≤ 65536) : writeV [y] = .tuple #[strV (wrS y), .int .i64 0] := by
  have e : wrL [y] = wrS y := by simp [wrL]
  unfold writeV
  rw [if_neg (by rw [List.length_singleton]; omega), if_neg (by simp [h]), e, if_neg (by omega)]
theorem writeV_all {A : List Sgm} (h : A.all rightS = true) (hn : A.length ≤ 5000) (hl : (wrL A).length ≤ 65536) : writeV A = .tuple #[strV (wrL A), .int .i64 0] := by
  unfold writeV
  rw [if_neg (by omega), if_neg (by rw [h]; simp), if_neg (by omega)]
theorem gap_rep {g : UInt8} (h : gap g = true) : ∀ n, (Lib.repeatL [g] n).all gap = true := by
  intro n
  induction n with
  | zero => rfl
  | succ n ih => simp only [Lib.repeatL, List.singleton_append, List.all_cons, h, ih, Bool.and_self]
theorem gap_at {m : Nat} (h : m < 3) : ∃ g : UInt8, gap g = true ∧ (([10, 13, 32] : List UInt8).take (m + 1)).drop m = [g] := by
  rcases m with _ | _ | _ | m
  · exact ⟨10, rfl, rfl⟩
  · exact ⟨13, rfl, rfl⟩
  · exact ⟨32, rfl, rfl⟩
  · omega
theorem loose_seg {A : List Sgm} {k : Nat} {y : Sgm} {lo : List UInt8} (hR : A.all rightS = true) (hn : A.length ≤ 4000) (hy : A[k]? = some y) (h : runS 0 lo ⟨[], .out⟩ = .ok ⟨A.take k, .out⟩) : runS 0 (lo ++ wrS y) ⟨[], .out⟩ = .ok ⟨A.take (k + 1), .out⟩ := by
  rw [runS_ok h, run_wrS (all_at hR hy) (by rw [List.length_take]; omega), takeL hy]
theorem loose_gap {A : List Sgm} {k : Nat} {lo g : List UInt8} (hg : g.all gap = true) (h : runS 0 lo ⟨[], .out⟩ = .ok ⟨A.take k, .out⟩) : runS 0 (lo ++ g) ⟨[], .out⟩ = .ok ⟨A.take k, .out⟩ := by
  rw [runS_ok h, run_gaps _ _ _ hg]
theorem loose_read {A : List Sgm} {k : Nat} {lo : List UInt8} (hk : ¬ k < A.length) (h : runS 0 lo ⟨[], .out⟩ = .ok ⟨A.take k, .out⟩) (hl : ¬ 65536 < lo.length) : readT lo = .ok A := by
  unfold readT
  rw [if_neg hl, h, List.take_of_length_le (by omega)]
  rfl
theorem lvp_one {α : Type} {R : World → Value → α → Prop} {W : World} {p : Option Addr} {l : List α} {i b off : Nat} {y : α} (h : LVp R W p l) (hy : l[i]? = some y) (hp : p = some ⟨b, off, none⟩) : LVp R W (some ⟨b, off + i * 1, none⟩) [y] := by
  obtain ⟨vs, h1, h2, h3⟩ := h
  have hi := (List.getElem?_eq_some_iff.1 hy).1
  have hx : vs[i]? = some (vs[i]'(by omega)) := List.getElem?_eq_getElem (by omega)
  rcases h1 with rfl | ⟨b', off', e, hlt, hc⟩
  · simp at h2; omega
  · rw [hp] at e
    cases e
    refine ⟨[vs[i]'(by omega)], .inr ⟨b, off + i * 1, rfl, hlt, fun k u hu => ?_⟩, rfl, fun k x y' hx' hy' => ?_⟩
    · match k, hu with
      | 0, hu =>
        cases hu
        rw [Nat.mul_one]
        exact hc i _ hx
    · match k, hx', hy' with
      | 0, hx', hy' =>
        cases hx'
        cases hy'
        exact h3 i _ _ hx hy
theorem run_slS {P : Program} {T E : TypeId} {o : Oper} {a : Act} {b off n cap i j : Nat} {x p1 p2 : Operand} {k1 k2 : IntKind} (ho : o.op = .slice T x (some p1) (some p2) none) (hT : P.underlying T = some (.slice E)) (hi : (P.info? E).map (·.size) = some 1) (hx : a.eval x = .slice (some ⟨b, off, none⟩) n cap) (h1 : a.eval p1 = .int k1 ((i : Nat) : Int)) (h2 : a.eval p2 = .int k2 ((j : Nat) : Int)) {m : Nat} (hij : i < j) (hj : j ≤ cap) (hm : j - i = m) (w : World) :
    (execOp a.eval o).run P w = .ok (.value (.slice (some ⟨b, off + i * 1, none⟩) m (cap - i))) w := by
  subst hm
  have hsz : (Go.sizeOf E).run P w = .ok 1 w := by
    cases hq : P.info? E with
    | none => simp [hq] at hi
    | some i =>
      have hs : i.size = 1 := by simpa [hq] using hi
      simp [Go.sizeOf, typeInfo, hq, hs]
  unfold execOp
  rw [ho]
  have e1 := fun c => sl_bound (P := P) (k := k1) (c := c) (Nat.le_of_lt hij) w
  have e2 := fun c => sl_bound (P := P) (k := k2) (c := c) hj w
  have hne : ¬ cap = i := by omega
  simp [Instr.sliceAt, Instr.slice, Instr.sliceBounds, hx, h1, h2, run_underlying hT, e1, e2, hsz, hne, addr_add]
theorem shape_own {W0 : World} {A : List Sgm} {v : Value} {T : List (Nat × Obj)} (h : OwnS W0 A v T) : ∃ p c, v = .slice p A.length c ∧ A.length ≤ c := by
  obtain ⟨xo, T1, Ko, _, hO, _⟩ := h
  rcases hO with ⟨h0, _, e, _⟩ | ⟨g, cap, cur, e, _, hR, _⟩
  · exact ⟨_, _, by rw [h0]; exact e, by omega⟩
  · exact ⟨_, _, e, hR.2.2.1⟩
theorem repL_len (b : UInt8) (n : Nat) : (Lib.repeatL [b] n).length = n := by rw [Lib.repeatL_length]; simp
theorem rep_any (b : UInt8) (n : Nat) (hn : n ≤ 1000000) (w : World) : Calls Try.prog 17 #[strV [b], .int .i64 ((n : Nat) : Int)] w fun e w' => e = .returned (strV (Lib.repeatL [b] n)) ∧ Below w.heap.size w w' := by
  have h := Try.strings_Repeat ⟨#[b]⟩ n w (by omega) (by show (1 : Nat) * n ≤ _; omega)
  exact h
end Go.Proofs.Ytppegdbelgobiaa
namespace Go.Proofs.Ytppegdbelgobiaa
open Go Go.RowKit Tw
set_option maxRecDepth 100000 in
set_option maxHeartbeats 40000000 in
theorem made_own {W0 : World} (A : List (List (List (List UInt8)))) (pA : Option Addr) (cA : Nat) (lA : A.length ≤ 4000000000) (hA : LVp ElR W0 pA A) (w : World) (hw : KS (W0 : Base) [] w) : Calls Try.prog 13 #[.slice pA A.length cA] w fun e w' => ∃ v T, e = .returned v ∧ KS (W0 : Base) T w' ∧ OwnS W0 (madeL A) v T := by
  have HA := Lib.hid hA
  clear hA
  go_enter Try.func13, Try.ntmps13
  refine wp_seq ?_
  refine wp_region_L (W0 := (W0 : Base)) [] (hw) ?_
  refine lm (v := .slice none 0 0) rfl rfl ?_
  refine wpL_done (fun W1 hW1 => ?_)
  refine (show Code.wp _ _ _ _ _ from ?_)
  refine wp_seq ?_
  refine wp_region_L (W0 := (W0 : Base)) [] (hW1) ?_
  refine lm (v := .slice none 0 0) rfl rfl ?_
  refine wpL_done (fun W2 hW2 => ?_)
  refine (show Code.wp _ _ _ _ _ from ?_)
  refine wp_seq ?_
  refine wp_seq ?_
  refine wp_region_L (W0 := (W0 : Base)) [] (hW2) ?_
  refine lm (v := .slice pA A.length cA) rfl rfl ?_
  refine lp (v := .int .i64 ((A.length : Nat) : Int)) rfl rfl (run_lenL (p := pA) (cap := cA) (n := A.length) rfl Try.underlying24 (by kernel_rfl)) ?_
  refine lm (v := .int .i64 0) rfl rfl ?_
  refine wpL_done (fun W3 hW3 => ?_)
  refine (show Code.wp _ _ _ _ _ from ?_)
  refine wp_block ?_
  go_loopw [14, 3] (fun u14 u3 wr => ∃ (h : Nat) (vo : Value) (xo : List Value) (To Ko : List (Nat × Obj)), (h ≤ A.length) ∧ (OwnL (W0 : Base) 37 1 vo h xo Ko) ∧ (MkE ElR (W0 : Base) xo ((A.take h).map mkS) To) ∧ (Dj To Ko) ∧ u14 = .int .i64 ((h : Nat) : Int) ∧ vo = u3 ∧ KS (W0 : Base) (To ++ Ko) wr) (fun u14 _ _ => A.length - (intOf u14).toNat)
  case atStart => exact ⟨0, (.slice none 0 0), [], [], [], (Nat.zero_le _), (OwnL.nil _ _ _), MkE.nil, (show Dj [] [] from (by (try simp only [dj_app_l, dj_app_r, dj_cons_l, dj_cons_r, dj_nil_l, dj_nil_r, dk_app, dk_cons, dk_nil, and_true, true_and, and_assoc]); repeat' (first | trivial | assumption | exact Dj.symm (by assumption) | exact Ne.symm (by assumption) | apply And.intro))), rfl, rfl, (hW3.sub (fun p hp => by first | exact hp | (simp only [List.mem_cons, List.mem_append, List.nil_append, List.not_mem_nil, or_assoc, or_false, false_or] at hp ⊢ <;> grind)))⟩
  case round =>
    obtain ⟨h, vo, xo, To, Ko, hh, hOo, hEo, dh1_0, rfl, rfl, hL4⟩ := hrel
    refine wp_seq ?_
    refine wp_region_L (W0 := (W0 : Base)) (To ++ Ko) (hL4) ?_
    refine lp (v := .bool (decide (h < A.length))) rfl rfl (run_bin rfl (vx := (.int .i64 ((h : Nat) : Int))) (vy := (.int .i64 ((A.length : Nat) : Int))) (by kernel_rfl) (by kernel_rfl) fun w => bn_lss rfl w) ?_
    refine wpL_done (fun W5 hW5 => ?_)
    refine (show Code.wp _ _ _ _ _ from ?_)
    refine wp_seq ?_
    cases hd1 : (decide (h < A.length)) with
    | false =>
      have h1 : ¬ (h < A.length) := of_decide_eq_false hd1
      clear hd1
      refine wp_cond_false rfl ?_
      refine wp_exit ?_
      refine (show Code.wp _ _ _ _ _ from ?_)
      refine wp_seq ?_
      refine wp_region_L (W0 := (W0 : Base)) (To ++ Ko) (hW5) ?_
      refine lm (v := vo) rfl rfl ?_
      refine lm (v := vo) rfl rfl ?_
      refine wpL_done (fun W6 hW6 => ?_)
      refine (show Code.wp _ _ _ _ _ from ?_)
      refine wp_ret ?_
      try simp only [inBlock_ret, then_ret]
      refine bodyPost_ret (v := vo) ?_ rfl ?_
      · kernel_rfl
      · exact ⟨_, To ++ Ko, rfl, (hW6.sub (fun p hp => by simp only [List.mem_cons, List.mem_append, List.nil_append, List.not_mem_nil, or_assoc, or_false, false_or] at hp ⊢ <;> grind)), xo, To, Ko, rfl, (by have e : h = (madeL A).length := (by simp [madeL]; omega); rw [← e]; exact hOo), (by have z := hEo; rw [List.take_of_length_le (by omega)] at z; exact z), (show Dj To Ko from (by (try simp only [dj_app_l, dj_app_r, dj_cons_l, dj_cons_r, dj_nil_l, dj_nil_r, dk_app, dk_cons, dk_nil, and_true, true_and, and_assoc]); repeat' (first | trivial | assumption | exact Dj.symm (by assumption) | exact Ne.symm (by assumption) | apply And.intro)))⟩
    | true =>
      have h1 : h < A.length := of_decide_eq_true hd1
      clear hd1
      refine wp_cond_true rfl ?_
      refine wp_skip ?_
      refine (show Code.wp _ _ _ _ _ from ?_)
      refine wp_seq ?_
      refine wp_block ?_
      refine wp_seq ?_
      refine wp_region_L (W0 := (W0 : Base)) (To ++ Ko) (hW5) ?_
      obtain ⟨y2, p2, c2, b2, f2, hy2, HY2, hp2, lt2, hc2⟩ := lvp_lst (k := h) HA.out (by omega)
      have HY2 := Lib.hid HY2
      refine lp (v := .pointer (some ⟨b2, f2 + h * 1, none⟩)) rfl rfl (run_idxQ (p := pA) (cap := cA) (n := A.length) (j := .i64) (k := h) (sz := 1) rfl Try.underlying24 (by kernel_rfl) (by kernel_rfl) hp2 (by kernel_rfl) (by omega)) ?_
      refine lv (v := .slice p2 y2.length c2) rfl rfl (yb_old (off := f2 + h * 1) rfl (by kernel_rfl) hc2 lt2 Try.underlying37 rfl) ?_
      refine lm (v := .slice p2 y2.length c2) rfl rfl ?_
      refine wpL_done (fun W7 hW7 => ?_)
      refine (show Code.wp _ _ _ _ _ from ?_)
      refine wp_seq ?_
      refine wp_region_L (W0 := (W0 : Base)) (To ++ Ko) (hW7) ?_
      refine lm (v := .slice none 0 0) rfl rfl ?_
      refine wpL_done (fun W8 hW8 => ?_)
      refine (show Code.wp _ _ _ _ _ from ?_)
      refine wp_seq ?_
      refine wp_seq ?_
      refine wp_region_L (W0 := (W0 : Base)) (To ++ Ko) (hW8) ?_
      refine lm (v := .int .i64 0) rfl rfl ?_
      refine wpL_done (fun W9 hW9 => ?_)
      refine (show Code.wp _ _ _ _ _ from ?_)
      refine wp_block ?_
      go_loopw [7, 6] (fun u7 u6 wr => ∃ (i : Nat) (vt : Value) (xt : List Value) (Tt Kt : List (Nat × Obj)), (i ≤ y2.length) ∧ (i ≤ 30) ∧ (OwnL (W0 : Base) 43 1 vt i xt Kt) ∧ (MkE TxR (W0 : Base) xt ((y2.take i).map mkT) Tt) ∧ (Dj To Tt) ∧ (Dj Ko Tt) ∧ (Dj To Kt) ∧ (Dj Ko Kt) ∧ (Dj Tt Kt) ∧ u7 = .int .i64 ((i : Nat) : Int) ∧ vt = u6 ∧ KS (W0 : Base) (To ++ (Ko ++ (Tt ++ Kt))) wr) (fun u7 _ _ => 30 - (intOf u7).toNat)
      case atStart => exact ⟨0, (.slice none 0 0), [], [], [], (Nat.zero_le _), (Nat.zero_le _), (OwnL.nil _ _ _), MkE.nil, (show Dj To [] from (by (try simp only [dj_app_l, dj_app_r, dj_cons_l, dj_cons_r, dj_nil_l, dj_nil_r, dk_app, dk_cons, dk_nil, and_true, true_and, and_assoc]); repeat' (first | trivial | assumption | exact Dj.symm (by assumption) | exact Ne.symm (by assumption) | apply And.intro))), (show Dj Ko [] from (by (try simp only [dj_app_l, dj_app_r, dj_cons_l, dj_cons_r, dj_nil_l, dj_nil_r, dk_app, dk_cons, dk_nil, and_true, true_and, and_assoc]); repeat' (first | trivial | assumption | exact Dj.symm (by assumption) | exact Ne.symm (by assumption) | apply And.intro))), (show Dj To [] from (by (try simp only [dj_app_l, dj_app_r, dj_cons_l, dj_cons_r, dj_nil_l, dj_nil_r, dk_app, dk_cons, dk_nil, and_true, true_and, and_assoc]); repeat' (first | trivial | assumption | exact Dj.symm (by assumption) | exact Ne.symm (by assumption) | apply And.intro))), (show Dj Ko [] from (by (try simp only [dj_app_l, dj_app_r, dj_cons_l, dj_cons_r, dj_nil_l, dj_nil_r, dk_app, dk_cons, dk_nil, and_true, true_and, and_assoc]); repeat' (first | trivial | assumption | exact Dj.symm (by assumption) | exact Ne.symm (by assumption) | apply And.intro))), (show Dj [] [] from (by (try simp only [dj_app_l, dj_app_r, dj_cons_l, dj_cons_r, dj_nil_l, dj_nil_r, dk_app, dk_cons, dk_nil, and_true, true_and, and_assoc]); repeat' (first | trivial | assumption | exact Dj.symm (by assumption) | exact Ne.symm (by assumption) | apply And.intro))), rfl, rfl, (hW9.sub (fun p hp => by first | exact hp | (simp only [List.mem_cons, List.mem_append, List.nil_append, List.not_mem_nil, or_assoc, or_false, false_or] at hp ⊢ <;> grind)))⟩
      case round =>
        obtain ⟨i, vt, xt, Tt, Kt, hi, hi2, hOt, hEt, dh3_0, dh3_1, dh3_2, dh3_3, dh3_4, rfl, rfl, hL10⟩ := hrel
        refine wp_seq ?_
        refine wp_seq ?_
        refine wp_region_L (W0 := (W0 : Base)) (To ++ (Ko ++ (Tt ++ Kt))) (hL10) ?_
        refine lm (v := .int .i64 ((i : Nat) : Int)) rfl rfl ?_
        refine lm (v := .slice p2 y2.length c2) rfl rfl ?_
        refine lp (v := .int .i64 ((y2.length : Nat) : Int)) rfl rfl (run_lenL (p := p2) (cap := c2) (n := y2.length) rfl Try.underlying37 (by kernel_rfl)) ?_
        refine lp (v := .bool (decide (i < y2.length))) rfl rfl (run_bin rfl (vx := (.int .i64 ((i : Nat) : Int))) (vy := (.int .i64 ((y2.length : Nat) : Int))) (by kernel_rfl) (by kernel_rfl) fun w => bn_lss rfl w) ?_
        refine lm (v := .bool (decide (i < y2.length))) rfl rfl ?_
        cases hd2 : (decide (i < y2.length)) with
        | false =>
          have h2 : ¬ (i < y2.length) := of_decide_eq_false hd2
          clear hd2
          refine ln rfl ?_
          refine ln rfl ?_
          refine lm (v := .bool false) rfl rfl ?_
          refine wpL_done (fun W11 hW11 => ?_)
          refine (show Code.wp _ _ _ _ _ from ?_)
          refine wp_cond_false rfl ?_
          refine wp_exit ?_
          refine (show Code.wp _ _ _ _ _ from ?_)
          refine wp_seq ?_
          refine wp_seq ?_
          refine wp_region_L (W0 := (W0 : Base)) (To ++ (Ko ++ (Tt ++ Kt))) (hW11) ?_
          refine lm (v := vt) rfl rfl ?_
          refine lp (v := .int .i64 ((i : Nat) : Int)) rfl rfl (run_lenO (W0 := (W0 : Base)) rfl Try.underlying37 (by kernel_rfl) hOt) ?_
          refine lp (v := .bool (decide (i = 0))) rfl rfl (run_bin rfl (vx := (.int .i64 ((i : Nat) : Int))) (vy := (.int .i64 ((0 : Nat) : Int))) (by kernel_rfl) (by kernel_rfl) fun w => bn_eql rfl w) ?_
          refine wpL_done (fun W12 hW12 => ?_)
          refine (show Code.wp _ _ _ _ _ from ?_)
          cases hd3 : (decide (i = 0)) with
          | false =>
            have h3 : ¬ (i = 0) := of_decide_eq_false hd3
            clear hd3
            refine wp_cond_false rfl ?_
            refine wp_skip ?_
            refine (show Code.wp _ _ _ _ _ from ?_)
            refine wp_region_L (W0 := (W0 : Base)) (To ++ (Ko ++ (Tt ++ Kt))) (hW12) ?_
            refine lm (v := vo) rfl rfl ?_
            refine lm (v := vt) rfl rfl ?_
            obtain ⟨p4, c4, rfl⟩ := own_shape hOt
            refine wpL_new (fun g => .slice (some ⟨g, 0, none⟩) 1 1) (obi := .cells #[.slice p4 i c4] 37 (0, 0)) rfl rfl (fun _ => by kernel_rfl) (fun _ => by simp only [List.setIfInBounds_toArray, List.set_cons_succ, List.set_cons_zero] <;> rfl) fun g5 Bg5 Fg5 => ?_
            obtain ⟨dj6_0, dj6_1, dj6_2, dj6_3⟩ : Dk g5 To ∧ Dk g5 Ko ∧ Dk g5 Tt ∧ Dk g5 Kt := by simpa only [dj_app_l, dj_app_r, dj_cons_l, dj_cons_r, dj_nil_l, dj_nil_r, dk_app, dk_cons, dk_nil, and_true, true_and, and_assoc] using (show Dk g5 (To ++ (Ko ++ (Tt ++ Kt))) from Fg5)
            refine wpL_g (AppO (W0 : Base) 37 1 (To ++ (Tt ++ Kt)) (h + 1) (xo ++ [.slice p4 i c4])) rfl rfl (app_own el_seg (m := 1) (c := 1) (news := [.slice p4 i c4]) rfl (by kernel_rfl) (by kernel_rfl) (.head _) hOo (fun p hp => by simp only [List.mem_cons, List.mem_append, List.nil_append, List.not_mem_nil, or_assoc, or_false, false_or, hp, or_true, true_or]) (fun p hp => ⟨by simp only [List.mem_cons, List.mem_append, List.nil_append, List.not_mem_nil, or_assoc, or_false, false_or] at hp ⊢ <;> grind, (show Dj (To ++ (Tt ++ Kt)) Ko from (by (try simp only [dj_app_l, dj_app_r, dj_cons_l, dj_cons_r, dj_nil_l, dj_nil_r, dk_app, dk_cons, dk_nil, and_true, true_and, and_assoc]); repeat' (first | trivial | assumption | exact Dj.symm (by assumption) | exact Ne.symm (by assumption) | apply And.intro))) p hp⟩) rfl (by simp [strV, Value.oneCell']) (by omega) (by omega) (by omega)) (fun _ => by simp only [List.setIfInBounds_toArray, List.set_cons_succ, List.set_cons_zero] <;> rfl) ?_
            rintro v7 K9 ⟨Kl7, O7, N7, rfl⟩
            obtain ⟨dj8_0, dj8_1, dj8_2⟩ : Dj To Kl7 ∧ Dj Tt Kl7 ∧ Dj Kt Kl7 := by simpa only [dj_app_l, dj_app_r, dj_cons_l, dj_cons_r, dj_nil_l, dj_nil_r, dk_app, dk_cons, dk_nil, and_true, true_and, and_assoc] using (show Dj (To ++ (Tt ++ Kt)) Kl7 from N7)
            refine lm (v := v7) rfl rfl ?_
            refine wpL_done (fun W13 hW13 => ?_)
            refine (show Code.wp _ _ _ _ _ from ?_)
            refine wp_region_L (W0 := (W0 : Base)) ((To ++ (Tt ++ Kt)) ++ Kl7) (hW13) ?_
            refine lp (v := .int .i64 (((h + 1) : Nat) : Int)) rfl rfl (run_bin rfl (vx := (.int .i64 ((h : Nat) : Int))) (vy := (.int .i64 ((1 : Nat) : Int))) (by kernel_rfl) (by kernel_rfl) fun w => bn_add (z := (h + 1)) rfl (wr_i64 (by omega)) w) ?_
            refine lm (v := .int .i64 (((h + 1) : Nat) : Int)) rfl rfl ?_
            refine wpL_done (fun W14 hW14 => ?_)
            go_roundw
            case rel =>
              repeat apply Exists.intro
              exact ⟨⟨h + 1, v7, (xo ++ [.slice p4 i c4]), (To ++ (Tt ++ Kt)), Kl7, (by omega), O7, (mke_map (MkE.snoc hEo ((mkS_some (s := y2) h3 (by omega) (by omega) (by omega)).symm ▸ MkE.mk hOt hEt (by simp; omega))) hy2), (show Dj (To ++ (Tt ++ Kt)) Kl7 from (by (try simp only [dj_app_l, dj_app_r, dj_cons_l, dj_cons_r, dj_nil_l, dj_nil_r, dk_app, dk_cons, dk_nil, and_true, true_and, and_assoc]); repeat' (first | trivial | assumption | exact Dj.symm (by assumption) | exact Ne.symm (by assumption) | apply And.intro))), rfl, rfl, (hW14.sub (fun p hp => by first | exact hp | (simp only [List.mem_cons, List.mem_append, List.nil_append, List.not_mem_nil, or_assoc, or_false, false_or] at hp ⊢ <;> grind)))⟩, rfl⟩
            case measure => (show A.length - (intOf (.int .i64 (((h + 1) : Nat) : Int))).toNat < A.length - (intOf (.int .i64 ((h : Nat) : Int))).toNat); simp only [intOf]; omega
          | true =>
            have h3 : i = 0 := of_decide_eq_true hd3
            clear hd3
            refine wp_cond_true rfl ?_
            refine wp_region_L (W0 := (W0 : Base)) (To ++ (Ko ++ (Tt ++ Kt))) (hW12) ?_
            refine wpL_new (fun g => .slice (some ⟨g, 0, none⟩) 1 1) (obi := .cells #[strV []] 9 (0, 0)) rfl rfl (fun _ => by kernel_rfl) (fun _ => by simp only [List.setIfInBounds_toArray, List.set_cons_succ, List.set_cons_zero] <;> rfl) fun g9 Bg9 Fg9 => ?_
            obtain ⟨dj10_0, dj10_1, dj10_2, dj10_3⟩ : Dk g9 To ∧ Dk g9 Ko ∧ Dk g9 Tt ∧ Dk g9 Kt := by simpa only [dj_app_l, dj_app_r, dj_cons_l, dj_cons_r, dj_nil_l, dj_nil_r, dk_app, dk_cons, dk_nil, and_true, true_and, and_assoc] using (show Dk g9 (To ++ (Ko ++ (Tt ++ Kt))) from Fg9)
            refine wpL_new (fun g => .slice (some ⟨g, 0, none⟩) 1 1) (obi := .cells #[.slice (some ⟨g9, 0, none⟩) 1 1] 43 (0, 0)) rfl rfl (fun _ => by kernel_rfl) (fun _ => by simp only [List.setIfInBounds_toArray, List.set_cons_succ, List.set_cons_zero] <;> rfl) fun g11 Bg11 Fg11 => ?_
            obtain ⟨dj12_0, dj12_1, dj12_2, dj12_3, dj12_4⟩ : g9 ≠ g11 ∧ Dk g11 To ∧ Dk g11 Ko ∧ Dk g11 Tt ∧ Dk g11 Kt := by simpa only [dj_app_l, dj_app_r, dj_cons_l, dj_cons_r, dj_nil_l, dj_nil_r, dk_app, dk_cons, dk_nil, and_true, true_and, and_assoc] using (show Dk g11 ((g9, .cells #[strV []] 9 (0, 0)) :: (To ++ (Ko ++ (Tt ++ Kt)))) from Fg11)
            refine lm (v := .slice (some ⟨g11, 0, none⟩) 1 1) rfl rfl ?_
            refine wpL_done (fun W15 hW15 => ?_)
            refine (show Code.wp _ _ _ _ _ from ?_)
            refine wp_region_L (W0 := (W0 : Base)) ((g11, .cells #[.slice (some ⟨g9, 0, none⟩) 1 1] 43 (0, 0)) :: (g9, .cells #[strV []] 9 (0, 0)) :: (To ++ (Ko ++ (Tt ++ Kt)))) (hW15) ?_
            refine lm (v := vo) rfl rfl ?_
            refine lm (v := .slice (some ⟨g11, 0, none⟩) 1 1) rfl rfl ?_
            refine wpL_new (fun g => .slice (some ⟨g, 0, none⟩) 1 1) (obi := .cells #[.slice (some ⟨g11, 0, none⟩) 1 1] 37 (0, 0)) rfl rfl (fun _ => by kernel_rfl) (fun _ => by simp only [List.setIfInBounds_toArray, List.set_cons_succ, List.set_cons_zero] <;> rfl) fun g13 Bg13 Fg13 => ?_
            obtain ⟨dj14_0, dj14_1, dj14_2, dj14_3, dj14_4, dj14_5⟩ : g11 ≠ g13 ∧ g9 ≠ g13 ∧ Dk g13 To ∧ Dk g13 Ko ∧ Dk g13 Tt ∧ Dk g13 Kt := by simpa only [dj_app_l, dj_app_r, dj_cons_l, dj_cons_r, dj_nil_l, dj_nil_r, dk_app, dk_cons, dk_nil, and_true, true_and, and_assoc] using (show Dk g13 ((g11, .cells #[.slice (some ⟨g9, 0, none⟩) 1 1] 43 (0, 0)) :: (g9, .cells #[strV []] 9 (0, 0)) :: (To ++ (Ko ++ (Tt ++ Kt)))) from Fg13)
            refine wpL_g (AppO (W0 : Base) 37 1 ((g11, .cells #[.slice (some ⟨g9, 0, none⟩) 1 1] 43 (0, 0)) :: (g9, .cells #[strV []] 9 (0, 0)) :: (To ++ (Tt ++ Kt))) (h + 1) (xo ++ [.slice (some ⟨g11, 0, none⟩) 1 1])) rfl rfl (app_own el_seg (m := 1) (c := 1) (news := [.slice (some ⟨g11, 0, none⟩) 1 1]) rfl (by kernel_rfl) (by kernel_rfl) (.head _) hOo (fun p hp => by simp only [List.mem_cons, List.mem_append, List.nil_append, List.not_mem_nil, or_assoc, or_false, false_or, hp, or_true, true_or]) (fun p hp => ⟨by simp only [List.mem_cons, List.mem_append, List.nil_append, List.not_mem_nil, or_assoc, or_false, false_or] at hp ⊢ <;> grind, (show Dj ((g11, .cells #[.slice (some ⟨g9, 0, none⟩) 1 1] 43 (0, 0)) :: (g9, .cells #[strV []] 9 (0, 0)) :: (To ++ (Tt ++ Kt))) Ko from (by (try simp only [dj_app_l, dj_app_r, dj_cons_l, dj_cons_r, dj_nil_l, dj_nil_r, dk_app, dk_cons, dk_nil, and_true, true_and, and_assoc]); repeat' (first | trivial | assumption | exact Dj.symm (by assumption) | exact Ne.symm (by assumption) | apply And.intro))) p hp⟩) rfl (by simp [strV, Value.oneCell']) (by omega) (by omega) (by omega)) (fun _ => by simp only [List.setIfInBounds_toArray, List.set_cons_succ, List.set_cons_zero] <;> rfl) ?_
            rintro v15 K9 ⟨Kl15, O15, N15, rfl⟩
            obtain ⟨dj16_0, dj16_1, dj16_2, dj16_3, dj16_4⟩ : Dk g11 Kl15 ∧ Dk g9 Kl15 ∧ Dj To Kl15 ∧ Dj Tt Kl15 ∧ Dj Kt Kl15 := by simpa only [dj_app_l, dj_app_r, dj_cons_l, dj_cons_r, dj_nil_l, dj_nil_r, dk_app, dk_cons, dk_nil, and_true, true_and, and_assoc] using (show Dj ((g11, .cells #[.slice (some ⟨g9, 0, none⟩) 1 1] 43 (0, 0)) :: (g9, .cells #[strV []] 9 (0, 0)) :: (To ++ (Tt ++ Kt))) Kl15 from N15)
            refine lm (v := v15) rfl rfl ?_
            refine wpL_done (fun W16 hW16 => ?_)
            refine (show Code.wp _ _ _ _ _ from ?_)
            refine wp_region_L (W0 := (W0 : Base)) ((g11, .cells #[.slice (some ⟨g9, 0, none⟩) 1 1] 43 (0, 0)) :: (g9, .cells #[strV []] 9 (0, 0)) :: ((To ++ (Tt ++ Kt)) ++ Kl15)) (hW16) ?_
            refine lp (v := .int .i64 (((h + 1) : Nat) : Int)) rfl rfl (run_bin rfl (vx := (.int .i64 ((h : Nat) : Int))) (vy := (.int .i64 ((1 : Nat) : Int))) (by kernel_rfl) (by kernel_rfl) fun w => bn_add (z := (h + 1)) rfl (wr_i64 (by omega)) w) ?_
            refine lm (v := .int .i64 (((h + 1) : Nat) : Int)) rfl rfl ?_
            refine wpL_done (fun W17 hW17 => ?_)
            go_roundw
            case rel =>
              repeat apply Exists.intro
              exact ⟨⟨h + 1, v15, (xo ++ [.slice (some ⟨g11, 0, none⟩) 1 1]), (To ++ [(g11, .cells #[.slice (some ⟨g9, 0, none⟩) 1 1] 43 (0, 0)), (g9, .cells #[strV []] 9 (0, 0))]), Kl15, (by omega), O15, (mke_map (MkE.snoc hEo ((mkS_nil (s := y2) (by omega)).symm ▸ lv_block (lv_block strv_empty))) hy2), (show Dj (To ++ [(g11, .cells #[.slice (some ⟨g9, 0, none⟩) 1 1] 43 (0, 0)), (g9, .cells #[strV []] 9 (0, 0))]) Kl15 from (by (try simp only [dj_app_l, dj_app_r, dj_cons_l, dj_cons_r, dj_nil_l, dj_nil_r, dk_app, dk_cons, dk_nil, and_true, true_and, and_assoc]); repeat' (first | trivial | assumption | exact Dj.symm (by assumption) | exact Ne.symm (by assumption) | apply And.intro))), rfl, rfl, (hW17.sub (fun p hp => by first | exact hp | (simp only [List.mem_cons, List.mem_append, List.nil_append, List.not_mem_nil, or_assoc, or_false, false_or] at hp ⊢ <;> grind)))⟩, rfl⟩
            case measure => (show A.length - (intOf (.int .i64 (((h + 1) : Nat) : Int))).toNat < A.length - (intOf (.int .i64 ((h : Nat) : Int))).toNat); simp only [intOf]; omega
        | true =>
          have h2 : i < y2.length := of_decide_eq_true hd2
          clear hd2
          refine lm (v := .int .i64 ((i : Nat) : Int)) rfl rfl ?_
          refine lp (v := .bool (decide (i < 30))) rfl rfl (run_bin rfl (vx := (.int .i64 ((i : Nat) : Int))) (vy := (.int .i64 ((30 : Nat) : Int))) (by kernel_rfl) (by kernel_rfl) fun w => bn_lss rfl w) ?_
          refine lm (v := .bool (decide (i < 30))) rfl rfl ?_
          refine wpL_done (fun W18 hW18 => ?_)
          refine (show Code.wp _ _ _ _ _ from ?_)
          cases hd4 : (decide (i < 30)) with
          | false =>
            have h4 : ¬ (i < 30) := of_decide_eq_false hd4
            clear hd4
            refine wp_cond_false rfl ?_
            refine wp_exit ?_
            refine (show Code.wp _ _ _ _ _ from ?_)
            refine wp_seq ?_
            refine wp_seq ?_
            refine wp_region_L (W0 := (W0 : Base)) (To ++ (Ko ++ (Tt ++ Kt))) (hW18) ?_
            refine lm (v := vt) rfl rfl ?_
            refine lp (v := .int .i64 ((i : Nat) : Int)) rfl rfl (run_lenO (W0 := (W0 : Base)) rfl Try.underlying37 (by kernel_rfl) hOt) ?_
            refine lp (v := .bool (decide (i = 0))) rfl rfl (run_bin rfl (vx := (.int .i64 ((i : Nat) : Int))) (vy := (.int .i64 ((0 : Nat) : Int))) (by kernel_rfl) (by kernel_rfl) fun w => bn_eql rfl w) ?_
            refine wpL_done (fun W19 hW19 => ?_)
            refine (show Code.wp _ _ _ _ _ from ?_)
            cases hd5 : (decide (i = 0)) with
            | false =>
              have h5 : ¬ (i = 0) := of_decide_eq_false hd5
              clear hd5
              refine wp_cond_false rfl ?_
              refine wp_skip ?_
              refine (show Code.wp _ _ _ _ _ from ?_)
              refine wp_region_L (W0 := (W0 : Base)) (To ++ (Ko ++ (Tt ++ Kt))) (hW19) ?_
              refine lm (v := vo) rfl rfl ?_
              refine lm (v := vt) rfl rfl ?_
              obtain ⟨p17, c17, rfl⟩ := own_shape hOt
              refine wpL_new (fun g => .slice (some ⟨g, 0, none⟩) 1 1) (obi := .cells #[.slice p17 i c17] 37 (0, 0)) rfl rfl (fun _ => by kernel_rfl) (fun _ => by simp only [List.setIfInBounds_toArray, List.set_cons_succ, List.set_cons_zero] <;> rfl) fun g18 Bg18 Fg18 => ?_
              obtain ⟨dj19_0, dj19_1, dj19_2, dj19_3⟩ : Dk g18 To ∧ Dk g18 Ko ∧ Dk g18 Tt ∧ Dk g18 Kt := by simpa only [dj_app_l, dj_app_r, dj_cons_l, dj_cons_r, dj_nil_l, dj_nil_r, dk_app, dk_cons, dk_nil, and_true, true_and, and_assoc] using (show Dk g18 (To ++ (Ko ++ (Tt ++ Kt))) from Fg18)
              refine wpL_g (AppO (W0 : Base) 37 1 (To ++ (Tt ++ Kt)) (h + 1) (xo ++ [.slice p17 i c17])) rfl rfl (app_own el_seg (m := 1) (c := 1) (news := [.slice p17 i c17]) rfl (by kernel_rfl) (by kernel_rfl) (.head _) hOo (fun p hp => by simp only [List.mem_cons, List.mem_append, List.nil_append, List.not_mem_nil, or_assoc, or_false, false_or, hp, or_true, true_or]) (fun p hp => ⟨by simp only [List.mem_cons, List.mem_append, List.nil_append, List.not_mem_nil, or_assoc, or_false, false_or] at hp ⊢ <;> grind, (show Dj (To ++ (Tt ++ Kt)) Ko from (by (try simp only [dj_app_l, dj_app_r, dj_cons_l, dj_cons_r, dj_nil_l, dj_nil_r, dk_app, dk_cons, dk_nil, and_true, true_and, and_assoc]); repeat' (first | trivial | assumption | exact Dj.symm (by assumption) | exact Ne.symm (by assumption) | apply And.intro))) p hp⟩) rfl (by simp [strV, Value.oneCell']) (by omega) (by omega) (by omega)) (fun _ => by simp only [List.setIfInBounds_toArray, List.set_cons_succ, List.set_cons_zero] <;> rfl) ?_
              rintro v20 K9 ⟨Kl20, O20, N20, rfl⟩
              obtain ⟨dj21_0, dj21_1, dj21_2⟩ : Dj To Kl20 ∧ Dj Tt Kl20 ∧ Dj Kt Kl20 := by simpa only [dj_app_l, dj_app_r, dj_cons_l, dj_cons_r, dj_nil_l, dj_nil_r, dk_app, dk_cons, dk_nil, and_true, true_and, and_assoc] using (show Dj (To ++ (Tt ++ Kt)) Kl20 from N20)
              refine lm (v := v20) rfl rfl ?_
              refine wpL_done (fun W20 hW20 => ?_)
              refine (show Code.wp _ _ _ _ _ from ?_)
              refine wp_region_L (W0 := (W0 : Base)) ((To ++ (Tt ++ Kt)) ++ Kl20) (hW20) ?_
              refine lp (v := .int .i64 (((h + 1) : Nat) : Int)) rfl rfl (run_bin rfl (vx := (.int .i64 ((h : Nat) : Int))) (vy := (.int .i64 ((1 : Nat) : Int))) (by kernel_rfl) (by kernel_rfl) fun w => bn_add (z := (h + 1)) rfl (wr_i64 (by omega)) w) ?_
              refine lm (v := .int .i64 (((h + 1) : Nat) : Int)) rfl rfl ?_
              refine wpL_done (fun W21 hW21 => ?_)
              go_roundw
              case rel =>
                repeat apply Exists.intro
                exact ⟨⟨h + 1, v20, (xo ++ [.slice p17 i c17]), (To ++ (Tt ++ Kt)), Kl20, (by omega), O20, (mke_map (MkE.snoc hEo ((mkS_some (s := y2) h5 (by omega) (by omega) (by omega)).symm ▸ MkE.mk hOt hEt (by simp; omega))) hy2), (show Dj (To ++ (Tt ++ Kt)) Kl20 from (by (try simp only [dj_app_l, dj_app_r, dj_cons_l, dj_cons_r, dj_nil_l, dj_nil_r, dk_app, dk_cons, dk_nil, and_true, true_and, and_assoc]); repeat' (first | trivial | assumption | exact Dj.symm (by assumption) | exact Ne.symm (by assumption) | apply And.intro))), rfl, rfl, (hW21.sub (fun p hp => by first | exact hp | (simp only [List.mem_cons, List.mem_append, List.nil_append, List.not_mem_nil, or_assoc, or_false, false_or] at hp ⊢ <;> grind)))⟩, rfl⟩
              case measure => (show A.length - (intOf (.int .i64 (((h + 1) : Nat) : Int))).toNat < A.length - (intOf (.int .i64 ((h : Nat) : Int))).toNat); simp only [intOf]; omega
            | true =>
              have h5 : i = 0 := of_decide_eq_true hd5
              clear hd5
              refine wp_cond_true rfl ?_
              refine wp_region_L (W0 := (W0 : Base)) (To ++ (Ko ++ (Tt ++ Kt))) (hW19) ?_
              refine wpL_new (fun g => .slice (some ⟨g, 0, none⟩) 1 1) (obi := .cells #[strV []] 9 (0, 0)) rfl rfl (fun _ => by kernel_rfl) (fun _ => by simp only [List.setIfInBounds_toArray, List.set_cons_succ, List.set_cons_zero] <;> rfl) fun g22 Bg22 Fg22 => ?_
              obtain ⟨dj23_0, dj23_1, dj23_2, dj23_3⟩ : Dk g22 To ∧ Dk g22 Ko ∧ Dk g22 Tt ∧ Dk g22 Kt := by simpa only [dj_app_l, dj_app_r, dj_cons_l, dj_cons_r, dj_nil_l, dj_nil_r, dk_app, dk_cons, dk_nil, and_true, true_and, and_assoc] using (show Dk g22 (To ++ (Ko ++ (Tt ++ Kt))) from Fg22)
              refine wpL_new (fun g => .slice (some ⟨g, 0, none⟩) 1 1) (obi := .cells #[.slice (some ⟨g22, 0, none⟩) 1 1] 43 (0, 0)) rfl rfl (fun _ => by kernel_rfl) (fun _ => by simp only [List.setIfInBounds_toArray, List.set_cons_succ, List.set_cons_zero] <;> rfl) fun g24 Bg24 Fg24 => ?_
              obtain ⟨dj25_0, dj25_1, dj25_2, dj25_3, dj25_4⟩ : g22 ≠ g24 ∧ Dk g24 To ∧ Dk g24 Ko ∧ Dk g24 Tt ∧ Dk g24 Kt := by simpa only [dj_app_l, dj_app_r, dj_cons_l, dj_cons_r, dj_nil_l, dj_nil_r, dk_app, dk_cons, dk_nil, and_true, true_and, and_assoc] using (show Dk g24 ((g22, .cells #[strV []] 9 (0, 0)) :: (To ++ (Ko ++ (Tt ++ Kt)))) from Fg24)
              refine lm (v := .slice (some ⟨g24, 0, none⟩) 1 1) rfl rfl ?_
              refine wpL_done (fun W22 hW22 => ?_)
              refine (show Code.wp _ _ _ _ _ from ?_)
              refine wp_region_L (W0 := (W0 : Base)) ((g24, .cells #[.slice (some ⟨g22, 0, none⟩) 1 1] 43 (0, 0)) :: (g22, .cells #[strV []] 9 (0, 0)) :: (To ++ (Ko ++ (Tt ++ Kt)))) (hW22) ?_
              refine lm (v := vo) rfl rfl ?_
              refine lm (v := .slice (some ⟨g24, 0, none⟩) 1 1) rfl rfl ?_
              refine wpL_new (fun g => .slice (some ⟨g, 0, none⟩) 1 1) (obi := .cells #[.slice (some ⟨g24, 0, none⟩) 1 1] 37 (0, 0)) rfl rfl (fun _ => by kernel_rfl) (fun _ => by simp only [List.setIfInBounds_toArray, List.set_cons_succ, List.set_cons_zero] <;> rfl) fun g26 Bg26 Fg26 => ?_
              obtain ⟨dj27_0, dj27_1, dj27_2, dj27_3, dj27_4, dj27_5⟩ : g24 ≠ g26 ∧ g22 ≠ g26 ∧ Dk g26 To ∧ Dk g26 Ko ∧ Dk g26 Tt ∧ Dk g26 Kt := by simpa only [dj_app_l, dj_app_r, dj_cons_l, dj_cons_r, dj_nil_l, dj_nil_r, dk_app, dk_cons, dk_nil, and_true, true_and, and_assoc] using (show Dk g26 ((g24, .cells #[.slice (some ⟨g22, 0, none⟩) 1 1] 43 (0, 0)) :: (g22, .cells #[strV []] 9 (0, 0)) :: (To ++ (Ko ++ (Tt ++ Kt)))) from Fg26)
              refine wpL_g (AppO (W0 : Base) 37 1 ((g24, .cells #[.slice (some ⟨g22, 0, none⟩) 1 1] 43 (0, 0)) :: (g22, .cells #[strV []] 9 (0, 0)) :: (To ++ (Tt ++ Kt))) (h + 1) (xo ++ [.slice (some ⟨g24, 0, none⟩) 1 1])) rfl rfl (app_own el_seg (m := 1) (c := 1) (news := [.slice (some ⟨g24, 0, none⟩) 1 1]) rfl (by kernel_rfl) (by kernel_rfl) (.head _) hOo (fun p hp => by simp only [List.mem_cons, List.mem_append, List.nil_append, List.not_mem_nil, or_assoc, or_false, false_or, hp, or_true, true_or]) (fun p hp => ⟨by simp only [List.mem_cons, List.mem_append, List.nil_append, List.not_mem_nil, or_assoc, or_false, false_or] at hp ⊢ <;> grind, (show Dj ((g24, .cells #[.slice (some ⟨g22, 0, none⟩) 1 1] 43 (0, 0)) :: (g22, .cells #[strV []] 9 (0, 0)) :: (To ++ (Tt ++ Kt))) Ko from (by (try simp only [dj_app_l, dj_app_r, dj_cons_l, dj_cons_r, dj_nil_l, dj_nil_r, dk_app, dk_cons, dk_nil, and_true, true_and, and_assoc]); repeat' (first | trivial | assumption | exact Dj.symm (by assumption) | exact Ne.symm (by assumption) | apply And.intro))) p hp⟩) rfl (by simp [strV, Value.oneCell']) (by omega) (by omega) (by omega)) (fun _ => by simp only [List.setIfInBounds_toArray, List.set_cons_succ, List.set_cons_zero] <;> rfl) ?_
              rintro v28 K9 ⟨Kl28, O28, N28, rfl⟩
              obtain ⟨dj29_0, dj29_1, dj29_2, dj29_3, dj29_4⟩ : Dk g24 Kl28 ∧ Dk g22 Kl28 ∧ Dj To Kl28 ∧ Dj Tt Kl28 ∧ Dj Kt Kl28 := by simpa only [dj_app_l, dj_app_r, dj_cons_l, dj_cons_r, dj_nil_l, dj_nil_r, dk_app, dk_cons, dk_nil, and_true, true_and, and_assoc] using (show Dj ((g24, .cells #[.slice (some ⟨g22, 0, none⟩) 1 1] 43 (0, 0)) :: (g22, .cells #[strV []] 9 (0, 0)) :: (To ++ (Tt ++ Kt))) Kl28 from N28)
              refine lm (v := v28) rfl rfl ?_
              refine wpL_done (fun W23 hW23 => ?_)
              refine (show Code.wp _ _ _ _ _ from ?_)
              refine wp_region_L (W0 := (W0 : Base)) ((g24, .cells #[.slice (some ⟨g22, 0, none⟩) 1 1] 43 (0, 0)) :: (g22, .cells #[strV []] 9 (0, 0)) :: ((To ++ (Tt ++ Kt)) ++ Kl28)) (hW23) ?_
              refine lp (v := .int .i64 (((h + 1) : Nat) : Int)) rfl rfl (run_bin rfl (vx := (.int .i64 ((h : Nat) : Int))) (vy := (.int .i64 ((1 : Nat) : Int))) (by kernel_rfl) (by kernel_rfl) fun w => bn_add (z := (h + 1)) rfl (wr_i64 (by omega)) w) ?_
              refine lm (v := .int .i64 (((h + 1) : Nat) : Int)) rfl rfl ?_
              refine wpL_done (fun W24 hW24 => ?_)
              go_roundw
              case rel =>
                repeat apply Exists.intro
                exact ⟨⟨h + 1, v28, (xo ++ [.slice (some ⟨g24, 0, none⟩) 1 1]), (To ++ [(g24, .cells #[.slice (some ⟨g22, 0, none⟩) 1 1] 43 (0, 0)), (g22, .cells #[strV []] 9 (0, 0))]), Kl28, (by omega), O28, (mke_map (MkE.snoc hEo ((mkS_nil (s := y2) (by omega)).symm ▸ lv_block (lv_block strv_empty))) hy2), (show Dj (To ++ [(g24, .cells #[.slice (some ⟨g22, 0, none⟩) 1 1] 43 (0, 0)), (g22, .cells #[strV []] 9 (0, 0))]) Kl28 from (by (try simp only [dj_app_l, dj_app_r, dj_cons_l, dj_cons_r, dj_nil_l, dj_nil_r, dk_app, dk_cons, dk_nil, and_true, true_and, and_assoc]); repeat' (first | trivial | assumption | exact Dj.symm (by assumption) | exact Ne.symm (by assumption) | apply And.intro))), rfl, rfl, (hW24.sub (fun p hp => by first | exact hp | (simp only [List.mem_cons, List.mem_append, List.nil_append, List.not_mem_nil, or_assoc, or_false, false_or] at hp ⊢ <;> grind)))⟩, rfl⟩
              case measure => (show A.length - (intOf (.int .i64 (((h + 1) : Nat) : Int))).toNat < A.length - (intOf (.int .i64 ((h : Nat) : Int))).toNat); simp only [intOf]; omega
          | true =>
            have h4 : i < 30 := of_decide_eq_true hd4
            clear hd4
            refine wp_cond_true rfl ?_
            refine wp_skip ?_
            refine (show Code.wp _ _ _ _ _ from ?_)
            refine wp_seq ?_
            refine wp_block ?_
            refine wp_seq ?_
            refine wp_region_L (W0 := (W0 : Base)) (To ++ (Ko ++ (Tt ++ Kt))) (hW18) ?_
            refine lm (v := .slice none 0 0) rfl rfl ?_
            refine wpL_done (fun W25 hW25 => ?_)
            refine (show Code.wp _ _ _ _ _ from ?_)
            refine wp_seq ?_
            refine wp_seq ?_
            refine wp_region_L (W0 := (W0 : Base)) (To ++ (Ko ++ (Tt ++ Kt))) (hW25) ?_
            refine lm (v := .int .i64 0) rfl rfl ?_
            refine wpL_done (fun W26 hW26 => ?_)
            refine (show Code.wp _ _ _ _ _ from ?_)
            refine wp_block ?_
            obtain ⟨y30, p30, c30, b30, f30, hy30, HY30, hp30, lt30, hc30⟩ := lvp_lst (k := i) HY2.out (by omega)
            have HY30 := Lib.hid HY30
            go_loopw [9, 8] (fun u9 u8 wr => ∃ (k : Nat) (ve : Value) (Ke : List (Nat × Obj)), (k ≤ y30.length) ∧ (k ≤ 10) ∧ (OwnL (W0 : Base) 9 1 ve k (((y30.take k).map mkC).map strV) Ke) ∧ (Dj To Ke) ∧ (Dj Ko Ke) ∧ (Dj Tt Ke) ∧ (Dj Kt Ke) ∧ u9 = .int .i64 ((k : Nat) : Int) ∧ ve = u8 ∧ KS (W0 : Base) (To ++ (Ko ++ (Tt ++ (Kt ++ Ke)))) wr) (fun u9 _ _ => 10 - (intOf u9).toNat)
            case atStart => exact ⟨0, (.slice none 0 0), [], (Nat.zero_le _), (Nat.zero_le _), (OwnL.nil _ _ _), (show Dj To [] from (by (try simp only [dj_app_l, dj_app_r, dj_cons_l, dj_cons_r, dj_nil_l, dj_nil_r, dk_app, dk_cons, dk_nil, and_true, true_and, and_assoc]); repeat' (first | trivial | assumption | exact Dj.symm (by assumption) | exact Ne.symm (by assumption) | apply And.intro))), (show Dj Ko [] from (by (try simp only [dj_app_l, dj_app_r, dj_cons_l, dj_cons_r, dj_nil_l, dj_nil_r, dk_app, dk_cons, dk_nil, and_true, true_and, and_assoc]); repeat' (first | trivial | assumption | exact Dj.symm (by assumption) | exact Ne.symm (by assumption) | apply And.intro))), (show Dj Tt [] from (by (try simp only [dj_app_l, dj_app_r, dj_cons_l, dj_cons_r, dj_nil_l, dj_nil_r, dk_app, dk_cons, dk_nil, and_true, true_and, and_assoc]); repeat' (first | trivial | assumption | exact Dj.symm (by assumption) | exact Ne.symm (by assumption) | apply And.intro))), (show Dj Kt [] from (by (try simp only [dj_app_l, dj_app_r, dj_cons_l, dj_cons_r, dj_nil_l, dj_nil_r, dk_app, dk_cons, dk_nil, and_true, true_and, and_assoc]); repeat' (first | trivial | assumption | exact Dj.symm (by assumption) | exact Ne.symm (by assumption) | apply And.intro))), rfl, rfl, (hW26.sub (fun p hp => by first | exact hp | (simp only [List.mem_cons, List.mem_append, List.nil_append, List.not_mem_nil, or_assoc, or_false, false_or] at hp ⊢ <;> grind)))⟩
            case round =>
              obtain ⟨k, ve, Ke, hk, hk2, hOe, dh31_0, dh31_1, dh31_2, dh31_3, rfl, rfl, hL27⟩ := hrel
              refine wp_seq ?_
              refine wp_seq ?_
              refine wp_region_L (W0 := (W0 : Base)) (To ++ (Ko ++ (Tt ++ (Kt ++ Ke)))) (hL27) ?_
              refine lm (v := .int .i64 ((k : Nat) : Int)) rfl rfl ?_
              refine lm (v := .slice p2 y2.length c2) rfl rfl ?_
              refine lm (v := .int .i64 ((i : Nat) : Int)) rfl rfl ?_
              refine lp (v := .pointer (some ⟨b30, f30 + i * 1, none⟩)) rfl rfl (run_idxQ (p := p2) (cap := c2) (n := y2.length) (j := .i64) (k := i) (sz := 1) rfl Try.underlying37 (by kernel_rfl) (by kernel_rfl) hp30 (by kernel_rfl) (by omega)) ?_
              refine lv (v := .slice p30 y30.length c30) rfl rfl (yb_old (off := f30 + i * 1) rfl (by kernel_rfl) hc30 lt30 Try.underlying43 rfl) ?_
              refine lp (v := .int .i64 ((y30.length : Nat) : Int)) rfl rfl (run_lenL (p := p30) (cap := c30) (n := y30.length) rfl Try.underlying43 (by kernel_rfl)) ?_
              refine lp (v := .bool (decide (k < y30.length))) rfl rfl (run_bin rfl (vx := (.int .i64 ((k : Nat) : Int))) (vy := (.int .i64 ((y30.length : Nat) : Int))) (by kernel_rfl) (by kernel_rfl) fun w => bn_lss rfl w) ?_
              refine lm (v := .bool (decide (k < y30.length))) rfl rfl ?_
              cases hd6 : (decide (k < y30.length)) with
              | false =>
                have h6 : ¬ (k < y30.length) := of_decide_eq_false hd6
                clear hd6
                refine ln rfl ?_
                refine ln rfl ?_
                refine lm (v := .bool false) rfl rfl ?_
                refine wpL_done (fun W28 hW28 => ?_)
                refine (show Code.wp _ _ _ _ _ from ?_)
                refine wp_cond_false rfl ?_
                refine wp_exit ?_
                refine (show Code.wp _ _ _ _ _ from ?_)
                refine wp_seq ?_
                refine wp_seq ?_
                refine wp_region_L (W0 := (W0 : Base)) (To ++ (Ko ++ (Tt ++ (Kt ++ Ke)))) (hW28) ?_
                refine lm (v := ve) rfl rfl ?_
                refine lp (v := .int .i64 ((k : Nat) : Int)) rfl rfl (run_lenO (W0 := (W0 : Base)) rfl Try.underlying43 (by kernel_rfl) hOe) ?_
                refine lp (v := .bool (decide (k = 0))) rfl rfl (run_bin rfl (vx := (.int .i64 ((k : Nat) : Int))) (vy := (.int .i64 ((0 : Nat) : Int))) (by kernel_rfl) (by kernel_rfl) fun w => bn_eql rfl w) ?_
                refine wpL_done (fun W29 hW29 => ?_)
                refine (show Code.wp _ _ _ _ _ from ?_)
                cases hd7 : (decide (k = 0)) with
                | false =>
                  have h7 : ¬ (k = 0) := of_decide_eq_false hd7
                  clear hd7
                  refine wp_cond_false rfl ?_
                  refine wp_skip ?_
                  refine (show Code.wp _ _ _ _ _ from ?_)
                  refine wp_region_L (W0 := (W0 : Base)) (To ++ (Ko ++ (Tt ++ (Kt ++ Ke)))) (hW29) ?_
                  refine lm (v := vt) rfl rfl ?_
                  refine lm (v := ve) rfl rfl ?_
                  obtain ⟨p32, c32, rfl⟩ := own_shape hOe
                  refine wpL_new (fun g => .slice (some ⟨g, 0, none⟩) 1 1) (obi := .cells #[.slice p32 k c32] 43 (0, 0)) rfl rfl (fun _ => by kernel_rfl) (fun _ => by simp only [List.setIfInBounds_toArray, List.set_cons_succ, List.set_cons_zero] <;> rfl) fun g33 Bg33 Fg33 => ?_
                  obtain ⟨dj34_0, dj34_1, dj34_2, dj34_3, dj34_4⟩ : Dk g33 To ∧ Dk g33 Ko ∧ Dk g33 Tt ∧ Dk g33 Kt ∧ Dk g33 Ke := by simpa only [dj_app_l, dj_app_r, dj_cons_l, dj_cons_r, dj_nil_l, dj_nil_r, dk_app, dk_cons, dk_nil, and_true, true_and, and_assoc] using (show Dk g33 (To ++ (Ko ++ (Tt ++ (Kt ++ Ke)))) from Fg33)
                  refine wpL_g (AppO (W0 : Base) 43 1 (To ++ (Ko ++ (Tt ++ Ke))) (i + 1) (xt ++ [.slice p32 k c32])) rfl rfl (app_own el_txt (m := 1) (c := 1) (news := [.slice p32 k c32]) rfl (by kernel_rfl) (by kernel_rfl) (.head _) hOt (fun p hp => by simp only [List.mem_cons, List.mem_append, List.nil_append, List.not_mem_nil, or_assoc, or_false, false_or, hp, or_true, true_or]) (fun p hp => ⟨by simp only [List.mem_cons, List.mem_append, List.nil_append, List.not_mem_nil, or_assoc, or_false, false_or] at hp ⊢ <;> grind, (show Dj (To ++ (Ko ++ (Tt ++ Ke))) Kt from (by (try simp only [dj_app_l, dj_app_r, dj_cons_l, dj_cons_r, dj_nil_l, dj_nil_r, dk_app, dk_cons, dk_nil, and_true, true_and, and_assoc]); repeat' (first | trivial | assumption | exact Dj.symm (by assumption) | exact Ne.symm (by assumption) | apply And.intro))) p hp⟩) rfl (by simp [strV, Value.oneCell']) (by omega) (by omega) (by omega)) (fun _ => by simp only [List.setIfInBounds_toArray, List.set_cons_succ, List.set_cons_zero] <;> rfl) ?_
                  rintro v35 K9 ⟨Kl35, O35, N35, rfl⟩
                  obtain ⟨dj36_0, dj36_1, dj36_2, dj36_3⟩ : Dj To Kl35 ∧ Dj Ko Kl35 ∧ Dj Tt Kl35 ∧ Dj Ke Kl35 := by simpa only [dj_app_l, dj_app_r, dj_cons_l, dj_cons_r, dj_nil_l, dj_nil_r, dk_app, dk_cons, dk_nil, and_true, true_and, and_assoc] using (show Dj (To ++ (Ko ++ (Tt ++ Ke))) Kl35 from N35)
                  refine lm (v := v35) rfl rfl ?_
                  refine wpL_done (fun W30 hW30 => ?_)
                  refine (show Code.wp _ _ _ _ _ from ?_)
                  refine wp_region_L (W0 := (W0 : Base)) ((To ++ (Ko ++ (Tt ++ Ke))) ++ Kl35) (hW30) ?_
                  refine lm (v := .int .i64 ((i : Nat) : Int)) rfl rfl ?_
                  refine lp (v := .int .i64 (((i + 1) : Nat) : Int)) rfl rfl (run_bin rfl (vx := (.int .i64 ((i : Nat) : Int))) (vy := (.int .i64 ((1 : Nat) : Int))) (by kernel_rfl) (by kernel_rfl) fun w => bn_add (z := (i + 1)) rfl (wr_i64 (by omega)) w) ?_
                  refine lm (v := .int .i64 (((i + 1) : Nat) : Int)) rfl rfl ?_
                  refine wpL_done (fun W31 hW31 => ?_)
                  go_roundw
                  case rel =>
                    repeat apply Exists.intro
                    exact ⟨⟨i + 1, v35, (xt ++ [.slice p32 k c32]), (Tt ++ ([] ++ Ke)), Kl35, (by omega), (by omega), O35, (mke_map (MkE.snoc hEt ((mkT_some (e := y30) h7 (by omega) (by omega) (by omega)).symm ▸ MkE.mk hOe (MkE.strs _) (by simp; omega))) hy30), (show Dj To (Tt ++ ([] ++ Ke)) from (by (try simp only [dj_app_l, dj_app_r, dj_cons_l, dj_cons_r, dj_nil_l, dj_nil_r, dk_app, dk_cons, dk_nil, and_true, true_and, and_assoc]); repeat' (first | trivial | assumption | exact Dj.symm (by assumption) | exact Ne.symm (by assumption) | apply And.intro))), (show Dj Ko (Tt ++ ([] ++ Ke)) from (by (try simp only [dj_app_l, dj_app_r, dj_cons_l, dj_cons_r, dj_nil_l, dj_nil_r, dk_app, dk_cons, dk_nil, and_true, true_and, and_assoc]); repeat' (first | trivial | assumption | exact Dj.symm (by assumption) | exact Ne.symm (by assumption) | apply And.intro))), (show Dj To Kl35 from (by (try simp only [dj_app_l, dj_app_r, dj_cons_l, dj_cons_r, dj_nil_l, dj_nil_r, dk_app, dk_cons, dk_nil, and_true, true_and, and_assoc]); repeat' (first | trivial | assumption | exact Dj.symm (by assumption) | exact Ne.symm (by assumption) | apply And.intro))), (show Dj Ko Kl35 from (by (try simp only [dj_app_l, dj_app_r, dj_cons_l, dj_cons_r, dj_nil_l, dj_nil_r, dk_app, dk_cons, dk_nil, and_true, true_and, and_assoc]); repeat' (first | trivial | assumption | exact Dj.symm (by assumption) | exact Ne.symm (by assumption) | apply And.intro))), (show Dj (Tt ++ ([] ++ Ke)) Kl35 from (by (try simp only [dj_app_l, dj_app_r, dj_cons_l, dj_cons_r, dj_nil_l, dj_nil_r, dk_app, dk_cons, dk_nil, and_true, true_and, and_assoc]); repeat' (first | trivial | assumption | exact Dj.symm (by assumption) | exact Ne.symm (by assumption) | apply And.intro))), rfl, rfl, (hW31.sub (fun p hp => by first | exact hp | (simp only [List.mem_cons, List.mem_append, List.nil_append, List.not_mem_nil, or_assoc, or_false, false_or] at hp ⊢ <;> grind)))⟩, rfl⟩
                  case measure => (show 30 - (intOf (.int .i64 (((i + 1) : Nat) : Int))).toNat < 30 - (intOf (.int .i64 ((i : Nat) : Int))).toNat); simp only [intOf]; omega
                | true =>
                  have h7 : k = 0 := of_decide_eq_true hd7
                  clear hd7
                  refine wp_cond_true rfl ?_
                  refine wp_region_L (W0 := (W0 : Base)) (To ++ (Ko ++ (Tt ++ (Kt ++ Ke)))) (hW29) ?_
                  refine wpL_new (fun g => .slice (some ⟨g, 0, none⟩) 1 1) (obi := .cells #[strV []] 9 (0, 0)) rfl rfl (fun _ => by kernel_rfl) (fun _ => by simp only [List.setIfInBounds_toArray, List.set_cons_succ, List.set_cons_zero] <;> rfl) fun g37 Bg37 Fg37 => ?_
                  obtain ⟨dj38_0, dj38_1, dj38_2, dj38_3, dj38_4⟩ : Dk g37 To ∧ Dk g37 Ko ∧ Dk g37 Tt ∧ Dk g37 Kt ∧ Dk g37 Ke := by simpa only [dj_app_l, dj_app_r, dj_cons_l, dj_cons_r, dj_nil_l, dj_nil_r, dk_app, dk_cons, dk_nil, and_true, true_and, and_assoc] using (show Dk g37 (To ++ (Ko ++ (Tt ++ (Kt ++ Ke)))) from Fg37)
                  refine lm (v := .slice (some ⟨g37, 0, none⟩) 1 1) rfl rfl ?_
                  refine wpL_done (fun W32 hW32 => ?_)
                  refine (show Code.wp _ _ _ _ _ from ?_)
                  refine wp_region_L (W0 := (W0 : Base)) ((g37, .cells #[strV []] 9 (0, 0)) :: (To ++ (Ko ++ (Tt ++ (Kt ++ Ke))))) (hW32) ?_
                  refine lm (v := vt) rfl rfl ?_
                  refine lm (v := .slice (some ⟨g37, 0, none⟩) 1 1) rfl rfl ?_
                  refine wpL_new (fun g => .slice (some ⟨g, 0, none⟩) 1 1) (obi := .cells #[.slice (some ⟨g37, 0, none⟩) 1 1] 43 (0, 0)) rfl rfl (fun _ => by kernel_rfl) (fun _ => by simp only [List.setIfInBounds_toArray, List.set_cons_succ, List.set_cons_zero] <;> rfl) fun g39 Bg39 Fg39 => ?_
                  obtain ⟨dj40_0, dj40_1, dj40_2, dj40_3, dj40_4, dj40_5⟩ : g37 ≠ g39 ∧ Dk g39 To ∧ Dk g39 Ko ∧ Dk g39 Tt ∧ Dk g39 Kt ∧ Dk g39 Ke := by simpa only [dj_app_l, dj_app_r, dj_cons_l, dj_cons_r, dj_nil_l, dj_nil_r, dk_app, dk_cons, dk_nil, and_true, true_and, and_assoc] using (show Dk g39 ((g37, .cells #[strV []] 9 (0, 0)) :: (To ++ (Ko ++ (Tt ++ (Kt ++ Ke))))) from Fg39)
                  refine wpL_g (AppO (W0 : Base) 43 1 ((g37, .cells #[strV []] 9 (0, 0)) :: (To ++ (Ko ++ (Tt ++ Ke)))) (i + 1) (xt ++ [.slice (some ⟨g37, 0, none⟩) 1 1])) rfl rfl (app_own el_txt (m := 1) (c := 1) (news := [.slice (some ⟨g37, 0, none⟩) 1 1]) rfl (by kernel_rfl) (by kernel_rfl) (.head _) hOt (fun p hp => by simp only [List.mem_cons, List.mem_append, List.nil_append, List.not_mem_nil, or_assoc, or_false, false_or, hp, or_true, true_or]) (fun p hp => ⟨by simp only [List.mem_cons, List.mem_append, List.nil_append, List.not_mem_nil, or_assoc, or_false, false_or] at hp ⊢ <;> grind, (show Dj ((g37, .cells #[strV []] 9 (0, 0)) :: (To ++ (Ko ++ (Tt ++ Ke)))) Kt from (by (try simp only [dj_app_l, dj_app_r, dj_cons_l, dj_cons_r, dj_nil_l, dj_nil_r, dk_app, dk_cons, dk_nil, and_true, true_and, and_assoc]); repeat' (first | trivial | assumption | exact Dj.symm (by assumption) | exact Ne.symm (by assumption) | apply And.intro))) p hp⟩) rfl (by simp [strV, Value.oneCell']) (by omega) (by omega) (by omega)) (fun _ => by simp only [List.setIfInBounds_toArray, List.set_cons_succ, List.set_cons_zero] <;> rfl) ?_
                  rintro v41 K9 ⟨Kl41, O41, N41, rfl⟩
                  obtain ⟨dj42_0, dj42_1, dj42_2, dj42_3, dj42_4⟩ : Dk g37 Kl41 ∧ Dj To Kl41 ∧ Dj Ko Kl41 ∧ Dj Tt Kl41 ∧ Dj Ke Kl41 := by simpa only [dj_app_l, dj_app_r, dj_cons_l, dj_cons_r, dj_nil_l, dj_nil_r, dk_app, dk_cons, dk_nil, and_true, true_and, and_assoc] using (show Dj ((g37, .cells #[strV []] 9 (0, 0)) :: (To ++ (Ko ++ (Tt ++ Ke)))) Kl41 from N41)
                  refine lm (v := v41) rfl rfl ?_
                  refine wpL_done (fun W33 hW33 => ?_)
                  refine (show Code.wp _ _ _ _ _ from ?_)
                  refine wp_region_L (W0 := (W0 : Base)) ((g37, .cells #[strV []] 9 (0, 0)) :: ((To ++ (Ko ++ (Tt ++ Ke))) ++ Kl41)) (hW33) ?_
                  refine lm (v := .int .i64 ((i : Nat) : Int)) rfl rfl ?_
                  refine lp (v := .int .i64 (((i + 1) : Nat) : Int)) rfl rfl (run_bin rfl (vx := (.int .i64 ((i : Nat) : Int))) (vy := (.int .i64 ((1 : Nat) : Int))) (by kernel_rfl) (by kernel_rfl) fun w => bn_add (z := (i + 1)) rfl (wr_i64 (by omega)) w) ?_
                  refine lm (v := .int .i64 (((i + 1) : Nat) : Int)) rfl rfl ?_
                  refine wpL_done (fun W34 hW34 => ?_)
                  go_roundw
                  case rel =>
                    repeat apply Exists.intro
                    exact ⟨⟨i + 1, v41, (xt ++ [.slice (some ⟨g37, 0, none⟩) 1 1]), (Tt ++ [(g37, .cells #[strV []] 9 (0, 0))]), Kl41, (by omega), (by omega), O41, (mke_map (MkE.snoc hEt ((mkT_nil (e := y30) (by omega)).symm ▸ lv_block strv_empty)) hy30), (show Dj To (Tt ++ [(g37, .cells #[strV []] 9 (0, 0))]) from (by (try simp only [dj_app_l, dj_app_r, dj_cons_l, dj_cons_r, dj_nil_l, dj_nil_r, dk_app, dk_cons, dk_nil, and_true, true_and, and_assoc]); repeat' (first | trivial | assumption | exact Dj.symm (by assumption) | exact Ne.symm (by assumption) | apply And.intro))), (show Dj Ko (Tt ++ [(g37, .cells #[strV []] 9 (0, 0))]) from (by (try simp only [dj_app_l, dj_app_r, dj_cons_l, dj_cons_r, dj_nil_l, dj_nil_r, dk_app, dk_cons, dk_nil, and_true, true_and, and_assoc]); repeat' (first | trivial | assumption | exact Dj.symm (by assumption) | exact Ne.symm (by assumption) | apply And.intro))), (show Dj To Kl41 from (by (try simp only [dj_app_l, dj_app_r, dj_cons_l, dj_cons_r, dj_nil_l, dj_nil_r, dk_app, dk_cons, dk_nil, and_true, true_and, and_assoc]); repeat' (first | trivial | assumption | exact Dj.symm (by assumption) | exact Ne.symm (by assumption) | apply And.intro))), (show Dj Ko Kl41 from (by (try simp only [dj_app_l, dj_app_r, dj_cons_l, dj_cons_r, dj_nil_l, dj_nil_r, dk_app, dk_cons, dk_nil, and_true, true_and, and_assoc]); repeat' (first | trivial | assumption | exact Dj.symm (by assumption) | exact Ne.symm (by assumption) | apply And.intro))), (show Dj (Tt ++ [(g37, .cells #[strV []] 9 (0, 0))]) Kl41 from (by (try simp only [dj_app_l, dj_app_r, dj_cons_l, dj_cons_r, dj_nil_l, dj_nil_r, dk_app, dk_cons, dk_nil, and_true, true_and, and_assoc]); repeat' (first | trivial | assumption | exact Dj.symm (by assumption) | exact Ne.symm (by assumption) | apply And.intro))), rfl, rfl, (hW34.sub (fun p hp => by first | exact hp | (simp only [List.mem_cons, List.mem_append, List.nil_append, List.not_mem_nil, or_assoc, or_false, false_or] at hp ⊢ <;> grind)))⟩, rfl⟩
                  case measure => (show 30 - (intOf (.int .i64 (((i + 1) : Nat) : Int))).toNat < 30 - (intOf (.int .i64 ((i : Nat) : Int))).toNat); simp only [intOf]; omega
              | true =>
                have h6 : k < y30.length := of_decide_eq_true hd6
                clear hd6
                refine lm (v := .int .i64 ((k : Nat) : Int)) rfl rfl ?_
                refine lp (v := .bool (decide (k < 10))) rfl rfl (run_bin rfl (vx := (.int .i64 ((k : Nat) : Int))) (vy := (.int .i64 ((10 : Nat) : Int))) (by kernel_rfl) (by kernel_rfl) fun w => bn_lss rfl w) ?_
                refine lm (v := .bool (decide (k < 10))) rfl rfl ?_
                refine wpL_done (fun W35 hW35 => ?_)
                refine (show Code.wp _ _ _ _ _ from ?_)
                cases hd8 : (decide (k < 10)) with
                | false =>
                  have h8 : ¬ (k < 10) := of_decide_eq_false hd8
                  clear hd8
                  refine wp_cond_false rfl ?_
                  refine wp_exit ?_
                  refine (show Code.wp _ _ _ _ _ from ?_)
                  refine wp_seq ?_
                  refine wp_seq ?_
                  refine wp_region_L (W0 := (W0 : Base)) (To ++ (Ko ++ (Tt ++ (Kt ++ Ke)))) (hW35) ?_
                  refine lm (v := ve) rfl rfl ?_
                  refine lp (v := .int .i64 ((k : Nat) : Int)) rfl rfl (run_lenO (W0 := (W0 : Base)) rfl Try.underlying43 (by kernel_rfl) hOe) ?_
                  refine lp (v := .bool (decide (k = 0))) rfl rfl (run_bin rfl (vx := (.int .i64 ((k : Nat) : Int))) (vy := (.int .i64 ((0 : Nat) : Int))) (by kernel_rfl) (by kernel_rfl) fun w => bn_eql rfl w) ?_
                  refine wpL_done (fun W36 hW36 => ?_)
                  refine (show Code.wp _ _ _ _ _ from ?_)
                  cases hd9 : (decide (k = 0)) with
                  | false =>
                    have h9 : ¬ (k = 0) := of_decide_eq_false hd9
                    clear hd9
                    refine wp_cond_false rfl ?_
                    refine wp_skip ?_
                    refine (show Code.wp _ _ _ _ _ from ?_)
                    refine wp_region_L (W0 := (W0 : Base)) (To ++ (Ko ++ (Tt ++ (Kt ++ Ke)))) (hW36) ?_
                    refine lm (v := vt) rfl rfl ?_
                    refine lm (v := ve) rfl rfl ?_
                    obtain ⟨p43, c43, rfl⟩ := own_shape hOe
                    refine wpL_new (fun g => .slice (some ⟨g, 0, none⟩) 1 1) (obi := .cells #[.slice p43 k c43] 43 (0, 0)) rfl rfl (fun _ => by kernel_rfl) (fun _ => by simp only [List.setIfInBounds_toArray, List.set_cons_succ, List.set_cons_zero] <;> rfl) fun g44 Bg44 Fg44 => ?_
                    obtain ⟨dj45_0, dj45_1, dj45_2, dj45_3, dj45_4⟩ : Dk g44 To ∧ Dk g44 Ko ∧ Dk g44 Tt ∧ Dk g44 Kt ∧ Dk g44 Ke := by simpa only [dj_app_l, dj_app_r, dj_cons_l, dj_cons_r, dj_nil_l, dj_nil_r, dk_app, dk_cons, dk_nil, and_true, true_and, and_assoc] using (show Dk g44 (To ++ (Ko ++ (Tt ++ (Kt ++ Ke)))) from Fg44)
                    refine wpL_g (AppO (W0 : Base) 43 1 (To ++ (Ko ++ (Tt ++ Ke))) (i + 1) (xt ++ [.slice p43 k c43])) rfl rfl (app_own el_txt (m := 1) (c := 1) (news := [.slice p43 k c43]) rfl (by kernel_rfl) (by kernel_rfl) (.head _) hOt (fun p hp => by simp only [List.mem_cons, List.mem_append, List.nil_append, List.not_mem_nil, or_assoc, or_false, false_or, hp, or_true, true_or]) (fun p hp => ⟨by simp only [List.mem_cons, List.mem_append, List.nil_append, List.not_mem_nil, or_assoc, or_false, false_or] at hp ⊢ <;> grind, (show Dj (To ++ (Ko ++ (Tt ++ Ke))) Kt from (by (try simp only [dj_app_l, dj_app_r, dj_cons_l, dj_cons_r, dj_nil_l, dj_nil_r, dk_app, dk_cons, dk_nil, and_true, true_and, and_assoc]); repeat' (first | trivial | assumption | exact Dj.symm (by assumption) | exact Ne.symm (by assumption) | apply And.intro))) p hp⟩) rfl (by simp [strV, Value.oneCell']) (by omega) (by omega) (by omega)) (fun _ => by simp only [List.setIfInBounds_toArray, List.set_cons_succ, List.set_cons_zero] <;> rfl) ?_
                    rintro v46 K9 ⟨Kl46, O46, N46, rfl⟩
                    obtain ⟨dj47_0, dj47_1, dj47_2, dj47_3⟩ : Dj To Kl46 ∧ Dj Ko Kl46 ∧ Dj Tt Kl46 ∧ Dj Ke Kl46 := by simpa only [dj_app_l, dj_app_r, dj_cons_l, dj_cons_r, dj_nil_l, dj_nil_r, dk_app, dk_cons, dk_nil, and_true, true_and, and_assoc] using (show Dj (To ++ (Ko ++ (Tt ++ Ke))) Kl46 from N46)
                    refine lm (v := v46) rfl rfl ?_
                    refine wpL_done (fun W37 hW37 => ?_)
                    refine (show Code.wp _ _ _ _ _ from ?_)
                    refine wp_region_L (W0 := (W0 : Base)) ((To ++ (Ko ++ (Tt ++ Ke))) ++ Kl46) (hW37) ?_
                    refine lm (v := .int .i64 ((i : Nat) : Int)) rfl rfl ?_
                    refine lp (v := .int .i64 (((i + 1) : Nat) : Int)) rfl rfl (run_bin rfl (vx := (.int .i64 ((i : Nat) : Int))) (vy := (.int .i64 ((1 : Nat) : Int))) (by kernel_rfl) (by kernel_rfl) fun w => bn_add (z := (i + 1)) rfl (wr_i64 (by omega)) w) ?_
                    refine lm (v := .int .i64 (((i + 1) : Nat) : Int)) rfl rfl ?_
                    refine wpL_done (fun W38 hW38 => ?_)
                    go_roundw
                    case rel =>
                      repeat apply Exists.intro
                      exact ⟨⟨i + 1, v46, (xt ++ [.slice p43 k c43]), (Tt ++ ([] ++ Ke)), Kl46, (by omega), (by omega), O46, (mke_map (MkE.snoc hEt ((mkT_some (e := y30) h9 (by omega) (by omega) (by omega)).symm ▸ MkE.mk hOe (MkE.strs _) (by simp; omega))) hy30), (show Dj To (Tt ++ ([] ++ Ke)) from (by (try simp only [dj_app_l, dj_app_r, dj_cons_l, dj_cons_r, dj_nil_l, dj_nil_r, dk_app, dk_cons, dk_nil, and_true, true_and, and_assoc]); repeat' (first | trivial | assumption | exact Dj.symm (by assumption) | exact Ne.symm (by assumption) | apply And.intro))), (show Dj Ko (Tt ++ ([] ++ Ke)) from (by (try simp only [dj_app_l, dj_app_r, dj_cons_l, dj_cons_r, dj_nil_l, dj_nil_r, dk_app, dk_cons, dk_nil, and_true, true_and, and_assoc]); repeat' (first | trivial | assumption | exact Dj.symm (by assumption) | exact Ne.symm (by assumption) | apply And.intro))), (show Dj To Kl46 from (by (try simp only [dj_app_l, dj_app_r, dj_cons_l, dj_cons_r, dj_nil_l, dj_nil_r, dk_app, dk_cons, dk_nil, and_true, true_and, and_assoc]); repeat' (first | trivial | assumption | exact Dj.symm (by assumption) | exact Ne.symm (by assumption) | apply And.intro))), (show Dj Ko Kl46 from (by (try simp only [dj_app_l, dj_app_r, dj_cons_l, dj_cons_r, dj_nil_l, dj_nil_r, dk_app, dk_cons, dk_nil, and_true, true_and, and_assoc]); repeat' (first | trivial | assumption | exact Dj.symm (by assumption) | exact Ne.symm (by assumption) | apply And.intro))), (show Dj (Tt ++ ([] ++ Ke)) Kl46 from (by (try simp only [dj_app_l, dj_app_r, dj_cons_l, dj_cons_r, dj_nil_l, dj_nil_r, dk_app, dk_cons, dk_nil, and_true, true_and, and_assoc]); repeat' (first | trivial | assumption | exact Dj.symm (by assumption) | exact Ne.symm (by assumption) | apply And.intro))), rfl, rfl, (hW38.sub (fun p hp => by first | exact hp | (simp only [List.mem_cons, List.mem_append, List.nil_append, List.not_mem_nil, or_assoc, or_false, false_or] at hp ⊢ <;> grind)))⟩, rfl⟩
                    case measure => (show 30 - (intOf (.int .i64 (((i + 1) : Nat) : Int))).toNat < 30 - (intOf (.int .i64 ((i : Nat) : Int))).toNat); simp only [intOf]; omega
                  | true =>
                    have h9 : k = 0 := of_decide_eq_true hd9
                    clear hd9
                    refine wp_cond_true rfl ?_
                    refine wp_region_L (W0 := (W0 : Base)) (To ++ (Ko ++ (Tt ++ (Kt ++ Ke)))) (hW36) ?_
                    refine wpL_new (fun g => .slice (some ⟨g, 0, none⟩) 1 1) (obi := .cells #[strV []] 9 (0, 0)) rfl rfl (fun _ => by kernel_rfl) (fun _ => by simp only [List.setIfInBounds_toArray, List.set_cons_succ, List.set_cons_zero] <;> rfl) fun g48 Bg48 Fg48 => ?_
                    obtain ⟨dj49_0, dj49_1, dj49_2, dj49_3, dj49_4⟩ : Dk g48 To ∧ Dk g48 Ko ∧ Dk g48 Tt ∧ Dk g48 Kt ∧ Dk g48 Ke := by simpa only [dj_app_l, dj_app_r, dj_cons_l, dj_cons_r, dj_nil_l, dj_nil_r, dk_app, dk_cons, dk_nil, and_true, true_and, and_assoc] using (show Dk g48 (To ++ (Ko ++ (Tt ++ (Kt ++ Ke)))) from Fg48)
                    refine lm (v := .slice (some ⟨g48, 0, none⟩) 1 1) rfl rfl ?_
                    refine wpL_done (fun W39 hW39 => ?_)
                    refine (show Code.wp _ _ _ _ _ from ?_)
                    refine wp_region_L (W0 := (W0 : Base)) ((g48, .cells #[strV []] 9 (0, 0)) :: (To ++ (Ko ++ (Tt ++ (Kt ++ Ke))))) (hW39) ?_
                    refine lm (v := vt) rfl rfl ?_
                    refine lm (v := .slice (some ⟨g48, 0, none⟩) 1 1) rfl rfl ?_
                    refine wpL_new (fun g => .slice (some ⟨g, 0, none⟩) 1 1) (obi := .cells #[.slice (some ⟨g48, 0, none⟩) 1 1] 43 (0, 0)) rfl rfl (fun _ => by kernel_rfl) (fun _ => by simp only [List.setIfInBounds_toArray, List.set_cons_succ, List.set_cons_zero] <;> rfl) fun g50 Bg50 Fg50 => ?_
                    obtain ⟨dj51_0, dj51_1, dj51_2, dj51_3, dj51_4, dj51_5⟩ : g48 ≠ g50 ∧ Dk g50 To ∧ Dk g50 Ko ∧ Dk g50 Tt ∧ Dk g50 Kt ∧ Dk g50 Ke := by simpa only [dj_app_l, dj_app_r, dj_cons_l, dj_cons_r, dj_nil_l, dj_nil_r, dk_app, dk_cons, dk_nil, and_true, true_and, and_assoc] using (show Dk g50 ((g48, .cells #[strV []] 9 (0, 0)) :: (To ++ (Ko ++ (Tt ++ (Kt ++ Ke))))) from Fg50)
                    refine wpL_g (AppO (W0 : Base) 43 1 ((g48, .cells #[strV []] 9 (0, 0)) :: (To ++ (Ko ++ (Tt ++ Ke)))) (i + 1) (xt ++ [.slice (some ⟨g48, 0, none⟩) 1 1])) rfl rfl (app_own el_txt (m := 1) (c := 1) (news := [.slice (some ⟨g48, 0, none⟩) 1 1]) rfl (by kernel_rfl) (by kernel_rfl) (.head _) hOt (fun p hp => by simp only [List.mem_cons, List.mem_append, List.nil_append, List.not_mem_nil, or_assoc, or_false, false_or, hp, or_true, true_or]) (fun p hp => ⟨by simp only [List.mem_cons, List.mem_append, List.nil_append, List.not_mem_nil, or_assoc, or_false, false_or] at hp ⊢ <;> grind, (show Dj ((g48, .cells #[strV []] 9 (0, 0)) :: (To ++ (Ko ++ (Tt ++ Ke)))) Kt from (by (try simp only [dj_app_l, dj_app_r, dj_cons_l, dj_cons_r, dj_nil_l, dj_nil_r, dk_app, dk_cons, dk_nil, and_true, true_and, and_assoc]); repeat' (first | trivial | assumption | exact Dj.symm (by assumption) | exact Ne.symm (by assumption) | apply And.intro))) p hp⟩) rfl (by simp [strV, Value.oneCell']) (by omega) (by omega) (by omega)) (fun _ => by simp only [List.setIfInBounds_toArray, List.set_cons_succ, List.set_cons_zero] <;> rfl) ?_
                    rintro v52 K9 ⟨Kl52, O52, N52, rfl⟩
                    obtain ⟨dj53_0, dj53_1, dj53_2, dj53_3, dj53_4⟩ : Dk g48 Kl52 ∧ Dj To Kl52 ∧ Dj Ko Kl52 ∧ Dj Tt Kl52 ∧ Dj Ke Kl52 := by simpa only [dj_app_l, dj_app_r, dj_cons_l, dj_cons_r, dj_nil_l, dj_nil_r, dk_app, dk_cons, dk_nil, and_true, true_and, and_assoc] using (show Dj ((g48, .cells #[strV []] 9 (0, 0)) :: (To ++ (Ko ++ (Tt ++ Ke)))) Kl52 from N52)
                    refine lm (v := v52) rfl rfl ?_
                    refine wpL_done (fun W40 hW40 => ?_)
                    refine (show Code.wp _ _ _ _ _ from ?_)
                    refine wp_region_L (W0 := (W0 : Base)) ((g48, .cells #[strV []] 9 (0, 0)) :: ((To ++ (Ko ++ (Tt ++ Ke))) ++ Kl52)) (hW40) ?_
                    refine lm (v := .int .i64 ((i : Nat) : Int)) rfl rfl ?_
                    refine lp (v := .int .i64 (((i + 1) : Nat) : Int)) rfl rfl (run_bin rfl (vx := (.int .i64 ((i : Nat) : Int))) (vy := (.int .i64 ((1 : Nat) : Int))) (by kernel_rfl) (by kernel_rfl) fun w => bn_add (z := (i + 1)) rfl (wr_i64 (by omega)) w) ?_
                    refine lm (v := .int .i64 (((i + 1) : Nat) : Int)) rfl rfl ?_
                    refine wpL_done (fun W41 hW41 => ?_)
                    go_roundw
                    case rel =>
                      repeat apply Exists.intro
                      exact ⟨⟨i + 1, v52, (xt ++ [.slice (some ⟨g48, 0, none⟩) 1 1]), (Tt ++ [(g48, .cells #[strV []] 9 (0, 0))]), Kl52, (by omega), (by omega), O52, (mke_map (MkE.snoc hEt ((mkT_nil (e := y30) (by omega)).symm ▸ lv_block strv_empty)) hy30), (show Dj To (Tt ++ [(g48, .cells #[strV []] 9 (0, 0))]) from (by (try simp only [dj_app_l, dj_app_r, dj_cons_l, dj_cons_r, dj_nil_l, dj_nil_r, dk_app, dk_cons, dk_nil, and_true, true_and, and_assoc]); repeat' (first | trivial | assumption | exact Dj.symm (by assumption) | exact Ne.symm (by assumption) | apply And.intro))), (show Dj Ko (Tt ++ [(g48, .cells #[strV []] 9 (0, 0))]) from (by (try simp only [dj_app_l, dj_app_r, dj_cons_l, dj_cons_r, dj_nil_l, dj_nil_r, dk_app, dk_cons, dk_nil, and_true, true_and, and_assoc]); repeat' (first | trivial | assumption | exact Dj.symm (by assumption) | exact Ne.symm (by assumption) | apply And.intro))), (show Dj To Kl52 from (by (try simp only [dj_app_l, dj_app_r, dj_cons_l, dj_cons_r, dj_nil_l, dj_nil_r, dk_app, dk_cons, dk_nil, and_true, true_and, and_assoc]); repeat' (first | trivial | assumption | exact Dj.symm (by assumption) | exact Ne.symm (by assumption) | apply And.intro))), (show Dj Ko Kl52 from (by (try simp only [dj_app_l, dj_app_r, dj_cons_l, dj_cons_r, dj_nil_l, dj_nil_r, dk_app, dk_cons, dk_nil, and_true, true_and, and_assoc]); repeat' (first | trivial | assumption | exact Dj.symm (by assumption) | exact Ne.symm (by assumption) | apply And.intro))), (show Dj (Tt ++ [(g48, .cells #[strV []] 9 (0, 0))]) Kl52 from (by (try simp only [dj_app_l, dj_app_r, dj_cons_l, dj_cons_r, dj_nil_l, dj_nil_r, dk_app, dk_cons, dk_nil, and_true, true_and, and_assoc]); repeat' (first | trivial | assumption | exact Dj.symm (by assumption) | exact Ne.symm (by assumption) | apply And.intro))), rfl, rfl, (hW41.sub (fun p hp => by first | exact hp | (simp only [List.mem_cons, List.mem_append, List.nil_append, List.not_mem_nil, or_assoc, or_false, false_or] at hp ⊢ <;> grind)))⟩, rfl⟩
                    case measure => (show 30 - (intOf (.int .i64 (((i + 1) : Nat) : Int))).toNat < 30 - (intOf (.int .i64 ((i : Nat) : Int))).toNat); simp only [intOf]; omega
                | true =>
                  have h8 : k < 10 := of_decide_eq_true hd8
                  clear hd8
                  refine wp_cond_true rfl ?_
                  refine wp_skip ?_
                  refine (show Code.wp _ _ _ _ _ from ?_)
                  refine wp_seq ?_
                  refine wp_block ?_
                  refine wp_seq ?_
                  refine wp_region_L (W0 := (W0 : Base)) (To ++ (Ko ++ (Tt ++ (Kt ++ Ke)))) (hW35) ?_
                  refine lm (v := .slice none 0 0) rfl rfl ?_
                  refine wpL_done (fun W42 hW42 => ?_)
                  refine (show Code.wp _ _ _ _ _ from ?_)
                  refine wp_seq ?_
                  refine wp_seq ?_
                  refine wp_region_L (W0 := (W0 : Base)) (To ++ (Ko ++ (Tt ++ (Kt ++ Ke)))) (hW42) ?_
                  refine lm (v := .int .i64 0) rfl rfl ?_
                  refine wpL_done (fun W43 hW43 => ?_)
                  refine (show Code.wp _ _ _ _ _ from ?_)
                  refine wp_block ?_
                  obtain ⟨y54, b54, f54, hy54, hp54, lt54, hc54⟩ := lvp_str (k := k) HY30.out (by omega)
                  go_loopw [11, 10] (fun u11 u10 wr => ∃ (n : Nat) (vc : Value) (Kc : List (Nat × Obj)), (n ≤ y54.length) ∧ (n ≤ 100) ∧ (OwnL (W0 : Base) 5 1 vc n (u8s ((y54.take n).map mkB)) Kc) ∧ (Dj To Kc) ∧ (Dj Ko Kc) ∧ (Dj Tt Kc) ∧ (Dj Kt Kc) ∧ (Dj Ke Kc) ∧ u11 = .int .i64 ((n : Nat) : Int) ∧ vc = u10 ∧ KS (W0 : Base) (To ++ (Ko ++ (Tt ++ (Kt ++ (Ke ++ Kc))))) wr) (fun u11 _ _ => 100 - (intOf u11).toNat)
                  case atStart => exact ⟨0, (.slice none 0 0), [], (Nat.zero_le _), (Nat.zero_le _), (OwnL.nil _ _ _), (show Dj To [] from (by (try simp only [dj_app_l, dj_app_r, dj_cons_l, dj_cons_r, dj_nil_l, dj_nil_r, dk_app, dk_cons, dk_nil, and_true, true_and, and_assoc]); repeat' (first | trivial | assumption | exact Dj.symm (by assumption) | exact Ne.symm (by assumption) | apply And.intro))), (show Dj Ko [] from (by (try simp only [dj_app_l, dj_app_r, dj_cons_l, dj_cons_r, dj_nil_l, dj_nil_r, dk_app, dk_cons, dk_nil, and_true, true_and, and_assoc]); repeat' (first | trivial | assumption | exact Dj.symm (by assumption) | exact Ne.symm (by assumption) | apply And.intro))), (show Dj Tt [] from (by (try simp only [dj_app_l, dj_app_r, dj_cons_l, dj_cons_r, dj_nil_l, dj_nil_r, dk_app, dk_cons, dk_nil, and_true, true_and, and_assoc]); repeat' (first | trivial | assumption | exact Dj.symm (by assumption) | exact Ne.symm (by assumption) | apply And.intro))), (show Dj Kt [] from (by (try simp only [dj_app_l, dj_app_r, dj_cons_l, dj_cons_r, dj_nil_l, dj_nil_r, dk_app, dk_cons, dk_nil, and_true, true_and, and_assoc]); repeat' (first | trivial | assumption | exact Dj.symm (by assumption) | exact Ne.symm (by assumption) | apply And.intro))), (show Dj Ke [] from (by (try simp only [dj_app_l, dj_app_r, dj_cons_l, dj_cons_r, dj_nil_l, dj_nil_r, dk_app, dk_cons, dk_nil, and_true, true_and, and_assoc]); repeat' (first | trivial | assumption | exact Dj.symm (by assumption) | exact Ne.symm (by assumption) | apply And.intro))), rfl, rfl, (hW43.sub (fun p hp => by first | exact hp | (simp only [List.mem_cons, List.mem_append, List.nil_append, List.not_mem_nil, or_assoc, or_false, false_or] at hp ⊢ <;> grind)))⟩
                  case round =>
                    obtain ⟨n, vc, Kc, hn, hn2, hOc, dh55_0, dh55_1, dh55_2, dh55_3, dh55_4, rfl, rfl, hL44⟩ := hrel
                    refine wp_seq ?_
                    refine wp_seq ?_
                    refine wp_region_L (W0 := (W0 : Base)) (To ++ (Ko ++ (Tt ++ (Kt ++ (Ke ++ Kc))))) (hL44) ?_
                    refine lm (v := .int .i64 ((n : Nat) : Int)) rfl rfl ?_
                    refine lm (v := .slice p2 y2.length c2) rfl rfl ?_
                    refine lm (v := .int .i64 ((i : Nat) : Int)) rfl rfl ?_
                    refine lp (v := .pointer (some ⟨b30, f30 + i * 1, none⟩)) rfl rfl (run_idxQ (p := p2) (cap := c2) (n := y2.length) (j := .i64) (k := i) (sz := 1) rfl Try.underlying37 (by kernel_rfl) (by kernel_rfl) hp30 (by kernel_rfl) (by omega)) ?_
                    refine lv (v := .slice p30 y30.length c30) rfl rfl (yb_old (off := f30 + i * 1) rfl (by kernel_rfl) hc30 lt30 Try.underlying43 rfl) ?_
                    refine lm (v := .int .i64 ((k : Nat) : Int)) rfl rfl ?_
                    refine lp (v := .pointer (some ⟨b54, f54 + k * 1, none⟩)) rfl rfl (run_idxQ (p := p30) (cap := c30) (n := y30.length) (j := .i64) (k := k) (sz := 1) rfl Try.underlying43 (by kernel_rfl) (by kernel_rfl) hp54 (by kernel_rfl) (by omega)) ?_
                    refine lv (v := strV y54) rfl rfl (yb_old (off := f54 + k * 1) rfl (by kernel_rfl) hc54 lt54 Try.underlying9 rfl) ?_
                    refine lp (v := .int .i64 ((y54.length : Nat) : Int)) rfl rfl (run_lenS (l := y54) rfl Try.underlying9 (by kernel_rfl)) ?_
                    refine lp (v := .bool (decide (n < y54.length))) rfl rfl (run_bin rfl (vx := (.int .i64 ((n : Nat) : Int))) (vy := (.int .i64 ((y54.length : Nat) : Int))) (by kernel_rfl) (by kernel_rfl) fun w => bn_lss rfl w) ?_
                    refine lm (v := .bool (decide (n < y54.length))) rfl rfl ?_
                    cases hd10 : (decide (n < y54.length)) with
                    | false =>
                      have h10 : ¬ (n < y54.length) := of_decide_eq_false hd10
                      clear hd10
                      refine ln rfl ?_
                      refine ln rfl ?_
                      refine lm (v := .bool false) rfl rfl ?_
                      refine wpL_done (fun W45 hW45 => ?_)
                      refine (show Code.wp _ _ _ _ _ from ?_)
                      refine wp_cond_false rfl ?_
                      refine wp_exit ?_
                      refine (show Code.wp _ _ _ _ _ from ?_)
                      refine wp_region_L (W0 := (W0 : Base)) (To ++ (Ko ++ (Tt ++ (Kt ++ (Ke ++ Kc))))) (hW45) ?_
                      refine lm (v := ve) rfl rfl ?_
                      refine lm (v := vc) rfl rfl ?_
                      refine lv (v := strV ((y54.take n).map mkB)) rfl rfl (yb_strO (W0 := (W0 : Base)) (l := ((y54.take n).map mkB)) rfl Try.underlying26 Try.underlying5 Try.underlying9 (by kernel_rfl) hOc (fun p hp => by simp only [List.mem_cons, List.mem_append, List.nil_append, List.not_mem_nil, or_assoc, or_false, false_or, hp, or_true, true_or])) ?_
                      refine wpL_new (fun g => .slice (some ⟨g, 0, none⟩) 1 1) (obi := .cells #[strV ((y54.take n).map mkB)] 9 (0, 0)) rfl rfl (fun _ => by kernel_rfl) (fun _ => by simp only [List.setIfInBounds_toArray, List.set_cons_succ, List.set_cons_zero] <;> rfl) fun g56 Bg56 Fg56 => ?_
                      obtain ⟨dj57_0, dj57_1, dj57_2, dj57_3, dj57_4, dj57_5⟩ : Dk g56 To ∧ Dk g56 Ko ∧ Dk g56 Tt ∧ Dk g56 Kt ∧ Dk g56 Ke ∧ Dk g56 Kc := by simpa only [dj_app_l, dj_app_r, dj_cons_l, dj_cons_r, dj_nil_l, dj_nil_r, dk_app, dk_cons, dk_nil, and_true, true_and, and_assoc] using (show Dk g56 (To ++ (Ko ++ (Tt ++ (Kt ++ (Ke ++ Kc))))) from Fg56)
                      refine wpL_g (AppO (W0 : Base) 9 1 (To ++ (Ko ++ (Tt ++ (Kt ++ Kc)))) (k + 1) ((((y30.take k).map mkC).map strV) ++ [strV ((y54.take n).map mkB)])) rfl rfl (app_own el_str (m := 1) (c := 1) (news := [strV ((y54.take n).map mkB)]) rfl (by kernel_rfl) (by kernel_rfl) (.head _) hOe (fun p hp => by simp only [List.mem_cons, List.mem_append, List.nil_append, List.not_mem_nil, or_assoc, or_false, false_or, hp, or_true, true_or]) (fun p hp => ⟨by simp only [List.mem_cons, List.mem_append, List.nil_append, List.not_mem_nil, or_assoc, or_false, false_or] at hp ⊢ <;> grind, (show Dj (To ++ (Ko ++ (Tt ++ (Kt ++ Kc)))) Ke from (by (try simp only [dj_app_l, dj_app_r, dj_cons_l, dj_cons_r, dj_nil_l, dj_nil_r, dk_app, dk_cons, dk_nil, and_true, true_and, and_assoc]); repeat' (first | trivial | assumption | exact Dj.symm (by assumption) | exact Ne.symm (by assumption) | apply And.intro))) p hp⟩) rfl (by simp [strV, Value.oneCell']) (by omega) (by omega) (by omega)) (fun _ => by simp only [List.setIfInBounds_toArray, List.set_cons_succ, List.set_cons_zero] <;> rfl) ?_
                      rintro v58 K9 ⟨Kl58, O58, N58, rfl⟩
                      obtain ⟨dj59_0, dj59_1, dj59_2, dj59_3, dj59_4⟩ : Dj To Kl58 ∧ Dj Ko Kl58 ∧ Dj Tt Kl58 ∧ Dj Kt Kl58 ∧ Dj Kc Kl58 := by simpa only [dj_app_l, dj_app_r, dj_cons_l, dj_cons_r, dj_nil_l, dj_nil_r, dk_app, dk_cons, dk_nil, and_true, true_and, and_assoc] using (show Dj (To ++ (Ko ++ (Tt ++ (Kt ++ Kc)))) Kl58 from N58)
                      refine lm (v := v58) rfl rfl ?_
                      refine wpL_done (fun W46 hW46 => ?_)
                      refine (show Code.wp _ _ _ _ _ from ?_)
                      refine wp_region_L (W0 := (W0 : Base)) ((To ++ (Ko ++ (Tt ++ (Kt ++ Kc)))) ++ Kl58) (hW46) ?_
                      refine lm (v := .int .i64 ((k : Nat) : Int)) rfl rfl ?_
                      refine lp (v := .int .i64 (((k + 1) : Nat) : Int)) rfl rfl (run_bin rfl (vx := (.int .i64 ((k : Nat) : Int))) (vy := (.int .i64 ((1 : Nat) : Int))) (by kernel_rfl) (by kernel_rfl) fun w => bn_add (z := (k + 1)) rfl (wr_i64 (by omega)) w) ?_
                      refine lm (v := .int .i64 (((k + 1) : Nat) : Int)) rfl rfl ?_
                      refine wpL_done (fun W47 hW47 => ?_)
                      go_roundw
                      case rel =>
                        repeat apply Exists.intro
                        exact ⟨⟨k + 1, v58, Kl58, (by omega), (by omega), (str_step hy54 (end_map (by omega) (by omega) (by omega)) O58), (show Dj To Kl58 from (by (try simp only [dj_app_l, dj_app_r, dj_cons_l, dj_cons_r, dj_nil_l, dj_nil_r, dk_app, dk_cons, dk_nil, and_true, true_and, and_assoc]); repeat' (first | trivial | assumption | exact Dj.symm (by assumption) | exact Ne.symm (by assumption) | apply And.intro))), (show Dj Ko Kl58 from (by (try simp only [dj_app_l, dj_app_r, dj_cons_l, dj_cons_r, dj_nil_l, dj_nil_r, dk_app, dk_cons, dk_nil, and_true, true_and, and_assoc]); repeat' (first | trivial | assumption | exact Dj.symm (by assumption) | exact Ne.symm (by assumption) | apply And.intro))), (show Dj Tt Kl58 from (by (try simp only [dj_app_l, dj_app_r, dj_cons_l, dj_cons_r, dj_nil_l, dj_nil_r, dk_app, dk_cons, dk_nil, and_true, true_and, and_assoc]); repeat' (first | trivial | assumption | exact Dj.symm (by assumption) | exact Ne.symm (by assumption) | apply And.intro))), (show Dj Kt Kl58 from (by (try simp only [dj_app_l, dj_app_r, dj_cons_l, dj_cons_r, dj_nil_l, dj_nil_r, dk_app, dk_cons, dk_nil, and_true, true_and, and_assoc]); repeat' (first | trivial | assumption | exact Dj.symm (by assumption) | exact Ne.symm (by assumption) | apply And.intro))), rfl, rfl, (hW47.sub (fun p hp => by first | exact hp | (simp only [List.mem_cons, List.mem_append, List.nil_append, List.not_mem_nil, or_assoc, or_false, false_or] at hp ⊢ <;> grind)))⟩, rfl⟩
                      case measure => (show 10 - (intOf (.int .i64 (((k + 1) : Nat) : Int))).toNat < 10 - (intOf (.int .i64 ((k : Nat) : Int))).toNat); simp only [intOf]; omega
                    | true =>
                      have h10 : n < y54.length := of_decide_eq_true hd10
                      clear hd10
                      refine lm (v := .int .i64 ((n : Nat) : Int)) rfl rfl ?_
                      refine lp (v := .bool (decide (n < 100))) rfl rfl (run_bin rfl (vx := (.int .i64 ((n : Nat) : Int))) (vy := (.int .i64 ((100 : Nat) : Int))) (by kernel_rfl) (by kernel_rfl) fun w => bn_lss rfl w) ?_
                      refine lm (v := .bool (decide (n < 100))) rfl rfl ?_
                      refine wpL_done (fun W48 hW48 => ?_)
                      refine (show Code.wp _ _ _ _ _ from ?_)
                      cases hd11 : (decide (n < 100)) with
                      | false =>
                        have h11 : ¬ (n < 100) := of_decide_eq_false hd11
                        clear hd11
                        refine wp_cond_false rfl ?_
                        refine wp_exit ?_
                        refine (show Code.wp _ _ _ _ _ from ?_)
                        refine wp_region_L (W0 := (W0 : Base)) (To ++ (Ko ++ (Tt ++ (Kt ++ (Ke ++ Kc))))) (hW48) ?_
                        refine lm (v := ve) rfl rfl ?_
                        refine lm (v := vc) rfl rfl ?_
                        refine lv (v := strV ((y54.take n).map mkB)) rfl rfl (yb_strO (W0 := (W0 : Base)) (l := ((y54.take n).map mkB)) rfl Try.underlying26 Try.underlying5 Try.underlying9 (by kernel_rfl) hOc (fun p hp => by simp only [List.mem_cons, List.mem_append, List.nil_append, List.not_mem_nil, or_assoc, or_false, false_or, hp, or_true, true_or])) ?_
                        refine wpL_new (fun g => .slice (some ⟨g, 0, none⟩) 1 1) (obi := .cells #[strV ((y54.take n).map mkB)] 9 (0, 0)) rfl rfl (fun _ => by kernel_rfl) (fun _ => by simp only [List.setIfInBounds_toArray, List.set_cons_succ, List.set_cons_zero] <;> rfl) fun g60 Bg60 Fg60 => ?_
                        obtain ⟨dj61_0, dj61_1, dj61_2, dj61_3, dj61_4, dj61_5⟩ : Dk g60 To ∧ Dk g60 Ko ∧ Dk g60 Tt ∧ Dk g60 Kt ∧ Dk g60 Ke ∧ Dk g60 Kc := by simpa only [dj_app_l, dj_app_r, dj_cons_l, dj_cons_r, dj_nil_l, dj_nil_r, dk_app, dk_cons, dk_nil, and_true, true_and, and_assoc] using (show Dk g60 (To ++ (Ko ++ (Tt ++ (Kt ++ (Ke ++ Kc))))) from Fg60)
                        refine wpL_g (AppO (W0 : Base) 9 1 (To ++ (Ko ++ (Tt ++ (Kt ++ Kc)))) (k + 1) ((((y30.take k).map mkC).map strV) ++ [strV ((y54.take n).map mkB)])) rfl rfl (app_own el_str (m := 1) (c := 1) (news := [strV ((y54.take n).map mkB)]) rfl (by kernel_rfl) (by kernel_rfl) (.head _) hOe (fun p hp => by simp only [List.mem_cons, List.mem_append, List.nil_append, List.not_mem_nil, or_assoc, or_false, false_or, hp, or_true, true_or]) (fun p hp => ⟨by simp only [List.mem_cons, List.mem_append, List.nil_append, List.not_mem_nil, or_assoc, or_false, false_or] at hp ⊢ <;> grind, (show Dj (To ++ (Ko ++ (Tt ++ (Kt ++ Kc)))) Ke from (by (try simp only [dj_app_l, dj_app_r, dj_cons_l, dj_cons_r, dj_nil_l, dj_nil_r, dk_app, dk_cons, dk_nil, and_true, true_and, and_assoc]); repeat' (first | trivial | assumption | exact Dj.symm (by assumption) | exact Ne.symm (by assumption) | apply And.intro))) p hp⟩) rfl (by simp [strV, Value.oneCell']) (by omega) (by omega) (by omega)) (fun _ => by simp only [List.setIfInBounds_toArray, List.set_cons_succ, List.set_cons_zero] <;> rfl) ?_
                        rintro v62 K9 ⟨Kl62, O62, N62, rfl⟩
                        obtain ⟨dj63_0, dj63_1, dj63_2, dj63_3, dj63_4⟩ : Dj To Kl62 ∧ Dj Ko Kl62 ∧ Dj Tt Kl62 ∧ Dj Kt Kl62 ∧ Dj Kc Kl62 := by simpa only [dj_app_l, dj_app_r, dj_cons_l, dj_cons_r, dj_nil_l, dj_nil_r, dk_app, dk_cons, dk_nil, and_true, true_and, and_assoc] using (show Dj (To ++ (Ko ++ (Tt ++ (Kt ++ Kc)))) Kl62 from N62)
                        refine lm (v := v62) rfl rfl ?_
                        refine wpL_done (fun W49 hW49 => ?_)
                        refine (show Code.wp _ _ _ _ _ from ?_)
                        refine wp_region_L (W0 := (W0 : Base)) ((To ++ (Ko ++ (Tt ++ (Kt ++ Kc)))) ++ Kl62) (hW49) ?_
                        refine lm (v := .int .i64 ((k : Nat) : Int)) rfl rfl ?_
                        refine lp (v := .int .i64 (((k + 1) : Nat) : Int)) rfl rfl (run_bin rfl (vx := (.int .i64 ((k : Nat) : Int))) (vy := (.int .i64 ((1 : Nat) : Int))) (by kernel_rfl) (by kernel_rfl) fun w => bn_add (z := (k + 1)) rfl (wr_i64 (by omega)) w) ?_
                        refine lm (v := .int .i64 (((k + 1) : Nat) : Int)) rfl rfl ?_
                        refine wpL_done (fun W50 hW50 => ?_)
                        go_roundw
                        case rel =>
                          repeat apply Exists.intro
                          exact ⟨⟨k + 1, v62, Kl62, (by omega), (by omega), (str_step hy54 (end_map (by omega) (by omega) (by omega)) O62), (show Dj To Kl62 from (by (try simp only [dj_app_l, dj_app_r, dj_cons_l, dj_cons_r, dj_nil_l, dj_nil_r, dk_app, dk_cons, dk_nil, and_true, true_and, and_assoc]); repeat' (first | trivial | assumption | exact Dj.symm (by assumption) | exact Ne.symm (by assumption) | apply And.intro))), (show Dj Ko Kl62 from (by (try simp only [dj_app_l, dj_app_r, dj_cons_l, dj_cons_r, dj_nil_l, dj_nil_r, dk_app, dk_cons, dk_nil, and_true, true_and, and_assoc]); repeat' (first | trivial | assumption | exact Dj.symm (by assumption) | exact Ne.symm (by assumption) | apply And.intro))), (show Dj Tt Kl62 from (by (try simp only [dj_app_l, dj_app_r, dj_cons_l, dj_cons_r, dj_nil_l, dj_nil_r, dk_app, dk_cons, dk_nil, and_true, true_and, and_assoc]); repeat' (first | trivial | assumption | exact Dj.symm (by assumption) | exact Ne.symm (by assumption) | apply And.intro))), (show Dj Kt Kl62 from (by (try simp only [dj_app_l, dj_app_r, dj_cons_l, dj_cons_r, dj_nil_l, dj_nil_r, dk_app, dk_cons, dk_nil, and_true, true_and, and_assoc]); repeat' (first | trivial | assumption | exact Dj.symm (by assumption) | exact Ne.symm (by assumption) | apply And.intro))), rfl, rfl, (hW50.sub (fun p hp => by first | exact hp | (simp only [List.mem_cons, List.mem_append, List.nil_append, List.not_mem_nil, or_assoc, or_false, false_or] at hp ⊢ <;> grind)))⟩, rfl⟩
                        case measure => (show 10 - (intOf (.int .i64 (((k + 1) : Nat) : Int))).toNat < 10 - (intOf (.int .i64 ((k : Nat) : Int))).toNat); simp only [intOf]; omega
                      | true =>
                        have h11 : n < 100 := of_decide_eq_true hd11
                        clear hd11
                        refine wp_cond_true rfl ?_
                        refine wp_skip ?_
                        refine (show Code.wp _ _ _ _ _ from ?_)
                        refine wp_seq ?_
                        refine wp_block ?_
                        refine wp_region_L (W0 := (W0 : Base)) (To ++ (Ko ++ (Tt ++ (Kt ++ (Ke ++ Kc))))) (hW48) ?_
                        refine lm (v := vc) rfl rfl ?_
                        refine lm (v := .slice p2 y2.length c2) rfl rfl ?_
                        refine lm (v := .int .i64 ((i : Nat) : Int)) rfl rfl ?_
                        refine lp (v := .pointer (some ⟨b30, f30 + i * 1, none⟩)) rfl rfl (run_idxQ (p := p2) (cap := c2) (n := y2.length) (j := .i64) (k := i) (sz := 1) rfl Try.underlying37 (by kernel_rfl) (by kernel_rfl) hp30 (by kernel_rfl) (by omega)) ?_
                        refine lv (v := .slice p30 y30.length c30) rfl rfl (yb_old (off := f30 + i * 1) rfl (by kernel_rfl) hc30 lt30 Try.underlying43 rfl) ?_
                        refine lm (v := .int .i64 ((k : Nat) : Int)) rfl rfl ?_
                        refine lp (v := .pointer (some ⟨b54, f54 + k * 1, none⟩)) rfl rfl (run_idxQ (p := p30) (cap := c30) (n := y30.length) (j := .i64) (k := k) (sz := 1) rfl Try.underlying43 (by kernel_rfl) (by kernel_rfl) hp54 (by kernel_rfl) (by omega)) ?_
                        refine lv (v := strV y54) rfl rfl (yb_old (off := f54 + k * 1) rfl (by kernel_rfl) hc54 lt54 Try.underlying9 rfl) ?_
                        refine lm (v := .int .i64 ((n : Nat) : Int)) rfl rfl ?_
                        obtain ⟨b64, hb64⟩ : ∃ b, (y54 : List UInt8)[n]? = some b := ⟨_, List.getElem?_eq_getElem (by omega)⟩
                        have lb64 := b64.toNat_lt
                        refine lp (v := .int .u8 ((b64.toNat : Nat) : Int)) rfl rfl (run_idxS (j := .i64) (l := y54) (k := n) (b := b64) rfl Try.underlying9 (by kernel_rfl) (by kernel_rfl) hb64) ?_
                        refine lp (v := .int .u8 (((b64.toNat % 95) : Nat) : Int)) rfl rfl (run_bin rfl (vx := (.int .u8 ((b64.toNat : Nat) : Int))) (vy := (.int .u8 ((95 : Nat) : Int))) (by kernel_rfl) (by kernel_rfl) fun w => bn_rem (z := (b64.toNat % 95)) rfl (by omega) w) ?_
                        refine lp (v := .int .u8 (((32 + (b64.toNat % 95)) : Nat) : Int)) rfl rfl (run_bin rfl (vx := (.int .u8 ((32 : Nat) : Int))) (vy := (.int .u8 (((b64.toNat % 95) : Nat) : Int))) (by kernel_rfl) (by kernel_rfl) fun w => bn_add (z := (32 + (b64.toNat % 95))) rfl (wr_u8 (by omega)) w) ?_
                        refine wpL_new (fun g => .slice (some ⟨g, 0, none⟩) 1 1) (obi := .cells #[.int .u8 (((32 + (b64.toNat % 95)) : Nat) : Int)] 5 (0, 0)) rfl rfl (fun _ => by kernel_rfl) (fun _ => by simp only [List.setIfInBounds_toArray, List.set_cons_succ, List.set_cons_zero] <;> rfl) fun g65 Bg65 Fg65 => ?_
                        obtain ⟨dj66_0, dj66_1, dj66_2, dj66_3, dj66_4, dj66_5⟩ : Dk g65 To ∧ Dk g65 Ko ∧ Dk g65 Tt ∧ Dk g65 Kt ∧ Dk g65 Ke ∧ Dk g65 Kc := by simpa only [dj_app_l, dj_app_r, dj_cons_l, dj_cons_r, dj_nil_l, dj_nil_r, dk_app, dk_cons, dk_nil, and_true, true_and, and_assoc] using (show Dk g65 (To ++ (Ko ++ (Tt ++ (Kt ++ (Ke ++ Kc))))) from Fg65)
                        refine wpL_g (AppO (W0 : Base) 5 1 (To ++ (Ko ++ (Tt ++ (Kt ++ Ke)))) (n + 1) ((u8s ((y54.take n).map mkB)) ++ [.int .u8 (((32 + (b64.toNat % 95)) : Nat) : Int)])) rfl rfl (app_own el_byteM (m := 1) (c := 1) (news := [.int .u8 (((32 + (b64.toNat % 95)) : Nat) : Int)]) rfl (by kernel_rfl) (by kernel_rfl) (.head _) hOc (fun p hp => by simp only [List.mem_cons, List.mem_append, List.nil_append, List.not_mem_nil, or_assoc, or_false, false_or, hp, or_true, true_or]) (fun p hp => ⟨by simp only [List.mem_cons, List.mem_append, List.nil_append, List.not_mem_nil, or_assoc, or_false, false_or] at hp ⊢ <;> grind, (show Dj (To ++ (Ko ++ (Tt ++ (Kt ++ Ke)))) Kc from (by (try simp only [dj_app_l, dj_app_r, dj_cons_l, dj_cons_r, dj_nil_l, dj_nil_r, dk_app, dk_cons, dk_nil, and_true, true_and, and_assoc]); repeat' (first | trivial | assumption | exact Dj.symm (by assumption) | exact Ne.symm (by assumption) | apply And.intro))) p hp⟩) rfl (by simp [strV, Value.oneCell']) (by omega) (by omega) (by omega)) (fun _ => by simp only [List.setIfInBounds_toArray, List.set_cons_succ, List.set_cons_zero] <;> rfl) ?_
                        rintro v67 K9 ⟨Kl67, O67, N67, rfl⟩
                        obtain ⟨dj68_0, dj68_1, dj68_2, dj68_3, dj68_4⟩ : Dj To Kl67 ∧ Dj Ko Kl67 ∧ Dj Tt Kl67 ∧ Dj Kt Kl67 ∧ Dj Ke Kl67 := by simpa only [dj_app_l, dj_app_r, dj_cons_l, dj_cons_r, dj_nil_l, dj_nil_r, dk_app, dk_cons, dk_nil, and_true, true_and, and_assoc] using (show Dj (To ++ (Ko ++ (Tt ++ (Kt ++ Ke)))) Kl67 from N67)
                        refine lm (v := v67) rfl rfl ?_
                        refine wpL_done (fun W51 hW51 => ?_)
                        refine (show Code.wp _ _ _ _ _ from ?_)
                        refine wp_region_L (W0 := (W0 : Base)) ((To ++ (Ko ++ (Tt ++ (Kt ++ Ke)))) ++ Kl67) (hW51) ?_
                        refine lm (v := .int .i64 ((n : Nat) : Int)) rfl rfl ?_
                        refine lp (v := .int .i64 (((n + 1) : Nat) : Int)) rfl rfl (run_bin rfl (vx := (.int .i64 ((n : Nat) : Int))) (vy := (.int .i64 ((1 : Nat) : Int))) (by kernel_rfl) (by kernel_rfl) fun w => bn_add (z := (n + 1)) rfl (wr_i64 (by omega)) w) ?_
                        refine lm (v := .int .i64 (((n + 1) : Nat) : Int)) rfl rfl ?_
                        refine wpL_done (fun W52 hW52 => ?_)
                        go_roundw
                        case rel =>
                          repeat apply Exists.intro
                          exact ⟨⟨n + 1, v67, Kl67, (by omega), (by omega), (mk_step hb64 O67), (show Dj To Kl67 from (by (try simp only [dj_app_l, dj_app_r, dj_cons_l, dj_cons_r, dj_nil_l, dj_nil_r, dk_app, dk_cons, dk_nil, and_true, true_and, and_assoc]); repeat' (first | trivial | assumption | exact Dj.symm (by assumption) | exact Ne.symm (by assumption) | apply And.intro))), (show Dj Ko Kl67 from (by (try simp only [dj_app_l, dj_app_r, dj_cons_l, dj_cons_r, dj_nil_l, dj_nil_r, dk_app, dk_cons, dk_nil, and_true, true_and, and_assoc]); repeat' (first | trivial | assumption | exact Dj.symm (by assumption) | exact Ne.symm (by assumption) | apply And.intro))), (show Dj Tt Kl67 from (by (try simp only [dj_app_l, dj_app_r, dj_cons_l, dj_cons_r, dj_nil_l, dj_nil_r, dk_app, dk_cons, dk_nil, and_true, true_and, and_assoc]); repeat' (first | trivial | assumption | exact Dj.symm (by assumption) | exact Ne.symm (by assumption) | apply And.intro))), (show Dj Kt Kl67 from (by (try simp only [dj_app_l, dj_app_r, dj_cons_l, dj_cons_r, dj_nil_l, dj_nil_r, dk_app, dk_cons, dk_nil, and_true, true_and, and_assoc]); repeat' (first | trivial | assumption | exact Dj.symm (by assumption) | exact Ne.symm (by assumption) | apply And.intro))), (show Dj Ke Kl67 from (by (try simp only [dj_app_l, dj_app_r, dj_cons_l, dj_cons_r, dj_nil_l, dj_nil_r, dk_app, dk_cons, dk_nil, and_true, true_and, and_assoc]); repeat' (first | trivial | assumption | exact Dj.symm (by assumption) | exact Ne.symm (by assumption) | apply And.intro))), rfl, rfl, (hW52.sub (fun p hp => by first | exact hp | (simp only [List.mem_cons, List.mem_append, List.nil_append, List.not_mem_nil, or_assoc, or_false, false_or] at hp ⊢ <;> grind)))⟩, rfl⟩
                        case measure => (show 100 - (intOf (.int .i64 (((n + 1) : Nat) : Int))).toNat < 100 - (intOf (.int .i64 ((n : Nat) : Int))).toNat); simp only [intOf]; omega
end Go.Proofs.Ytppegdbelgobiaa
namespace Go.Proofs.Ytppegdbelgobiaa
open Go Go.RowKit Tw
set_option maxRecDepth 100000 in
set_option maxHeartbeats 4000000 in
theorem LexBack_law (w : World) (A : List Sgm) (pA : Option Addr) (cA : Nat) (hA : LVp ElR w pA A) (hb : sz4 A ≤ 1048576) (bt : List UInt8) (pB : Option Addr) (cB : Nat) (hB : LVp ByR w pB bt) : Calls Try.prog 5 #[.slice pA A.length cA, .slice pB bt.length cB] w fun e w' => e = .returned (.bool true) ∧ Below w.heap.size w w' := by
  have HA := Lib.hid hA
  have HB := Lib.hid hB
  clear hA hB
  have lA := sz4_len A
  have hS : ∀ s ∈ A, sgN s ≤ 4000000000 := fun s hs => by have := sz4_seg hs; omega
  obtain ⟨A1, hA1⟩ : ∃ A1, A1 = madeL A := ⟨_, rfl⟩
  have r1 : A1.all rightS = true := by rw [hA1]; exact right_made A
  have n1 : A1.length = A.length := by rw [hA1]; simp [madeL]
  have hln := right_lens r1
  go_enter Try.func5, Try.ntmps5
  refine wp_seq ?_
  refine wp_region_L (W0 := w) [] (KS.start w) ?_
  refine lm (v := .bool false) rfl rfl ?_
  refine wpL_done (fun W1 hW1 => ?_)
  refine (show Code.wp _ _ _ _ _ from ?_)
  refine wp_seq ?_
  refine wp_seq ?_
  refine wp_region_L (W0 := w) [] (hW1) ?_
  refine lv (v := .bool true) rfl rfl (yb_call (f := 10) (args := #[]) (fun _ => by kernel_rfl) fun W hW => awake_any W) ?_
  refine lm (v := .bool false) rfl rfl ?_
  refine wpL_done (fun W2 hW2 => ?_)
  refine (show Code.wp _ _ _ _ _ from ?_)
  refine wp_cond_false rfl ?_
  refine wp_skip ?_
  refine (show Code.wp _ _ _ _ _ from ?_)
  refine wp_seq ?_
  refine wp_seq ?_
  refine wp_region_L (W0 := w) [] (hW2) ?_
  refine lm (v := .slice pA A.length cA) rfl rfl ?_
  refine lv (v := .bool (smallL A)) rfl rfl (yb_call (f := 11) (args := #[.slice pA A.length cA]) (fun _ => by kernel_rfl) fun W hW => Small_any A pA cA hS W (HA.out.keep ElR.keeps hW.1)) ?_
  refine lp (v := .bool (!(smallL A))) rfl rfl (run_un rfl (by kernel_rfl) fun w => un_not w) ?_
  refine lm (v := .bool (!(smallL A))) rfl rfl ?_
  cases h1 : (smallL A) with
  | false =>
    refine ln rfl ?_
    refine ln rfl ?_
    refine ln rfl ?_
    refine lm (v := .bool true) rfl rfl ?_
    refine wpL_done (fun W3 hW3 => ?_)
    refine (show Code.wp _ _ _ _ _ from ?_)
    refine wp_cond_true rfl ?_
    refine wp_seq ?_
    refine wp_region_L (W0 := w) [] (hW3) ?_
    refine lm (v := .bool true) rfl rfl ?_
    refine wpL_done (fun W4 hW4 => ?_)
    refine (show Code.wp _ _ _ _ _ from ?_)
    refine wp_ret ?_
    try simp only [inBlock_ret, then_ret]
    refine bodyPost_ret (v := .bool true) ?_ rfl ?_
    · kernel_rfl
    · exact ⟨rfl, (hW4).1⟩
  | true =>
    obtain ⟨hs40, hsm⟩ := small_of h1
    have lw : (wrL A1).length ≤ 1401 * A.length := by rw [hA1]; exact wrL_made A hsm
    have hwv := writeV_all r1 (by omega) (by omega)
    have rd1 := read_back r1 (by omega) (by omega)
    refine lm (v := .slice pB bt.length cB) rfl rfl ?_
    refine lp (v := .int .i64 ((bt.length : Nat) : Int)) rfl rfl (run_lenL (p := pB) (cap := cB) (n := bt.length) rfl Try.underlying26 (by kernel_rfl)) ?_
    refine lp (v := .bool (decide (300 < bt.length))) rfl rfl (run_bin rfl (vx := (.int .i64 ((bt.length : Nat) : Int))) (vy := (.int .i64 ((300 : Nat) : Int))) (by kernel_rfl) (by kernel_rfl) fun w => bn_gtr rfl w) ?_
    refine lm (v := .bool (decide (300 < bt.length))) rfl rfl ?_
    refine wpL_done (fun W5 hW5 => ?_)
    refine (show Code.wp _ _ _ _ _ from ?_)
    cases hd2 : (decide (300 < bt.length)) with
    | false =>
      have h2 : ¬ (300 < bt.length) := of_decide_eq_false hd2
      clear hd2
      refine wp_cond_false rfl ?_
      refine wp_skip ?_
      refine (show Code.wp _ _ _ _ _ from ?_)
      refine wp_seq ?_
      refine wp_region_L (W0 := w) [] (hW5) ?_
      refine lm (v := .slice pA A.length cA) rfl rfl ?_
      refine wpL_c (f := 13) (args := #[.slice pA A.length cA]) (fun v T => (∃ p c, v = .slice p A1.length c ∧ A1.length ≤ c) ∧ MkV SgR w v A1 T) rfl (by kernel_rfl) (fun _ => (by kernel_rfl)) (fun W hW => (by rw [hA1]; exact (made_own A pA cA (by omega) HA.out W (hW.sub (fun _ h => by cases h))).mono fun e w2 ⟨v, T, he, hk, hM⟩ => ⟨v, T, he, hk, shape_own hM, hM.mkv⟩)) (fun _ => by simp only [List.setIfInBounds_toArray, List.set_cons_succ, List.set_cons_zero] <;> rfl) ?_
      rintro _ T1 ⟨⟨p1, c1, rfl, cp1⟩, M1⟩
      refine lm (v := .slice p1 A1.length c1) rfl rfl ?_
      refine wpL_done (fun W6 hW6 => ?_)
      have HB3 := Lib.hid ((lv_lvp (M1 W6 ((hW6).sub (fun p hp => by first | exact hp | (simp only [List.mem_cons, List.mem_append, List.nil_append, List.not_mem_nil, or_assoc, or_false, false_or, List.cons_append, List.append_assoc] at hp ⊢ <;> grind))))))
      have HB4 := Lib.hid ((HA.out.keep ElR.keeps (hW6).1))
      have hbz2 : Below w.heap.size w W6 := (hW6).1
      refine (show Code.wp _ _ _ _ _ from ?_)
      refine wp_seq ?_
      refine wp_region_L (W0 := W6) [] (KS.start W6) ?_
      refine lm (v := .slice p1 A1.length c1) rfl rfl ?_
      refine lv (v := .tuple #[strV (wrL A1), .int .i64 0]) rfl rfl (yb_call (f := 14) (args := #[.slice p1 A1.length c1]) (fun _ => by kernel_rfl) fun W hW => (by have z := PWrite_any A1 p1 c1 W (HB3.out.keep ElR.keeps hW.1); rw [hwv] at z; exact z)) ?_
      refine lm (v := .tuple #[strV (wrL A1), .int .i64 0]) rfl rfl ?_
      refine lm (v := strV (wrL A1)) rfl rfl ?_
      refine lm (v := .int .i64 0) rfl rfl ?_
      refine lm (v := strV (wrL A1)) rfl rfl ?_
      refine lm (v := .int .i64 0) rfl rfl ?_
      refine wpL_done (fun W7 hW7 => ?_)
      refine (show Code.wp _ _ _ _ _ from ?_)
      refine wp_seq ?_
      refine wp_region_L (W0 := W6) [] (hW7) ?_
      refine lm (v := strV (wrL A1)) rfl rfl ?_
      refine wpL_c (f := 15) (args := #[strV (wrL A1)]) (RdK W6 A1) rfl (by kernel_rfl) (fun _ => (by kernel_rfl)) (fun W hW => Read_ok rd1 (by omega) W (hW.sub (fun _ h => by cases h))) (fun _ => by simp only [List.setIfInBounds_toArray, List.set_cons_succ, List.set_cons_zero] <;> rfl) ?_
      rintro _ T5 ⟨p5, c5, rfl, M5⟩
      refine lm (v := .tuple #[.slice p5 A1.length c5, .int .i64 0, .int .i64 0]) rfl rfl ?_
      refine lm (v := .slice p5 A1.length c5) rfl rfl ?_
      refine lm (v := .int .i64 0) rfl rfl ?_
      refine lm (v := .int .i64 0) rfl rfl ?_
      refine lm (v := .slice p5 A1.length c5) rfl rfl ?_
      refine lm (v := .int .i64 0) rfl rfl ?_
      refine lm (v := .int .i64 0) rfl rfl ?_
      refine wpL_done (fun W8 hW8 => ?_)
      have HB7 := Lib.hid ((HB3.out.keep ElR.keeps (hW8).1))
      have HB8 := Lib.hid ((lv_lvp ((sgo_sgr M5) W8 ((hW8).sub (fun p hp => by first | exact hp | (simp only [List.mem_cons, List.mem_append, List.nil_append, List.not_mem_nil, or_assoc, or_false, false_or, List.cons_append, List.append_assoc] at hp ⊢ <;> grind))))))
      have HB9 := Lib.hid ((HB4.out.keep ElR.keeps (hW8).1))
      have hbz6 : Below w.heap.size w W8 := hbz2.trans ((hW8).1.mono hbz2.size)
      refine (show Code.wp _ _ _ _ _ from ?_)
      refine wp_seq ?_
      refine wp_seq ?_
      refine wp_region_L (W0 := W8) [] (KS.start W8) ?_
      refine lm (v := .int .i64 0) rfl rfl ?_
      refine lm (v := .bool false) rfl rfl ?_
      refine lm (v := .bool false) rfl rfl ?_
      refine lm (v := .int .i64 0) rfl rfl ?_
      refine lm (v := .bool false) rfl rfl ?_
      refine lm (v := .bool false) rfl rfl ?_
      refine lm (v := .bool false) rfl rfl ?_
      refine lm (v := .int .i64 0) rfl rfl ?_
      refine lm (v := .bool false) rfl rfl ?_
      refine lm (v := .bool false) rfl rfl ?_
      refine lm (v := .bool false) rfl rfl ?_
      refine lm (v := .slice p5 A1.length c5) rfl rfl ?_
      refine lm (v := .slice p1 A1.length c1) rfl rfl ?_
      refine lv (v := .bool true) rfl rfl (yb_call (f := 16) (args := #[.slice p5 A1.length c5, .slice p1 A1.length c1]) (fun _ => by kernel_rfl) fun W hW => (by have z := same_any A1 A1 p5 p1 c5 c1 (by omega) hln W (HB8.out.keep ElR.keeps hW.1) (HB7.out.keep ElR.keeps hW.1); rw [decide_eq_true rfl] at z; exact z)) ?_
      refine lm (v := .bool false) rfl rfl ?_
      refine lm (v := .bool false) rfl rfl ?_
      refine wpL_done (fun W9 hW9 => ?_)
      refine (show Code.wp _ _ _ _ _ from ?_)
      refine wp_cond_false rfl ?_
      refine wp_skip ?_
      refine (show Code.wp _ _ _ _ _ from ?_)
      refine wp_seq ?_
      refine wp_region_L (W0 := W8) [] (hW9) ?_
      refine lm (v := strV []) rfl rfl ?_
      refine wpL_done (fun W10 hW10 => ?_)
      refine (show Code.wp _ _ _ _ _ from ?_)
      refine wp_seq ?_
      refine wp_seq ?_
      refine wp_region_L (W0 := W8) [] (hW10) ?_
      refine lm (v := .int .i64 0) rfl rfl ?_
      refine wpL_done (fun W11 hW11 => ?_)
      refine (show Code.wp _ _ _ _ _ from ?_)
      refine wp_block ?_
      have hbz0 : Below w.heap.size w W8 := hbz6
      go_loopw [11, 10] (fun u11 u10 wr => ∃ (k : Nat) (lo : List UInt8), (k ≤ A1.length) ∧ (runS 0 lo ⟨[], .out⟩ = .ok ⟨A1.take k, .out⟩) ∧ (lo.length ≤ 1500 * k) ∧ u11 = .int .i64 ((k : Nat) : Int) ∧ u10 = strV lo ∧ KS W8 [] wr) (fun u11 _ _ => A1.length - (intOf u11).toNat)
      case atStart => exact ⟨0, [], (Nat.zero_le _), rfl, (Nat.le_refl _), rfl, rfl, (hW11.sub (fun p hp => by first | exact hp | (simp only [List.mem_cons, List.mem_append, List.nil_append, List.not_mem_nil, or_assoc, or_false, false_or, List.cons_append, List.append_assoc] at hp ⊢ <;> grind)))⟩
      case round =>
        obtain ⟨k, lo, hk, hlo, llo, rfl, rfl, hL12⟩ := hrel
        refine wp_seq ?_
        refine wp_seq ?_
        refine wp_region_L (W0 := W8) [] (hL12) ?_
        refine lm (v := .int .i64 ((k : Nat) : Int)) rfl rfl ?_
        refine lm (v := .slice p1 A1.length c1) rfl rfl ?_
        refine lp (v := .int .i64 ((A1.length : Nat) : Int)) rfl rfl (run_lenL (p := p1) (cap := c1) (n := A1.length) rfl Try.underlying24 (by kernel_rfl)) ?_
        refine lp (v := .bool (decide (k < A1.length))) rfl rfl (run_bin rfl (vx := (.int .i64 ((k : Nat) : Int))) (vy := (.int .i64 ((A1.length : Nat) : Int))) (by kernel_rfl) (by kernel_rfl) fun w => bn_lss rfl w) ?_
        refine wpL_done (fun W13 hW13 => ?_)
        refine (show Code.wp _ _ _ _ _ from ?_)
        cases hd3 : (decide (k < A1.length)) with
        | false =>
          have h3 : ¬ (k < A1.length) := of_decide_eq_false hd3
          clear hd3
          refine wp_cond_false rfl ?_
          refine wp_exit ?_
          refine (show Code.wp _ _ _ _ _ from ?_)
          refine wp_seq ?_
          refine wp_region_L (W0 := W8) [] (hW13) ?_
          refine lm (v := strV lo) rfl rfl ?_
          refine lp (v := strV (lo ++ [32, 10])) rfl rfl (run_bin rfl (vx := strV lo) (vy := strV [32, 10]) (by kernel_rfl) (by kernel_rfl) fun w => bs_add (c := (lo ++ [32, 10])) rfl (by have z := repL_len; first | (simp only [List.length_append, List.length_cons, List.length_nil, repL_len]; omega) | omega) w) ?_
          refine lm (v := strV (lo ++ [32, 10])) rfl rfl ?_
          refine wpL_done (fun W14 hW14 => ?_)
          refine (show Code.wp _ _ _ _ _ from ?_)
          refine wp_seq ?_
          refine wp_seq ?_
          refine wp_region_L (W0 := W8) [] (hW14) ?_
          refine lm (v := strV (lo ++ [32, 10])) rfl rfl ?_
          refine lp (v := .int .i64 ((((lo ++ [32, 10]).length) : Nat) : Int)) rfl rfl (run_lenS (l := (lo ++ [32, 10])) rfl Try.underlying9 (by kernel_rfl)) ?_
          refine lp (v := .bool (decide (65536 < ((lo ++ [32, 10]).length)))) rfl rfl (run_bin rfl (vx := (.int .i64 ((((lo ++ [32, 10]).length) : Nat) : Int))) (vy := (.int .i64 ((65536 : Nat) : Int))) (by kernel_rfl) (by kernel_rfl) fun w => bn_gtr rfl w) ?_
          refine wpL_done (fun W15 hW15 => ?_)
          refine (show Code.wp _ _ _ _ _ from ?_)
          cases hd4 : (decide (65536 < ((lo ++ [32, 10]).length))) with
          | false =>
            have h4 : ¬ (65536 < ((lo ++ [32, 10]).length)) := of_decide_eq_false hd4
            clear hd4
            have rd2 : readT (lo ++ [32, 10]) = .ok A1 := loose_read h3 (loose_gap (g := [32, 10]) rfl hlo) h4
            refine wp_cond_false rfl ?_
            refine wp_skip ?_
            refine (show Code.wp _ _ _ _ _ from ?_)
            refine wp_seq ?_
            refine wp_region_L (W0 := W8) [] (hW15) ?_
            refine lm (v := strV (lo ++ [32, 10])) rfl rfl ?_
            refine wpL_c (f := 15) (args := #[strV (lo ++ [32, 10])]) (RdK W8 A1) rfl (by kernel_rfl) (fun _ => (by kernel_rfl)) (fun W hW => Read_ok rd2 (by simp only [List.length_append, List.length_cons, List.length_nil]; omega) W (hW.sub (fun _ h => by cases h))) (fun _ => by simp only [List.setIfInBounds_toArray, List.set_cons_succ, List.set_cons_zero] <;> rfl) ?_
            rintro _ T10 ⟨p10, c10, rfl, M10⟩
            refine lm (v := .tuple #[.slice p10 A1.length c10, .int .i64 0, .int .i64 0]) rfl rfl ?_
            refine lm (v := .slice p10 A1.length c10) rfl rfl ?_
            refine lm (v := .int .i64 0) rfl rfl ?_
            refine lm (v := .int .i64 0) rfl rfl ?_
            refine lm (v := .slice p10 A1.length c10) rfl rfl ?_
            refine lm (v := .int .i64 0) rfl rfl ?_
            refine lm (v := .int .i64 0) rfl rfl ?_
            refine wpL_done (fun W16 hW16 => ?_)
            have HB12 := Lib.hid ((HB7.out.keep ElR.keeps (hW16).1))
            have HB13 := Lib.hid ((HB8.out.keep ElR.keeps (hW16).1))
            have HB14 := Lib.hid ((lv_lvp ((sgo_sgr M10) W16 ((hW16).sub (fun p hp => by first | exact hp | (simp only [List.mem_cons, List.mem_append, List.nil_append, List.not_mem_nil, or_assoc, or_false, false_or, List.cons_append, List.append_assoc] at hp ⊢ <;> grind))))))
            have HB15 := Lib.hid ((HB9.out.keep ElR.keeps (hW16).1))
            have hbz11 : Below w.heap.size w W16 := hbz6.trans ((hW16).1.mono hbz6.size)
            refine (show Code.wp _ _ _ _ _ from ?_)
            refine wp_seq ?_
            refine wp_region_L (W0 := W16) [] (KS.start W16) ?_
            refine lm (v := .int .i64 0) rfl rfl ?_
            refine lm (v := .bool true) rfl rfl ?_
            refine lm (v := .bool true) rfl rfl ?_
            refine lm (v := .int .i64 0) rfl rfl ?_
            refine lm (v := .bool true) rfl rfl ?_
            refine lm (v := .bool true) rfl rfl ?_
            refine lm (v := .bool true) rfl rfl ?_
            refine lm (v := .slice p10 A1.length c10) rfl rfl ?_
            refine lm (v := .slice p1 A1.length c1) rfl rfl ?_
            refine lv (v := .bool true) rfl rfl (yb_call (f := 16) (args := #[.slice p10 A1.length c10, .slice p1 A1.length c1]) (fun _ => by kernel_rfl) fun W hW => (by have z := same_any A1 A1 p10 p1 c10 c1 (by omega) hln W (HB14.out.keep ElR.keeps hW.1) (HB12.out.keep ElR.keeps hW.1); rw [decide_eq_true rfl] at z; exact z)) ?_
            refine lm (v := .bool true) rfl rfl ?_
            refine lm (v := .bool true) rfl rfl ?_
            refine wpL_done (fun W17 hW17 => ?_)
            refine (show Code.wp _ _ _ _ _ from ?_)
            refine wp_ret ?_
            try simp only [inBlock_ret, then_ret]
            refine bodyPost_ret (v := .bool true) ?_ rfl ?_
            · kernel_rfl
            · exact ⟨rfl, (Below.trans hbz11 (Below.mono (hW17).1 hbz11.size))⟩
          | true =>
            have h4 : 65536 < ((lo ++ [32, 10]).length) := of_decide_eq_true hd4
            clear hd4
            refine wp_cond_true rfl ?_
            refine wp_seq ?_
            refine wp_region_L (W0 := W8) [] (hW15) ?_
            refine lm (v := .bool true) rfl rfl ?_
            refine wpL_done (fun W18 hW18 => ?_)
            refine (show Code.wp _ _ _ _ _ from ?_)
            refine wp_ret ?_
            try simp only [inBlock_ret, then_ret]
            refine bodyPost_ret (v := .bool true) ?_ rfl ?_
            · kernel_rfl
            · exact ⟨rfl, (Below.trans hbz6 (Below.mono (hW18).1 hbz6.size))⟩
        | true =>
          have h3 : k < A1.length := of_decide_eq_true hd3
          clear hd3
          refine wp_cond_true rfl ?_
          refine wp_skip ?_
          refine (show Code.wp _ _ _ _ _ from ?_)
          refine wp_seq ?_
          refine wp_block ?_
          refine wp_seq ?_
          refine wp_seq ?_
          refine wp_region_L (W0 := W8) [] (hW13) ?_
          refine lm (v := .int .i64 ((k : Nat) : Int)) rfl rfl ?_
          refine lm (v := .slice pB bt.length cB) rfl rfl ?_
          refine lp (v := .int .i64 ((bt.length : Nat) : Int)) rfl rfl (run_lenL (p := pB) (cap := cB) (n := bt.length) rfl Try.underlying26 (by kernel_rfl)) ?_
          refine lp (v := .bool (decide (k < bt.length))) rfl rfl (run_bin rfl (vx := (.int .i64 ((k : Nat) : Int))) (vy := (.int .i64 ((bt.length : Nat) : Int))) (by kernel_rfl) (by kernel_rfl) fun w => bn_lss rfl w) ?_
          refine wpL_done (fun W19 hW19 => ?_)
          refine (show Code.wp _ _ _ _ _ from ?_)
          cases hd5 : (decide (k < bt.length)) with
          | false =>
            have h5 : ¬ (k < bt.length) := of_decide_eq_false hd5
            clear hd5
            refine wp_cond_false rfl ?_
            refine wp_skip ?_
            refine (show Code.wp _ _ _ _ _ from ?_)
            refine wp_seq ?_
            refine wp_region_L (W0 := W8) [] (hW19) ?_
            refine lm (v := .slice p1 A1.length c1) rfl rfl ?_
            refine lm (v := .int .i64 ((k : Nat) : Int)) rfl rfl ?_
            refine lm (v := .int .i64 ((k : Nat) : Int)) rfl rfl ?_
            refine lp (v := .int .i64 (((k + 1) : Nat) : Int)) rfl rfl (run_bin rfl (vx := (.int .i64 ((k : Nat) : Int))) (vy := (.int .i64 ((1 : Nat) : Int))) (by kernel_rfl) (by kernel_rfl) fun w => bn_add (z := (k + 1)) rfl (wr_i64 (by omega)) w) ?_
            obtain ⟨y16, q16, d16, b16, f16, hy16, HY16, hp16, lt16, hc16⟩ := lvp_lst (k := k) HB7.out (by omega)
            have ry16 := all_at r1 hy16
            have ly16 := wrS_made (A := A) hsm (by rw [← hA1]; exact hy16)
            have wv16 := writeV_one ry16 (by omega)
            have H116 := Lib.hid (lvp_one HB7.out hy16 hp16)
            refine lp (v := .slice (some ⟨b16, f16 + k * 1, none⟩) 1 (c1 - k)) rfl rfl (run_slS (k1 := .i64) (k2 := .i64) (i := k) (j := (k + 1)) (b := b16) (off := f16) (n := A1.length) (cap := c1) rfl Try.underlying24 (by kernel_rfl) (by rw [← hp16]; kernel_rfl) (by kernel_rfl) (by kernel_rfl) (by omega) (by omega) (by omega)) ?_
            refine lv (v := .tuple #[strV (wrS y16), .int .i64 0]) rfl rfl (yb_call (f := 14) (args := #[.slice (some ⟨b16, f16 + k * 1, none⟩) 1 (c1 - k)]) (fun _ => by kernel_rfl) fun W hW => (by have z := PWrite_any ([y16] : List Sgm) (some ⟨b16, f16 + k * 1, none⟩) (c1 - k) W (H116.out.keep ElR.keeps hW.1); rw [wv16] at z; exact z)) ?_
            refine lm (v := .tuple #[strV (wrS y16), .int .i64 0]) rfl rfl ?_
            refine lm (v := strV (wrS y16)) rfl rfl ?_
            refine lm (v := .int .i64 0) rfl rfl ?_
            refine lm (v := strV (wrS y16)) rfl rfl ?_
            refine lm (v := .int .i64 0) rfl rfl ?_
            refine wpL_done (fun W20 hW20 => ?_)
            refine (show Code.wp _ _ _ _ _ from ?_)
            refine wp_seq ?_
            refine wp_seq ?_
            refine wp_region_L (W0 := W8) [] (hW20) ?_
            refine lm (v := .int .i64 0) rfl rfl ?_
            refine lm (v := .bool false) rfl rfl ?_
            refine lm (v := .bool false) rfl rfl ?_
            refine lm (v := .slice p1 A1.length c1) rfl rfl ?_
            refine lm (v := .int .i64 ((k : Nat) : Int)) rfl rfl ?_
            obtain ⟨y17, p17, c17, b17, f17, hy17, HY17, hp17, lt17, hc17⟩ := lvp_lst (k := k) HB7.out (by omega)
            have HY17 := Lib.hid HY17
            refine lp (v := .pointer (some ⟨b17, f17 + k * 1, none⟩)) rfl rfl (run_idxQ (p := p1) (cap := c1) (n := A1.length) (j := .i64) (k := k) (sz := 1) rfl Try.underlying24 (by kernel_rfl) (by kernel_rfl) hp17 (by kernel_rfl) (by omega)) ?_
            obtain rfl : y16 = y17 := Option.some.inj (hy16.symm.trans hy17)
            refine lv (v := .slice p17 y16.length c17) rfl rfl (yb_old (off := f17 + k * 1) rfl (by kernel_rfl) hc17 lt17 Try.underlying37 rfl) ?_
            refine lv (v := .bool true) rfl rfl (yb_call (f := 18) (args := #[.slice p17 y16.length c17]) (fun _ => by kernel_rfl) fun W hW => (by have z := PRight_any y16 p17 c17 W (HY17.out.keep TxR.keeps hW.1); rw [ry16] at z; exact z)) ?_
            refine lm (v := .bool false) rfl rfl ?_
            refine lm (v := .bool false) rfl rfl ?_
            refine wpL_done (fun W21 hW21 => ?_)
            refine (show Code.wp _ _ _ _ _ from ?_)
            refine wp_cond_false rfl ?_
            refine wp_skip ?_
            refine (show Code.wp _ _ _ _ _ from ?_)
            refine wp_region_L (W0 := W8) [] (hW21) ?_
            refine lm (v := strV lo) rfl rfl ?_
            refine lm (v := strV (wrS y16)) rfl rfl ?_
            refine lp (v := strV (lo ++ (wrS y16))) rfl rfl (run_bin rfl (vx := strV lo) (vy := strV (wrS y16)) (by kernel_rfl) (by kernel_rfl) fun w => bs_add (c := (lo ++ (wrS y16))) rfl (by have z := repL_len; first | (simp only [List.length_append, List.length_cons, List.length_nil, repL_len]; omega) | omega) w) ?_
            refine lm (v := strV (lo ++ (wrS y16))) rfl rfl ?_
            refine wpL_done (fun W22 hW22 => ?_)
            refine (show Code.wp _ _ _ _ _ from ?_)
            refine wp_region_L (W0 := W8) [] (hW22) ?_
            refine lm (v := .int .i64 ((k : Nat) : Int)) rfl rfl ?_
            refine lp (v := .int .i64 (((k + 1) : Nat) : Int)) rfl rfl (run_bin rfl (vx := (.int .i64 ((k : Nat) : Int))) (vy := (.int .i64 ((1 : Nat) : Int))) (by kernel_rfl) (by kernel_rfl) fun w => bn_add (z := (k + 1)) rfl (wr_i64 (by omega)) w) ?_
            refine lm (v := .int .i64 (((k + 1) : Nat) : Int)) rfl rfl ?_
            refine wpL_done (fun W23 hW23 => ?_)
            go_roundw
            case rel =>
              repeat apply Exists.intro
              exact ⟨⟨k + 1, (lo ++ (wrS y16)), (by omega), (loose_seg r1 (by omega) hy16 hlo), (by simp only [List.length_append]; omega), rfl, rfl, (hW23.sub (fun p hp => by first | exact hp | (simp only [List.mem_cons, List.mem_append, List.nil_append, List.not_mem_nil, or_assoc, or_false, false_or, List.cons_append, List.append_assoc] at hp ⊢ <;> grind)))⟩, rfl⟩
            case measure => (show A1.length - (intOf (.int .i64 (((k + 1) : Nat) : Int))).toNat < A1.length - (intOf (.int .i64 ((k : Nat) : Int))).toNat); simp only [intOf]; omega
          | true =>
            have h5 : k < bt.length := of_decide_eq_true hd5
            clear hd5
            refine wp_cond_true rfl ?_
            refine wp_region_V (W0 := W8) [] (by kernel_rfl) (hW19) ?_
            refine vm (i := 0) (v := strV lo) rfl rfl rfl ?_
            refine vm (i := 1) (v := .slice pB bt.length cB) rfl rfl rfl ?_
            refine vm (i := 2) (v := .int .i64 ((k : Nat) : Int)) rfl rfl rfl ?_
            obtain ⟨bb, xb18, bk18, fk18, hb18, hx18, hp18, lt18, hc18⟩ := lvp_at (k := k) (LVp.keep ByR.keeps HB.out hbz0) (by omega)
            obtain rfl : xb18 = .int .u8 ((bb.toNat : Nat) : Int) := hx18
            have lbb := bb.toNat_lt
            refine vp (i := 3) (v := .pointer (some ⟨bk18, fk18 + k * 1, none⟩)) rfl rfl rfl (run_idxQ (p := pB) (cap := cB) (n := bt.length) (j := .i64) (k := k) (sz := 1) rfl Try.underlying26 (by kernel_rfl) (by kernel_rfl) hp18 (by kernel_rfl) (by omega)) ?_
            refine vv (i := 4) (v := .int .u8 ((bb.toNat : Nat) : Int)) rfl rfl rfl (yb_old (off := fk18 + k * 1) rfl (by kernel_rfl) hc18 lt18 Try.underlying5 rfl) ?_
            refine vp (i := 5) (v := .int .u8 (((bb.toNat % 3) : Nat) : Int)) rfl rfl rfl (run_bin rfl (vx := (.int .u8 ((bb.toNat : Nat) : Int))) (vy := (.int .u8 ((3 : Nat) : Int))) (by kernel_rfl) (by kernel_rfl) fun w => bn_rem (z := (bb.toNat % 3)) rfl (by omega) w) ?_
            refine vm (i := 6) (v := .slice pB bt.length cB) rfl rfl rfl ?_
            refine vm (i := 7) (v := .int .i64 ((k : Nat) : Int)) rfl rfl rfl ?_
            refine vp (i := 8) (v := .pointer (some ⟨bk18, fk18 + k * 1, none⟩)) rfl rfl rfl (run_idxQ (p := pB) (cap := cB) (n := bt.length) (j := .i64) (k := k) (sz := 1) rfl Try.underlying26 (by kernel_rfl) (by kernel_rfl) hp18 (by kernel_rfl) (by omega)) ?_
            refine vv (i := 9) (v := .int .u8 ((bb.toNat : Nat) : Int)) rfl rfl rfl (yb_old (off := fk18 + k * 1) rfl (by kernel_rfl) hc18 lt18 Try.underlying5 rfl) ?_
            refine vp (i := 10) (v := .int .u8 (((bb.toNat % 3) : Nat) : Int)) rfl rfl rfl (run_bin rfl (vx := (.int .u8 ((bb.toNat : Nat) : Int))) (vy := (.int .u8 ((3 : Nat) : Int))) (by kernel_rfl) (by kernel_rfl) fun w => bn_rem (z := (bb.toNat % 3)) rfl (by omega) w) ?_
            refine vp (i := 11) (v := .int .u8 ((((bb.toNat % 3) + 1) : Nat) : Int)) rfl rfl rfl (run_bin rfl (vx := (.int .u8 (((bb.toNat % 3) : Nat) : Int))) (vy := (.int .u8 ((1 : Nat) : Int))) (by kernel_rfl) (by kernel_rfl) fun w => bn_add (z := ((bb.toNat % 3) + 1)) rfl (wr_u8 (by omega)) w) ?_
            obtain ⟨g, hg1, hg2⟩ := gap_at (m := (bb.toNat % 3)) (by omega)
            refine vp (i := 12) (v := strV [g]) rfl rfl rfl (run_slT (k1 := .u8) (k2 := .u8) (l := [10, 13, 32]) (r := [g]) (i := (bb.toNat % 3)) (j := ((bb.toNat % 3) + 1)) rfl Try.underlying9 (by kernel_rfl) (by kernel_rfl) (by kernel_rfl) (by omega) (by first | omega | (simp; omega)) hg2) ?_
            refine vm (i := 13) (v := .slice pB bt.length cB) rfl rfl rfl ?_
            refine vm (i := 14) (v := .int .i64 ((k : Nat) : Int)) rfl rfl rfl ?_
            refine vp (i := 15) (v := .pointer (some ⟨bk18, fk18 + k * 1, none⟩)) rfl rfl rfl (run_idxQ (p := pB) (cap := cB) (n := bt.length) (j := .i64) (k := k) (sz := 1) rfl Try.underlying26 (by kernel_rfl) (by kernel_rfl) hp18 (by kernel_rfl) (by omega)) ?_
            refine vv (i := 16) (v := .int .u8 ((bb.toNat : Nat) : Int)) rfl rfl rfl (yb_old (off := fk18 + k * 1) rfl (by kernel_rfl) hc18 lt18 Try.underlying5 rfl) ?_
            refine vp (i := 17) (v := .int .u8 (((bb.toNat / 3) : Nat) : Int)) rfl rfl rfl (run_bin rfl (vx := (.int .u8 ((bb.toNat : Nat) : Int))) (vy := (.int .u8 ((3 : Nat) : Int))) (by kernel_rfl) (by kernel_rfl) fun w => bn_quo (z := (bb.toNat / 3)) rfl (by omega) (wr_u8 (by omega)) w) ?_
            refine vp (i := 18) (v := .int .i64 (((bb.toNat / 3) : Nat) : Int)) rfl rfl rfl (run_conv rfl (vx := (.int .u8 (((bb.toNat / 3) : Nat) : Int))) (by kernel_rfl) fun w => cv_int Try.underlying5 Try.underlying3 (wr_i64 (by omega)) w) ?_
            refine vv (i := 19) (v := strV (Lib.repeatL [g] (bb.toNat / 3))) rfl rfl rfl (yb_call (f := 17) (args := #[strV [g], .int .i64 (((bb.toNat / 3) : Nat) : Int)]) (fun _ => by kernel_rfl) fun W hW => rep_any g (bb.toNat / 3) (by omega) W) ?_
            refine vp (i := 20) (v := strV (lo ++ (Lib.repeatL [g] (bb.toNat / 3)))) rfl rfl rfl (run_bin rfl (vx := strV lo) (vy := strV (Lib.repeatL [g] (bb.toNat / 3))) (by kernel_rfl) (by kernel_rfl) fun w => bs_add (c := (lo ++ (Lib.repeatL [g] (bb.toNat / 3)))) rfl (by have z := repL_len; first | (simp only [List.length_append, List.length_cons, List.length_nil, repL_len]; omega) | omega) w) ?_
            refine vm (i := 21) (v := strV (lo ++ (Lib.repeatL [g] (bb.toNat / 3)))) rfl rfl rfl ?_
            refine wpV_done (by kernel_rfl) (fun W24 hW24 => ?_) _
            refine (show Code.wp _ _ _ _ _ from ?_)
            refine wp_seq ?_
            refine wp_region_L (W0 := W8) [] (hW24) ?_
            refine lm (v := .slice p1 A1.length c1) rfl rfl ?_
            refine lm (v := .int .i64 ((k : Nat) : Int)) rfl rfl ?_
            refine lm (v := .int .i64 ((k : Nat) : Int)) rfl rfl ?_
            refine lp (v := .int .i64 (((k + 1) : Nat) : Int)) rfl rfl (run_bin rfl (vx := (.int .i64 ((k : Nat) : Int))) (vy := (.int .i64 ((1 : Nat) : Int))) (by kernel_rfl) (by kernel_rfl) fun w => bn_add (z := (k + 1)) rfl (wr_i64 (by omega)) w) ?_
            obtain ⟨y19, q19, d19, b19, f19, hy19, HY19, hp19, lt19, hc19⟩ := lvp_lst (k := k) HB7.out (by omega)
            have ry19 := all_at r1 hy19
            have ly19 := wrS_made (A := A) hsm (by rw [← hA1]; exact hy19)
            have wv19 := writeV_one ry19 (by omega)
            have H119 := Lib.hid (lvp_one HB7.out hy19 hp19)
            refine lp (v := .slice (some ⟨b19, f19 + k * 1, none⟩) 1 (c1 - k)) rfl rfl (run_slS (k1 := .i64) (k2 := .i64) (i := k) (j := (k + 1)) (b := b19) (off := f19) (n := A1.length) (cap := c1) rfl Try.underlying24 (by kernel_rfl) (by rw [← hp19]; kernel_rfl) (by kernel_rfl) (by kernel_rfl) (by omega) (by omega) (by omega)) ?_
            refine lv (v := .tuple #[strV (wrS y19), .int .i64 0]) rfl rfl (yb_call (f := 14) (args := #[.slice (some ⟨b19, f19 + k * 1, none⟩) 1 (c1 - k)]) (fun _ => by kernel_rfl) fun W hW => (by have z := PWrite_any ([y19] : List Sgm) (some ⟨b19, f19 + k * 1, none⟩) (c1 - k) W (H119.out.keep ElR.keeps hW.1); rw [wv19] at z; exact z)) ?_
            refine lm (v := .tuple #[strV (wrS y19), .int .i64 0]) rfl rfl ?_
            refine lm (v := strV (wrS y19)) rfl rfl ?_
            refine lm (v := .int .i64 0) rfl rfl ?_
            refine lm (v := strV (wrS y19)) rfl rfl ?_
            refine lm (v := .int .i64 0) rfl rfl ?_
            refine wpL_done (fun W25 hW25 => ?_)
            refine (show Code.wp _ _ _ _ _ from ?_)
            refine wp_seq ?_
            refine wp_seq ?_
            refine wp_region_L (W0 := W8) [] (hW25) ?_
            refine lm (v := .int .i64 0) rfl rfl ?_
            refine lm (v := .bool false) rfl rfl ?_
            refine lm (v := .bool false) rfl rfl ?_
            refine lm (v := .slice p1 A1.length c1) rfl rfl ?_
            refine lm (v := .int .i64 ((k : Nat) : Int)) rfl rfl ?_
            obtain ⟨y20, p20, c20, b20, f20, hy20, HY20, hp20, lt20, hc20⟩ := lvp_lst (k := k) HB7.out (by omega)
            have HY20 := Lib.hid HY20
            refine lp (v := .pointer (some ⟨b20, f20 + k * 1, none⟩)) rfl rfl (run_idxQ (p := p1) (cap := c1) (n := A1.length) (j := .i64) (k := k) (sz := 1) rfl Try.underlying24 (by kernel_rfl) (by kernel_rfl) hp20 (by kernel_rfl) (by omega)) ?_
            obtain rfl : y19 = y20 := Option.some.inj (hy19.symm.trans hy20)
            refine lv (v := .slice p20 y19.length c20) rfl rfl (yb_old (off := f20 + k * 1) rfl (by kernel_rfl) hc20 lt20 Try.underlying37 rfl) ?_
            refine lv (v := .bool true) rfl rfl (yb_call (f := 18) (args := #[.slice p20 y19.length c20]) (fun _ => by kernel_rfl) fun W hW => (by have z := PRight_any y19 p20 c20 W (HY20.out.keep TxR.keeps hW.1); rw [ry19] at z; exact z)) ?_
            refine lm (v := .bool false) rfl rfl ?_
            refine lm (v := .bool false) rfl rfl ?_
            refine wpL_done (fun W26 hW26 => ?_)
            refine (show Code.wp _ _ _ _ _ from ?_)
            refine wp_cond_false rfl ?_
            refine wp_skip ?_
            refine (show Code.wp _ _ _ _ _ from ?_)
            refine wp_region_L (W0 := W8) [] (hW26) ?_
            refine lm (v := strV (lo ++ (Lib.repeatL [g] (bb.toNat / 3)))) rfl rfl ?_
            refine lm (v := strV (wrS y19)) rfl rfl ?_
            refine lp (v := strV ((lo ++ (Lib.repeatL [g] (bb.toNat / 3))) ++ (wrS y19))) rfl rfl (run_bin rfl (vx := strV (lo ++ (Lib.repeatL [g] (bb.toNat / 3)))) (vy := strV (wrS y19)) (by kernel_rfl) (by kernel_rfl) fun w => bs_add (c := ((lo ++ (Lib.repeatL [g] (bb.toNat / 3))) ++ (wrS y19))) rfl (by have z := repL_len; first | (simp only [List.length_append, List.length_cons, List.length_nil, repL_len]; omega) | omega) w) ?_
            refine lm (v := strV ((lo ++ (Lib.repeatL [g] (bb.toNat / 3))) ++ (wrS y19))) rfl rfl ?_
            refine wpL_done (fun W27 hW27 => ?_)
            refine (show Code.wp _ _ _ _ _ from ?_)
            refine wp_region_L (W0 := W8) [] (hW27) ?_
            refine lm (v := .int .i64 ((k : Nat) : Int)) rfl rfl ?_
            refine lp (v := .int .i64 (((k + 1) : Nat) : Int)) rfl rfl (run_bin rfl (vx := (.int .i64 ((k : Nat) : Int))) (vy := (.int .i64 ((1 : Nat) : Int))) (by kernel_rfl) (by kernel_rfl) fun w => bn_add (z := (k + 1)) rfl (wr_i64 (by omega)) w) ?_
            refine lm (v := .int .i64 (((k + 1) : Nat) : Int)) rfl rfl ?_
            refine wpL_done (fun W28 hW28 => ?_)
            go_roundw
            case rel =>
              repeat apply Exists.intro
              exact ⟨⟨k + 1, ((lo ++ (Lib.repeatL [g] (bb.toNat / 3))) ++ (wrS y19)), (by omega), (loose_seg r1 (by omega) hy19 (loose_gap (gap_rep hg1 _) hlo)), (by have z := repL_len g (bb.toNat / 3); simp only [List.length_append]; omega), rfl, rfl, (hW28.sub (fun p hp => by first | exact hp | (simp only [List.mem_cons, List.mem_append, List.nil_append, List.not_mem_nil, or_assoc, or_false, false_or, List.cons_append, List.append_assoc] at hp ⊢ <;> grind)))⟩, rfl⟩
            case measure => (show A1.length - (intOf (.int .i64 (((k + 1) : Nat) : Int))).toNat < A1.length - (intOf (.int .i64 ((k : Nat) : Int))).toNat); simp only [intOf]; omega
    | true =>
      have h2 : 300 < bt.length := of_decide_eq_true hd2
      clear hd2
      refine wp_cond_true rfl ?_
      refine wp_seq ?_
      refine wp_region_L (W0 := w) [] (hW5) ?_
      refine lm (v := .bool true) rfl rfl ?_
      refine wpL_done (fun W29 hW29 => ?_)
      refine (show Code.wp _ _ _ _ _ from ?_)
      refine wp_ret ?_
      try simp only [inBlock_ret, then_ret]
      refine bodyPost_ret (v := .bool true) ?_ rfl ?_
      · kernel_rfl
      · exact ⟨rfl, (hW29).1⟩
end Go.Proofs.Ytppegdbelgobiaa
/- LexBack holds for every input of bulk at most 1048576 (values and letters, each counted each time it is reached): the program's own answer is true; each argument reads afterwards as it read before. -/
namespace Go.Proofs.Ytppegdbelgobiaa
open Go.ChangeShapes Go.WideShapes Go.ChangeAt Go.RowKit Tw
set_option maxRecDepth 100000 in
theorem lexBack_lifted (os : Os) (started : os.Started) (H : Type) (enc : TypeId × Value → H) (F : Stop.Interp) :
    ReturnsInHanded {} Try.checked os 5 .any ((Rows.OpenSpec.upto Rows.lexBackSpec).pre6 enc Try.prog Try.f5 Rows.lexBackUptoRow.domain false) (((Rows.OpenSpec.upto Rows.lexBackSpec).at F).post enc Try.prog Try.f5 false true false false) := by
  refine returnsInHanded_of_cond (C := Try.checked) (s := Rows.OpenSpec.upto Rows.lexBackSpec) (k := Rows.uptoSmall) rfl own started (by kernel_rfl) Try.func5
    (OpenSpec.witness (enc := enc) (C := Try.checked) (s := Rows.OpenSpec.upto Rows.lexBackSpec) (k := Rows.uptoSmall) rfl false ⟨#[], #[.slice none 0 0, .slice none 0 0], []⟩ 8 (by kernel_rfl) (by kernel_rfl) (by kernel_rfl)
      (x := ([.nil, .nil], [], [])) (by kernel_rfl) rfl (by kernel_rfl)) ?_
  intro W base args ds gs before hval0 hW _ hk _
  have hval : ∀ (j : Nat) t v, Try.f5.params[j]? = some t → args[j]? = some v → Value.okWide Try.prog W .any base t v := hval0
  have hW2 := hW
  obtain ⟨p, q, hA0, hV, rfl, hfz, hnd⟩ := hW2
  have hA : DataW.TrodAll enc Try.prog W 0 (fun _ => true) true Try.f5.params.toList args.toList ds p := hA0
  rw [Try.params5] at hA hval
  obtain ⟨v0, vs0, d0, ds0, p0, q0, hargs, rfl, rfl, h0, r0⟩ := trodAll_cons hA
  obtain ⟨v1, vs1, d1, ds1, p1, q1, rfl, rfl, rfl, h1, r1⟩ := trodAll_cons r0
  obtain ⟨rfl, rfl, rfl⟩ := trodAll_nil r1
  obtain rfl : args = #[v0, v1] := by cases args; simp_all
  obtain ⟨rfl, rfl⟩ := trodVars_none hV
  have hk2 := of_decide_eq_true hk
  simp only [List.cons_append, List.nil_append, Rows.uptoBulkAll] at hk2
  have k0 := h0
  have lt0 : ∀ x ∈ p0, x.block < W.heap.size := by obtain ⟨m, hm⟩ := k0; exact DataW.trod_lt m _ _ _ hm
  obtain ⟨p0_, c0, l0, rfl, hb0, sz0⟩ := openb_segs (hval 0 24 v0 rfl rfl) h0
  have k1 := h1
  have lt1 : ∀ x ∈ p1, x.block < W.heap.size := by obtain ⟨m, hm⟩ := k1; exact DataW.trod_lt m _ _ _ hm
  obtain ⟨p1_, c1, l1, rfl, hb1⟩ := openb_by (hval 1 26 v1 rfl rfl) h1
  clear hA0 hval0
  refine (LexBack_law W l0 p0_ c0 hb0 (by omega) l1 p1_ c1 hb1).mono fun e W' ⟨he, bel⟩ => ?_
  subst he
  exact ⟨_, rfl, _, _, _, [], _, [], hW, (trodAll_cons_mk (shut_bool Try.underlying4 _) trodAll_mk0), (trodAll_cons_mk (Below.trod laidOut (by kernel_rfl) (of_decide_eq_true (by kernel_rfl)) k0 bel lt0) (trodAll_cons_mk (Below.trod laidOut (by kernel_rfl) (of_decide_eq_true (by kernel_rfl)) k1 bel lt1) trodAll_mk0)), rfl, bel.frame _, fun h => by cases h⟩
theorem lexBack_proved : Rows.LexBackUptoSaid :=
  OpenClaim.holds_of_cond 5 Try.f5 rfl rfl rfl rfl rfl rfl rfl ⟨rfl, rfl, rfl, rfl, rfl⟩ rfl rfl rfl rfl rfl (by kernel_rfl) Try.func5 (by kernel_rfl)
    (of_decide_eq_true (by kernel_rfl)) (by unfold Func.isWrapper; first | (rw [if_pos (by decide +kernel)]; kernel_rfl) | (rw [if_neg (by decide +kernel)]; exact ⟨rfl, rfl⟩))
    (fun os started H enc _ F => lexBack_lifted os started H enc F)
#print axioms lexBack_proved
end Go.Proofs.Ytppegdbelgobiaa

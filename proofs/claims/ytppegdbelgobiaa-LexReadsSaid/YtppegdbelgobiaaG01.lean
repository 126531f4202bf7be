import Derived.Test.YtppegdbelgobiaaG00
/- Part of the proof: Lb, Lf, Lg, Lc, Lh, Lm. -/
set_option linter.unusedVariables false
set_option linter.unusedSimpArgs false
set_option linter.unusedSectionVars false
/- What is read is right, and is written with no more bytes; where errors are. Plain. -/
namespace Go.Proofs.Ytppegdbelgobiaa
open Go
def lenC (c : Cmp) : Nat := (relC c).length
def sumL (l : List Cmp) : Nat := (l.map fun c => lenC c + 1).sum
def extC (c : Cmp) : Nat := match c with | [] => 0 | b :: _ => if b.toNat = 32 then 1 else 0
def extL (l : List Cmp) : Nat := match l with | [] => 0 | c :: _ => extC c
theorem relC_append (a b : Cmp) : relC (a ++ b) = relC a ++ relC b := by
  induction a with
  | nil => rfl
  | cons x a ih => simp [relC, ih]
theorem svc_not {b : UInt8} (h : b.toNat = 32) : svc b = false := by
  unfold svc
  simp
  omega
theorem relF_len (c : Cmp) : (relF c).length = lenC c + extC c := by
  match c with
  | [] => rfl
  | b :: l =>
    show ((if (svc b || decide (b.toNat = 32)) = true then [63, b] else [b]) ++ relC l).length = ((if svc b = true then [63, b] else [b]) ++ relC l).length + (if b.toNat = 32 then 1 else 0)
    by_cases h : b.toNat = 32
    · rw [svc_not h]
      simp [h]
    · by_cases hs : svc b = true
      · rw [hs]
        simp [h]
      · rw [if_neg (by simp [h, hs]), if_neg hs, if_neg h]
        simp
theorem sumL_append (a b : List Cmp) : sumL (a ++ b) = sumL a + sumL b := by simp [sumL]
theorem sumL_one (c : Cmp) : sumL [c] = lenC c + 1 := by simp [sumL]
theorem moreC_len (l : List Cmp) : (moreC l).length = sumL l := by
  induction l with
  | nil => rfl
  | cons c l ih =>
    rw [show c :: l = [c] ++ l from rfl, sumL_append, sumL_one, ← ih]
    simp [moreC, lenC]
    omega
theorem wrE_len {e : Elt} (h : e ≠ []) : (wrE e).length + 1 = sumL e := by
  match e, h with
  | c :: l, _ =>
    rw [show c :: l = [c] ++ l from rfl, sumL_append, sumL_one, ← moreC_len]
    simp [wrE, lenC]
    omega
theorem moreE_len {l : List Elt} (h : ∀ e ∈ l, e ≠ []) : (moreE l).length = sumL l.flatten := by
  induction l with
  | nil => rfl
  | cons e l ih =>
    have h1 := wrE_len (h e (.head _))
    rw [List.flatten_cons, sumL_append, ← ih (fun x hx => h x (.tail _ hx)), ← h1]
    simp [moreE]
    omega
theorem wrS_len {s : Sgm} (hs : s ≠ []) (h : ∀ e ∈ s, e ≠ []) : (wrS s).length = sumL s.flatten + extL s.flatten := by
  match s, hs with
  | e :: l, _ =>
    match e, h e (.head _) with
    | c :: m, _ =>
      have h1 := moreE_len (l := l) (fun x hx => h x (.tail _ hx))
      rw [List.flatten_cons, show (c :: m) ++ l.flatten = [c] ++ (m ++ l.flatten) from by simp, sumL_append, sumL_append, sumL_one, ← h1, ← moreC_len]
      simp [wrS, wrF, relF_len, extL]
      omega
def opn (es : List Elt) (cs : List Cmp) (c : Cmp) : List Cmp := es.flatten ++ cs ++ [c]
theorem opn_len {es : List Elt} {cs : List Cmp} {c : Cmp} (h : ∀ e ∈ es, e ≠ []) : (wrS (es ++ [cs ++ [c]])).length = sumL (opn es cs c) + extL (opn es cs c) := by
  rw [wrS_len (by simp) (by intro e he; rcases List.mem_append.1 he with h1 | h1; exact h e h1; simp at h1; rw [h1]; simp)]
  unfold opn
  simp
structure InR (es : List Elt) (cs : List Cmp) (c : Cmp) : Prop where
  es1 : es.all rightE = true
  es2 : es.length ≤ 29
  cs1 : cs.all rightC = true
  cs2 : cs.length ≤ 9
  c1 : rightC c = true
theorem right_ne {es : List Elt} (h : es.all rightE = true) : ∀ e ∈ es, e ≠ [] := by
  intro e he hn
  have := List.all_eq_true.1 h e he
  subst hn
  simp [rightE] at this
theorem InR.elt {es : List Elt} {cs : List Cmp} {c : Cmp} (h : InR es cs c) : rightE (cs ++ [c]) = true := by
  have h1 := h.cs2
  unfold rightE
  simp only [Bool.and_eq_true, decide_eq_true_eq, List.length_append, List.length_singleton, List.all_append, List.all_cons, List.all_nil, h.cs1, h.c1]
  refine ⟨⟨by omega, by omega⟩, ?_⟩
  simp
theorem InR.sgm {es : List Elt} {cs : List Cmp} {c : Cmp} (h : InR es cs c) : rightS (es ++ [cs ++ [c]]) = true := by
  have h1 := h.es2
  unfold rightS
  simp only [Bool.and_eq_true, decide_eq_true_eq, List.length_append, List.length_singleton, List.all_append, List.all_cons, List.all_nil, h.es1, h.elt]
  refine ⟨⟨by omega, by omega⟩, ?_⟩
  simp
theorem InR.elem {es : List Elt} {cs : List Cmp} {c : Cmp} (h : InR es cs c) (hn : es.length < 29) : InR (es ++ [cs ++ [c]]) [] [] :=
  ⟨by simp only [List.all_append, List.all_cons, List.all_nil, h.es1, h.elt, Bool.and_self], by simp; omega, rfl, by simp, rfl⟩
theorem InR.comp {es : List Elt} {cs : List Cmp} {c : Cmp} (h : InR es cs c) (hn : cs.length < 9) : InR es (cs ++ [c]) [] :=
  ⟨h.es1, h.es2, by simp only [List.all_append, List.all_cons, List.all_nil, h.cs1, h.c1, Bool.and_self], by simp; omega, rfl⟩
theorem InR.byte {es : List Elt} {cs : List Cmp} {c : Cmp} {b : UInt8} (h : InR es cs c) (hn : c.length < 100) (hb : may b = true) : InR es cs (c ++ [b]) := by
  refine ⟨h.es1, h.es2, h.cs1, h.cs2, ?_⟩
  have h1 := h.c1
  unfold rightC at h1 ⊢
  simp only [Bool.and_eq_true, decide_eq_true_eq] at h1 ⊢
  simp only [List.length_append, List.length_singleton, List.all_append, List.all_cons, List.all_nil, h1.2, hb, Bool.and_self, and_true]
  omega
theorem InR.nil : InR [] [] [] := ⟨rfl, by simp, rfl, by simp, rfl⟩
def InvS (i : Nat) : Sta → Prop
  | ⟨segs, .out⟩ => segs.all rightS = true ∧ segs.length ≤ 5000 ∧ (wrL segs).length ≤ i
  | ⟨segs, .ins es cs c⟩ => segs.all rightS = true ∧ segs.length < 5000 ∧ InR es cs c ∧ opn es cs c ≠ [[]] ∧ (wrL segs).length + (sumL (opn es cs c) + extL (opn es cs c)) ≤ i + 1
  | ⟨segs, .rel p es cs c⟩ => segs.all rightS = true ∧ segs.length < 5000 ∧ InR es cs c ∧ p + 1 = i ∧ (wrL segs).length + (sumL (opn es cs c) + extL (opn es cs c)) ≤ p + 1
theorem wrL_snoc (segs : List Sgm) (s : Sgm) : (wrL (segs ++ [s])).length = (wrL segs).length + (wrS s).length := by simp [wrL]
theorem all_snoc {α : Type} {f : α → Bool} {l : List α} {x : α} (h1 : l.all f = true) (h2 : f x = true) : (l ++ [x]).all f = true := by simp [List.all_append, h1, h2]
theorem opn_comp (es : List Elt) (cs : List Cmp) (c : Cmp) : opn es (cs ++ [c]) [] = opn es cs c ++ [[]] := by simp [opn]
theorem opn_elem (es : List Elt) (cs : List Cmp) (c : Cmp) : opn (es ++ [cs ++ [c]]) [] [] = opn es cs c ++ [[]] := by simp [opn]
theorem opn_ne (es : List Elt) (cs : List Cmp) (c : Cmp) : opn es cs c ≠ [] := by simp [opn]
theorem extL_snoc {l m : List Cmp} (h : l ≠ []) : extL (l ++ m) = extL l := by
  match l, h with
  | c :: l, _ => rfl
theorem lenC_nil : lenC [] = 0 := rfl
theorem grow_len {es : List Elt} {cs : List Cmp} {c : Cmp} : sumL (opn es cs c ++ [[]]) + extL (opn es cs c ++ [[]]) = sumL (opn es cs c) + extL (opn es cs c) + 1 := by
  rw [sumL_append, extL_snoc (opn_ne es cs c), sumL_one, lenC_nil]
  omega
theorem lenC_snoc (c : Cmp) (b : UInt8) : lenC (c ++ [b]) = lenC c + (if svc b = true then 2 else 1) := by
  unfold lenC
  rw [relC_append]
  simp only [List.length_append, relC, List.append_nil]
  split <;> rfl
theorem opn_byte (es : List Elt) (cs : List Cmp) (c : Cmp) (b : UInt8) : sumL (opn es cs (c ++ [b])) = sumL (opn es cs c) + (if svc b = true then 2 else 1) := by
  unfold opn
  simp only [sumL_append, sumL_one, lenC_snoc]
  omega
theorem ext_byte (es : List Elt) (cs : List Cmp) (c : Cmp) (b : UInt8) (h : opn es cs c ≠ [[]]) : extL (opn es cs (c ++ [b])) = extL (opn es cs c) := by
  unfold opn at h ⊢
  match es.flatten ++ cs, h with
  | [], h =>
    match c, h with
    | [], h => exact absurd rfl h
    | x :: c, _ => rfl
  | d :: l, _ => rfl
theorem ext_first (es : List Elt) (cs : List Cmp) (c : Cmp) (b : UInt8) (h : opn es cs c = [[]]) : extL (opn es cs c) = 0 ∧ extL (opn es cs (c ++ [b])) = if b.toNat = 32 then 1 else 0 := by
  unfold opn at h ⊢
  match hl : es.flatten ++ cs, h with
  | [], h =>
    rw [List.nil_append] at h
    cases h
    exact ⟨rfl, rfl⟩
  | d :: l, h => simp at h
theorem opn_grow_ne (es : List Elt) (cs : List Cmp) (c : Cmp) : opn es cs c ++ [[]] ≠ [[]] := by
  intro h
  have := congrArg List.length h
  simp [opn] at this
  omega
theorem opn_byte_ne (es : List Elt) (cs : List Cmp) (c : Cmp) (b : UInt8) : opn es cs (c ++ [b]) ≠ [[]] := by
  intro h
  have := congrArg List.getLast? h
  simp [opn] at this
theorem inside_inv {i b : Nat} {x : UInt8} {segs : List Sgm} {es : List Elt} {cs : List Cmp} {c : Cmp} {s' : Sta} (h1 : segs.all rightS = true) (h2 : segs.length < 5000) (h3 : InR es cs c) (h4 : opn es cs c ≠ [[]] ∨ x.toNat ≠ 32)
    (h5 : (wrL segs).length + (sumL (opn es cs c) + extL (opn es cs c)) ≤ i + 1) (h : inside i x segs es cs c = .ok s') : InvS (i + 1) s' := by
  unfold inside at h
  split at h
  · cases h
  · rename_i hm
    have hm : may x = true := by simpa using hm
    split at h
    · cases h
      refine ⟨all_snoc h1 h3.sgm, by simp; omega, ?_⟩
      rw [wrL_snoc, opn_len (right_ne h3.es1)]
      omega
    · rename_i n39
      split at h
      · split at h
        · cases h
        · cases h
          refine ⟨h1, h2, h3.elem (by omega), by rw [opn_elem]; exact opn_grow_ne _ _ _, ?_⟩
          rw [opn_elem, grow_len]
          omega
      · rename_i n43
        split at h
        · split at h
          · cases h
          · cases h
            refine ⟨h1, h2, h3.comp (by omega), by rw [opn_comp]; exact opn_grow_ne _ _ _, ?_⟩
            rw [opn_comp, grow_len]
            omega
        · rename_i n58
          split at h
          · cases h
            exact ⟨h1, h2, h3, rfl, h5⟩
          · rename_i n63
            unfold putc at h
            split at h
            · cases h
            · cases h
              have hs : ¬ svc x = true := by
                unfold svc
                simp
                omega
              refine ⟨h1, h2, h3.byte (by omega) hm, opn_byte_ne _ _ _ _, ?_⟩
              rw [opn_byte, if_neg hs]
              rcases h4 with h4 | h4
              · rw [ext_byte _ _ _ _ h4]
                omega
              · by_cases ho : opn es cs c = [[]]
                · obtain ⟨e1, e2⟩ := ext_first es cs c x ho
                  rw [e2, if_neg h4]
                  omega
                · rw [ext_byte _ _ _ _ ho]
                  omega
theorem step_inv {i : Nat} {x : UInt8} {s s' : Sta} (hI : InvS i s) (h : step i x s = .ok s') : InvS (i + 1) s' := by
  obtain ⟨segs, md⟩ := s
  match md, hI, h with
  | .out, hI, h =>
    unfold step at h
    simp only at h
    split at h
    · cases h
      obtain ⟨h1, h2, h3⟩ := hI
      exact ⟨h1, h2, by omega⟩
    · rename_i hg
      split at h
      · cases h
      · obtain ⟨h1, h2, h3⟩ := hI
        refine inside_inv (b := 0) h1 (by omega) InR.nil (.inr ?_) ?_ h
        · unfold gap at hg
          simp at hg
          omega
        · show _ + (sumL [[]] + extL [[]]) ≤ _
          show _ + (1 + 0) ≤ _
          omega
  | .ins es cs c, hI, h =>
    obtain ⟨h1, h2, h3, h4, h5⟩ := hI
    exact inside_inv (b := 0) h1 h2 h3 (.inl h4) h5 h
  | .rel p es cs c, hI, h =>
    obtain ⟨h1, h2, h3, h4, h5⟩ := hI
    unfold step at h
    simp only at h
    split at h
    · rename_i hs
      unfold putc at h
      split at h
      · cases h
      · cases h
        have hm : may x = true := by
          unfold svc at hs
          unfold may
          simp at hs ⊢
          omega
        refine ⟨h1, h2, h3.byte (by omega) hm, opn_byte_ne _ _ _ _, ?_⟩
        rw [opn_byte]
        by_cases ho : opn es cs c = [[]]
        · obtain ⟨e1, e2⟩ := ext_first es cs c x ho
          rw [e2]
          by_cases hb : x.toNat = 32
          · rw [svc_not hb, if_pos hb, if_neg (by simp)]
            omega
          · rw [if_neg hb]
            split <;> omega
        · rw [ext_byte _ _ _ _ ho]
          split <;> omega
    · cases h
theorem run_inv : ∀ (l : List UInt8) (i : Nat) {s s' : Sta}, InvS i s → runS i l s = .ok s' → InvS (i + l.length) s' := by
  intro l
  induction l with
  | nil => intro i s s' h hr; cases hr; exact h
  | cons b l ih =>
    intro i s s' h hr
    unfold runS at hr
    cases hs : step i b s with
    | bad p e => rw [hs] at hr; cases hr
    | ok s1 =>
      rw [hs] at hr
      have := ih (i + 1) (step_inv h hs) hr
      rwa [show i + 1 + l.length = i + (b :: l).length from by simp; omega] at this
theorem inv_start : InvS 0 ⟨[], .out⟩ := ⟨rfl, by simp, by simp [wrL]⟩
theorem read_long {l : List UInt8} {a : List Sgm} (h : readT l = .ok a) : l.length ≤ 65536 := by
  unfold readT at h
  split at h
  · cases h
  · omega
theorem read_run {l : List UInt8} {a : List Sgm} (h : readT l = .ok a) : runS 0 l ⟨[], .out⟩ = .ok ⟨a, .out⟩ := by
  unfold readT at h
  split at h
  · cases h
  · match hr : runS 0 l ⟨[], .out⟩, h with
    | .bad p e, h => simp only [endS] at h; cases h
    | .ok ⟨segs, .out⟩, h => simp only [endS] at h; cases h; rfl
    | .ok ⟨segs, .ins es cs c⟩, h => simp only [endS] at h; cases h
    | .ok ⟨segs, .rel p es cs c⟩, h => simp only [endS] at h; cases h
theorem read_right {l : List UInt8} {a : List Sgm} (h : readT l = .ok a) : a.all rightS = true ∧ a.length ≤ 5000 ∧ (wrL a).length ≤ l.length := by
  have h2 := run_inv l 0 inv_start (read_run h)
  rw [Nat.zero_add] at h2
  exact h2
theorem read_again {l : List UInt8} {a : List Sgm} (h : readT l = .ok a) : writeT a = .ok (wrL a) ∧ readT (wrL a) = .ok a := by
  obtain ⟨h1, h2, h3⟩ := read_right h
  have h4 := read_long h
  refine ⟨?_, read_back h1 h2 (by omega)⟩
  unfold writeT
  rw [if_neg (by omega), if_neg (by rw [h1]; simp), if_neg (by omega)]
end Go.Proofs.Ytppegdbelgobiaa
namespace Go.Proofs.Ytppegdbelgobiaa
open Go Go.RowKit Tw
theorem bool_is {b c : Bool} (h : b = c) : Ending.returned (.bool b) = .returned (.bool c) := by rw [h]
set_option maxRecDepth 100000 in
set_option maxHeartbeats 4000000 in
theorem sameT_any (A B : List (List UInt8)) (pA pB : Option Addr) (cA cB : Nat) (lA : A.length ≤ 4000000000) (w : World) (hA : LVp StrR w pA A) (hB : LVp StrR w pB B) : Calls Try.prog 26 #[.slice pA A.length cA, .slice pB B.length cB] w fun e w' => e = .returned (.bool (decide (A = B))) ∧ Below w.heap.size w w' := by
  have HA := Lib.hid hA
  have HB := Lib.hid hB
  clear hA hB
  go_enter Try.func26, Try.ntmps26
  refine wp_seq ?_
  refine wp_region_L (W0 := w) [] (KS.start w) ?_
  refine lm (v := .bool false) rfl rfl ?_
  refine wpL_done (fun W1 hW1 => ?_)
  refine (show Code.wp _ _ _ _ _ from ?_)
  refine wp_seq ?_
  refine wp_seq ?_
  refine wp_region_L (W0 := w) [] (hW1) ?_
  refine lm (v := .slice pA A.length cA) rfl rfl ?_
  refine lp (v := .int .i64 ((A.length : Nat) : Int)) rfl rfl (run_lenL (p := pA) (cap := cA) (n := A.length) rfl Try.underlying43 (by kernel_rfl)) ?_
  refine lm (v := .slice pB B.length cB) rfl rfl ?_
  refine lp (v := .int .i64 ((B.length : Nat) : Int)) rfl rfl (run_lenL (p := pB) (cap := cB) (n := B.length) rfl Try.underlying43 (by kernel_rfl)) ?_
  refine lp (v := .bool (!(decide (A.length = B.length)))) rfl rfl (run_bin rfl (vx := (.int .i64 ((A.length : Nat) : Int))) (vy := (.int .i64 ((B.length : Nat) : Int))) (by kernel_rfl) (by kernel_rfl) fun w => bn_neq rfl w) ?_
  refine wpL_done (fun W2 hW2 => ?_)
  refine (show Code.wp _ _ _ _ _ from ?_)
  cases hd1 : (decide (A.length = B.length)) with
  | false =>
    have h1 : ¬ (A.length = B.length) := of_decide_eq_false hd1
    clear hd1
    refine wp_cond_true rfl ?_
    refine wp_seq ?_
    refine wp_region_L (W0 := w) [] (hW2) ?_
    refine lm (v := .bool false) rfl rfl ?_
    refine wpL_done (fun W3 hW3 => ?_)
    refine (show Code.wp _ _ _ _ _ from ?_)
    refine wp_ret ?_
    try simp only [inBlock_ret, then_ret]
    refine bodyPost_ret (v := .bool false) ?_ rfl ?_
    · kernel_rfl
    · exact ⟨(bool_is (by rw [eq_comm, decide_eq_false_iff_not]; exact ne_len h1)), hW3.1⟩
  | true =>
    have h1 : A.length = B.length := of_decide_eq_true hd1
    clear hd1
    refine wp_cond_false rfl ?_
    refine wp_skip ?_
    refine (show Code.wp _ _ _ _ _ from ?_)
    refine wp_seq ?_
    refine wp_seq ?_
    refine wp_region_L (W0 := w) [] (hW2) ?_
    refine lm (v := .int .i64 0) rfl rfl ?_
    refine wpL_done (fun W4 hW4 => ?_)
    refine (show Code.wp _ _ _ _ _ from ?_)
    refine wp_block ?_
    go_loopw [5] (fun u5 wr => ∃ (k : Nat), (k ≤ A.length) ∧ (A.take k = B.take k) ∧ u5 = .int .i64 ((k : Nat) : Int) ∧ KS w [] wr) (fun u5 _ => A.length - (intOf u5).toNat)
    case atStart => exact ⟨0, (Nat.zero_le _), rfl, rfl, hW4⟩
    case round =>
      obtain ⟨k, hk, hT, rfl, hL5⟩ := hrel
      refine wp_seq ?_
      refine wp_seq ?_
      refine wp_region_L (W0 := w) [] (hL5) ?_
      refine lm (v := .int .i64 ((k : Nat) : Int)) rfl rfl ?_
      refine lm (v := .slice pA A.length cA) rfl rfl ?_
      refine lp (v := .int .i64 ((A.length : Nat) : Int)) rfl rfl (run_lenL (p := pA) (cap := cA) (n := A.length) rfl Try.underlying43 (by kernel_rfl)) ?_
      refine lp (v := .bool (decide (k < A.length))) rfl rfl (run_bin rfl (vx := (.int .i64 ((k : Nat) : Int))) (vy := (.int .i64 ((A.length : Nat) : Int))) (by kernel_rfl) (by kernel_rfl) fun w => bn_lss rfl w) ?_
      refine wpL_done (fun W6 hW6 => ?_)
      refine (show Code.wp _ _ _ _ _ from ?_)
      cases hd2 : (decide (k < A.length)) with
      | false =>
        have h2 : ¬ (k < A.length) := of_decide_eq_false hd2
        clear hd2
        refine wp_cond_false rfl ?_
        refine wp_exit ?_
        refine (show Code.wp _ _ _ _ _ from ?_)
        refine wp_seq ?_
        refine wp_region_L (W0 := w) [] (hW6) ?_
        refine lm (v := .bool true) rfl rfl ?_
        refine wpL_done (fun W7 hW7 => ?_)
        refine (show Code.wp _ _ _ _ _ from ?_)
        refine wp_ret ?_
        try simp only [inBlock_ret, then_ret]
        refine bodyPost_ret (v := .bool true) ?_ rfl ?_
        · kernel_rfl
        · exact ⟨(bool_is (by rw [eq_comm, decide_eq_true_iff]; exact eq_of_take hT h2 h1)), hW7.1⟩
      | true =>
        have h2 : k < A.length := of_decide_eq_true hd2
        clear hd2
        refine wp_cond_true rfl ?_
        refine wp_skip ?_
        refine (show Code.wp _ _ _ _ _ from ?_)
        refine wp_seq ?_
        refine wp_block ?_
        refine wp_seq ?_
        refine wp_region_V (W0 := w) [] (by kernel_rfl) (hW6) ?_
        refine vm (i := 0) (v := .slice pA A.length cA) rfl rfl rfl ?_
        refine vm (i := 1) (v := .int .i64 ((k : Nat) : Int)) rfl rfl rfl ?_
        obtain ⟨y1, b1, f1, hy1, hp1, lt1, hc1⟩ := lvp_str (k := k) HA.out (by omega)
        refine vp (i := 2) (v := .pointer (some ⟨b1, f1 + k * 1, none⟩)) rfl rfl rfl (run_idxQ (p := pA) (cap := cA) (n := A.length) (j := .i64) (k := k) (sz := 1) rfl Try.underlying43 (by kernel_rfl) (by kernel_rfl) hp1 (by kernel_rfl) (by omega)) ?_
        refine vv (i := 3) (v := strV y1) rfl rfl rfl (yb_old (off := f1 + k * 1) rfl (by kernel_rfl) hc1 lt1 Try.underlying9 rfl) ?_
        refine vm (i := 4) (v := .slice pB B.length cB) rfl rfl rfl ?_
        refine vm (i := 5) (v := .int .i64 ((k : Nat) : Int)) rfl rfl rfl ?_
        obtain ⟨y2, b2, f2, hy2, hp2, lt2, hc2⟩ := lvp_str (k := k) HB.out (by omega)
        refine vp (i := 6) (v := .pointer (some ⟨b2, f2 + k * 1, none⟩)) rfl rfl rfl (run_idxQ (p := pB) (cap := cB) (n := B.length) (j := .i64) (k := k) (sz := 1) rfl Try.underlying43 (by kernel_rfl) (by kernel_rfl) hp2 (by kernel_rfl) (by omega)) ?_
        refine vv (i := 7) (v := strV y2) rfl rfl rfl (yb_old (off := f2 + k * 1) rfl (by kernel_rfl) hc2 lt2 Try.underlying9 rfl) ?_
        refine vp (i := 8) (v := .bool (!(decide (y1 = y2)))) rfl rfl rfl (run_bin rfl (vx := strV y1) (vy := strV y2) (by kernel_rfl) (by kernel_rfl) fun w => bs_neq rfl w) ?_
        refine wpV_done (by kernel_rfl) (fun W8 hW8 => ?_) _
        refine (show Code.wp _ _ _ _ _ from ?_)
        cases hd3 : (decide (y1 = y2)) with
        | false =>
          have h3 : ¬ (y1 = y2) := of_decide_eq_false hd3
          clear hd3
          refine wp_cond_true rfl ?_
          refine wp_seq ?_
          refine wp_region_L (W0 := w) [] (hW8) ?_
          refine lm (v := .bool false) rfl rfl ?_
          refine wpL_done (fun W9 hW9 => ?_)
          refine (show Code.wp _ _ _ _ _ from ?_)
          refine wp_ret ?_
          try simp only [inBlock_ret, then_ret]
          refine bodyPost_ret (v := .bool false) ?_ rfl ?_
          · kernel_rfl
          · exact ⟨(bool_is (by rw [eq_comm, decide_eq_false_iff_not]; exact ne_at hy1 hy2 h3)), hW9.1⟩
        | true =>
          have h3 : y1 = y2 := of_decide_eq_true hd3
          clear hd3
          refine wp_cond_false rfl ?_
          refine wp_skip ?_
          refine (show Code.wp _ _ _ _ _ from ?_)
          refine wp_region_L (W0 := w) [] (hW8) ?_
          refine lm (v := .int .i64 ((k : Nat) : Int)) rfl rfl ?_
          refine lp (v := .int .i64 (((k + 1) : Nat) : Int)) rfl rfl (run_bin rfl (vx := (.int .i64 ((k : Nat) : Int))) (vy := (.int .i64 ((1 : Nat) : Int))) (by kernel_rfl) (by kernel_rfl) fun w => bn_add (z := (k + 1)) rfl (wr_i64 (by omega)) w) ?_
          refine lm (v := .int .i64 (((k + 1) : Nat) : Int)) rfl rfl ?_
          refine wpL_done (fun W10 hW10 => ?_)
          go_roundw
          case rel =>
            repeat apply Exists.intro
            exact ⟨⟨k + 1, (by omega), (take_snoc_eq hT hy1 hy2 h3), rfl, hW10⟩, rfl⟩
          case measure => (show A.length - (intOf (.int .i64 (((k + 1) : Nat) : Int))).toNat < A.length - (intOf (.int .i64 ((k : Nat) : Int))).toNat); simp only [intOf]; omega
set_option maxRecDepth 100000 in
set_option maxHeartbeats 4000000 in
theorem same_any (A B : List (List (List (List UInt8)))) (pA pB : Option Addr) (cA cB : Nat) (lA : A.length ≤ 4000000000) (lE : ∀ y ∈ A, y.length ≤ 4000000000 ∧ ∀ z ∈ y, z.length ≤ 4000000000) (w : World) (hA : LVp ElR w pA A) (hB : LVp ElR w pB B) : Calls Try.prog 16 #[.slice pA A.length cA, .slice pB B.length cB] w fun e w' => e = .returned (.bool (decide (A = B))) ∧ Below w.heap.size w w' := by
  have HA := Lib.hid hA
  have HB := Lib.hid hB
  clear hA hB
  go_enter Try.func16, Try.ntmps16
  refine wp_seq ?_
  refine wp_region_L (W0 := w) [] (KS.start w) ?_
  refine lm (v := .bool false) rfl rfl ?_
  refine wpL_done (fun W1 hW1 => ?_)
  refine (show Code.wp _ _ _ _ _ from ?_)
  refine wp_seq ?_
  refine wp_seq ?_
  refine wp_region_L (W0 := w) [] (hW1) ?_
  refine lm (v := .slice pA A.length cA) rfl rfl ?_
  refine lp (v := .int .i64 ((A.length : Nat) : Int)) rfl rfl (run_lenL (p := pA) (cap := cA) (n := A.length) rfl Try.underlying24 (by kernel_rfl)) ?_
  refine lm (v := .slice pB B.length cB) rfl rfl ?_
  refine lp (v := .int .i64 ((B.length : Nat) : Int)) rfl rfl (run_lenL (p := pB) (cap := cB) (n := B.length) rfl Try.underlying24 (by kernel_rfl)) ?_
  refine lp (v := .bool (!(decide (A.length = B.length)))) rfl rfl (run_bin rfl (vx := (.int .i64 ((A.length : Nat) : Int))) (vy := (.int .i64 ((B.length : Nat) : Int))) (by kernel_rfl) (by kernel_rfl) fun w => bn_neq rfl w) ?_
  refine wpL_done (fun W2 hW2 => ?_)
  refine (show Code.wp _ _ _ _ _ from ?_)
  cases hd1 : (decide (A.length = B.length)) with
  | false =>
    have h1 : ¬ (A.length = B.length) := of_decide_eq_false hd1
    clear hd1
    refine wp_cond_true rfl ?_
    refine wp_seq ?_
    refine wp_region_L (W0 := w) [] (hW2) ?_
    refine lm (v := .bool false) rfl rfl ?_
    refine wpL_done (fun W3 hW3 => ?_)
    refine (show Code.wp _ _ _ _ _ from ?_)
    refine wp_ret ?_
    try simp only [inBlock_ret, then_ret]
    refine bodyPost_ret (v := .bool false) ?_ rfl ?_
    · kernel_rfl
    · exact ⟨(bool_is (by rw [eq_comm, decide_eq_false_iff_not]; exact ne_len h1)), hW3.1⟩
  | true =>
    have h1 : A.length = B.length := of_decide_eq_true hd1
    clear hd1
    refine wp_cond_false rfl ?_
    refine wp_skip ?_
    refine (show Code.wp _ _ _ _ _ from ?_)
    refine wp_seq ?_
    refine wp_seq ?_
    refine wp_region_L (W0 := w) [] (hW2) ?_
    refine lm (v := .int .i64 0) rfl rfl ?_
    refine wpL_done (fun W4 hW4 => ?_)
    refine (show Code.wp _ _ _ _ _ from ?_)
    refine wp_block ?_
    go_loopw [5] (fun u5 wr => ∃ (k : Nat), (k ≤ A.length) ∧ (A.take k = B.take k) ∧ u5 = .int .i64 ((k : Nat) : Int) ∧ KS w [] wr) (fun u5 _ => A.length - (intOf u5).toNat)
    case atStart => exact ⟨0, (Nat.zero_le _), rfl, rfl, hW4⟩
    case round =>
      obtain ⟨k, hk, hT, rfl, hL5⟩ := hrel
      refine wp_seq ?_
      refine wp_seq ?_
      refine wp_region_L (W0 := w) [] (hL5) ?_
      refine lm (v := .int .i64 ((k : Nat) : Int)) rfl rfl ?_
      refine lm (v := .slice pA A.length cA) rfl rfl ?_
      refine lp (v := .int .i64 ((A.length : Nat) : Int)) rfl rfl (run_lenL (p := pA) (cap := cA) (n := A.length) rfl Try.underlying24 (by kernel_rfl)) ?_
      refine lp (v := .bool (decide (k < A.length))) rfl rfl (run_bin rfl (vx := (.int .i64 ((k : Nat) : Int))) (vy := (.int .i64 ((A.length : Nat) : Int))) (by kernel_rfl) (by kernel_rfl) fun w => bn_lss rfl w) ?_
      refine wpL_done (fun W6 hW6 => ?_)
      refine (show Code.wp _ _ _ _ _ from ?_)
      cases hd2 : (decide (k < A.length)) with
      | false =>
        have h2 : ¬ (k < A.length) := of_decide_eq_false hd2
        clear hd2
        refine wp_cond_false rfl ?_
        refine wp_exit ?_
        refine (show Code.wp _ _ _ _ _ from ?_)
        refine wp_seq ?_
        refine wp_region_L (W0 := w) [] (hW6) ?_
        refine lm (v := .bool true) rfl rfl ?_
        refine wpL_done (fun W7 hW7 => ?_)
        refine (show Code.wp _ _ _ _ _ from ?_)
        refine wp_ret ?_
        try simp only [inBlock_ret, then_ret]
        refine bodyPost_ret (v := .bool true) ?_ rfl ?_
        · kernel_rfl
        · exact ⟨(bool_is (by rw [eq_comm, decide_eq_true_iff]; exact eq_of_take hT h2 h1)), hW7.1⟩
      | true =>
        have h2 : k < A.length := of_decide_eq_true hd2
        clear hd2
        refine wp_cond_true rfl ?_
        refine wp_skip ?_
        refine (show Code.wp _ _ _ _ _ from ?_)
        refine wp_seq ?_
        refine wp_block ?_
        refine wp_seq ?_
        refine wp_seq ?_
        refine wp_region_V (W0 := w) [] (by kernel_rfl) (hW6) ?_
        refine vm (i := 0) (v := .slice pA A.length cA) rfl rfl rfl ?_
        refine vm (i := 1) (v := .int .i64 ((k : Nat) : Int)) rfl rfl rfl ?_
        obtain ⟨y1, p1, c1, b1, f1, hy1, HY1, hp1, lt1, hc1⟩ := lvp_lst (k := k) HA.out (by omega)
        have HY1 := Lib.hid HY1
        refine vp (i := 2) (v := .pointer (some ⟨b1, f1 + k * 1, none⟩)) rfl rfl rfl (run_idxQ (p := pA) (cap := cA) (n := A.length) (j := .i64) (k := k) (sz := 1) rfl Try.underlying24 (by kernel_rfl) (by kernel_rfl) hp1 (by kernel_rfl) (by omega)) ?_
        refine vv (i := 3) (v := .slice p1 y1.length c1) rfl rfl rfl (yb_old (off := f1 + k * 1) rfl (by kernel_rfl) hc1 lt1 Try.underlying37 rfl) ?_
        refine vp (i := 4) (v := .int .i64 ((y1.length : Nat) : Int)) rfl rfl rfl (run_lenL (p := p1) (cap := c1) (n := y1.length) rfl Try.underlying37 (by kernel_rfl)) ?_
        refine vm (i := 5) (v := .slice pB B.length cB) rfl rfl rfl ?_
        refine vm (i := 6) (v := .int .i64 ((k : Nat) : Int)) rfl rfl rfl ?_
        obtain ⟨y2, p2, c2, b2, f2, hy2, HY2, hp2, lt2, hc2⟩ := lvp_lst (k := k) HB.out (by omega)
        have HY2 := Lib.hid HY2
        refine vp (i := 7) (v := .pointer (some ⟨b2, f2 + k * 1, none⟩)) rfl rfl rfl (run_idxQ (p := pB) (cap := cB) (n := B.length) (j := .i64) (k := k) (sz := 1) rfl Try.underlying24 (by kernel_rfl) (by kernel_rfl) hp2 (by kernel_rfl) (by omega)) ?_
        refine vv (i := 8) (v := .slice p2 y2.length c2) rfl rfl rfl (yb_old (off := f2 + k * 1) rfl (by kernel_rfl) hc2 lt2 Try.underlying37 rfl) ?_
        refine vp (i := 9) (v := .int .i64 ((y2.length : Nat) : Int)) rfl rfl rfl (run_lenL (p := p2) (cap := c2) (n := y2.length) rfl Try.underlying37 (by kernel_rfl)) ?_
        refine vp (i := 10) (v := .bool (!(decide (y1.length = y2.length)))) rfl rfl rfl (run_bin rfl (vx := (.int .i64 ((y1.length : Nat) : Int))) (vy := (.int .i64 ((y2.length : Nat) : Int))) (by kernel_rfl) (by kernel_rfl) fun w => bn_neq rfl w) ?_
        refine wpV_done (by kernel_rfl) (fun W8 hW8 => ?_) _
        refine (show Code.wp _ _ _ _ _ from ?_)
        cases hd3 : (decide (y1.length = y2.length)) with
        | false =>
          have h3 : ¬ (y1.length = y2.length) := of_decide_eq_false hd3
          clear hd3
          refine wp_cond_true rfl ?_
          refine wp_seq ?_
          refine wp_region_L (W0 := w) [] (hW8) ?_
          refine lm (v := .bool false) rfl rfl ?_
          refine wpL_done (fun W9 hW9 => ?_)
          refine (show Code.wp _ _ _ _ _ from ?_)
          refine wp_ret ?_
          try simp only [inBlock_ret, then_ret]
          refine bodyPost_ret (v := .bool false) ?_ rfl ?_
          · kernel_rfl
          · exact ⟨(bool_is (by rw [eq_comm, decide_eq_false_iff_not]; exact ne_at hy1 hy2 (ne_len h3))), hW9.1⟩
        | true =>
          have h3 : y1.length = y2.length := of_decide_eq_true hd3
          clear hd3
          refine wp_cond_false rfl ?_
          refine wp_skip ?_
          refine (show Code.wp _ _ _ _ _ from ?_)
          refine wp_seq ?_
          refine wp_region_L (W0 := w) [] (hW8) ?_
          refine lm (v := .int .i64 0) rfl rfl ?_
          refine wpL_done (fun W10 hW10 => ?_)
          refine (show Code.wp _ _ _ _ _ from ?_)
          refine wp_block ?_
          have le1 := lE _ (List.mem_of_getElem? hy1)
          go_loopw [6] (fun u6 wr => ∃ (m : Nat), (m ≤ y1.length) ∧ (y1.take m = y2.take m) ∧ u6 = .int .i64 ((m : Nat) : Int) ∧ KS w [] wr) (fun u6 _ => y1.length - (intOf u6).toNat)
          case atStart => exact ⟨0, (Nat.zero_le _), rfl, rfl, hW10⟩
          case round =>
            obtain ⟨m, hm, hU, rfl, hL11⟩ := hrel
            refine wp_seq ?_
            refine wp_seq ?_
            refine wp_region_L (W0 := w) [] (hL11) ?_
            refine lm (v := .int .i64 ((m : Nat) : Int)) rfl rfl ?_
            refine lm (v := .slice pA A.length cA) rfl rfl ?_
            refine lm (v := .int .i64 ((k : Nat) : Int)) rfl rfl ?_
            refine lp (v := .pointer (some ⟨b1, f1 + k * 1, none⟩)) rfl rfl (run_idxQ (p := pA) (cap := cA) (n := A.length) (j := .i64) (k := k) (sz := 1) rfl Try.underlying24 (by kernel_rfl) (by kernel_rfl) hp1 (by kernel_rfl) (by omega)) ?_
            refine lv (v := .slice p1 y1.length c1) rfl rfl (yb_old (off := f1 + k * 1) rfl (by kernel_rfl) hc1 lt1 Try.underlying37 rfl) ?_
            refine lp (v := .int .i64 ((y1.length : Nat) : Int)) rfl rfl (run_lenL (p := p1) (cap := c1) (n := y1.length) rfl Try.underlying37 (by kernel_rfl)) ?_
            refine lp (v := .bool (decide (m < y1.length))) rfl rfl (run_bin rfl (vx := (.int .i64 ((m : Nat) : Int))) (vy := (.int .i64 ((y1.length : Nat) : Int))) (by kernel_rfl) (by kernel_rfl) fun w => bn_lss rfl w) ?_
            refine wpL_done (fun W12 hW12 => ?_)
            refine (show Code.wp _ _ _ _ _ from ?_)
            cases hd4 : (decide (m < y1.length)) with
            | false =>
              have h4 : ¬ (m < y1.length) := of_decide_eq_false hd4
              clear hd4
              refine wp_cond_false rfl ?_
              refine wp_exit ?_
              refine (show Code.wp _ _ _ _ _ from ?_)
              refine wp_region_L (W0 := w) [] (hW12) ?_
              refine lm (v := .int .i64 ((k : Nat) : Int)) rfl rfl ?_
              refine lp (v := .int .i64 (((k + 1) : Nat) : Int)) rfl rfl (run_bin rfl (vx := (.int .i64 ((k : Nat) : Int))) (vy := (.int .i64 ((1 : Nat) : Int))) (by kernel_rfl) (by kernel_rfl) fun w => bn_add (z := (k + 1)) rfl (wr_i64 (by omega)) w) ?_
              refine lm (v := .int .i64 (((k + 1) : Nat) : Int)) rfl rfl ?_
              refine wpL_done (fun W13 hW13 => ?_)
              go_roundw
              case rel =>
                repeat apply Exists.intro
                exact ⟨⟨k + 1, (by omega), (take_snoc_eq hT hy1 hy2 (eq_of_take hU h4 h3)), rfl, hW13⟩, rfl⟩
              case measure => (show A.length - (intOf (.int .i64 (((k + 1) : Nat) : Int))).toNat < A.length - (intOf (.int .i64 ((k : Nat) : Int))).toNat); simp only [intOf]; omega
            | true =>
              have h4 : m < y1.length := of_decide_eq_true hd4
              clear hd4
              refine wp_cond_true rfl ?_
              refine wp_skip ?_
              refine (show Code.wp _ _ _ _ _ from ?_)
              refine wp_seq ?_
              refine wp_block ?_
              refine wp_seq ?_
              refine wp_region_V (W0 := w) [] (by kernel_rfl) (hW12) ?_
              refine vm (i := 0) (v := .slice pA A.length cA) rfl rfl rfl ?_
              refine vm (i := 1) (v := .int .i64 ((k : Nat) : Int)) rfl rfl rfl ?_
              refine vp (i := 2) (v := .pointer (some ⟨b1, f1 + k * 1, none⟩)) rfl rfl rfl (run_idxQ (p := pA) (cap := cA) (n := A.length) (j := .i64) (k := k) (sz := 1) rfl Try.underlying24 (by kernel_rfl) (by kernel_rfl) hp1 (by kernel_rfl) (by omega)) ?_
              refine vv (i := 3) (v := .slice p1 y1.length c1) rfl rfl rfl (yb_old (off := f1 + k * 1) rfl (by kernel_rfl) hc1 lt1 Try.underlying37 rfl) ?_
              refine vm (i := 4) (v := .int .i64 ((m : Nat) : Int)) rfl rfl rfl ?_
              obtain ⟨y3, p3, c3, b3, f3, hy3, HY3, hp3, lt3, hc3⟩ := lvp_lst (k := m) HY1.out (by omega)
              have HY3 := Lib.hid HY3
              refine vp (i := 5) (v := .pointer (some ⟨b3, f3 + m * 1, none⟩)) rfl rfl rfl (run_idxQ (p := p1) (cap := c1) (n := y1.length) (j := .i64) (k := m) (sz := 1) rfl Try.underlying37 (by kernel_rfl) (by kernel_rfl) hp3 (by kernel_rfl) (by omega)) ?_
              refine vv (i := 6) (v := .slice p3 y3.length c3) rfl rfl rfl (yb_old (off := f3 + m * 1) rfl (by kernel_rfl) hc3 lt3 Try.underlying43 rfl) ?_
              refine vm (i := 7) (v := .slice pB B.length cB) rfl rfl rfl ?_
              refine vm (i := 8) (v := .int .i64 ((k : Nat) : Int)) rfl rfl rfl ?_
              refine vp (i := 9) (v := .pointer (some ⟨b2, f2 + k * 1, none⟩)) rfl rfl rfl (run_idxQ (p := pB) (cap := cB) (n := B.length) (j := .i64) (k := k) (sz := 1) rfl Try.underlying24 (by kernel_rfl) (by kernel_rfl) hp2 (by kernel_rfl) (by omega)) ?_
              refine vv (i := 10) (v := .slice p2 y2.length c2) rfl rfl rfl (yb_old (off := f2 + k * 1) rfl (by kernel_rfl) hc2 lt2 Try.underlying37 rfl) ?_
              refine vm (i := 11) (v := .int .i64 ((m : Nat) : Int)) rfl rfl rfl ?_
              obtain ⟨y4, p4, c4, b4, f4, hy4, HY4, hp4, lt4, hc4⟩ := lvp_lst (k := m) HY2.out (by omega)
              have HY4 := Lib.hid HY4
              refine vp (i := 12) (v := .pointer (some ⟨b4, f4 + m * 1, none⟩)) rfl rfl rfl (run_idxQ (p := p2) (cap := c2) (n := y2.length) (j := .i64) (k := m) (sz := 1) rfl Try.underlying37 (by kernel_rfl) (by kernel_rfl) hp4 (by kernel_rfl) (by omega)) ?_
              refine vv (i := 13) (v := .slice p4 y4.length c4) rfl rfl rfl (yb_old (off := f4 + m * 1) rfl (by kernel_rfl) hc4 lt4 Try.underlying43 rfl) ?_
              refine vv (i := 14) (v := .bool (decide (y3 = y4))) rfl rfl rfl (yb_call (f := 26) (args := #[.slice p3 y3.length c3, .slice p4 y4.length c4]) (fun _ => by kernel_rfl) fun W hW => sameT_any y3 y4 p3 p4 c3 c4 (le1.2 _ (List.mem_of_getElem? hy3)) W (HY3.out.keep StrR.keeps hW.1) (HY4.out.keep StrR.keeps hW.1)) ?_
              refine vp (i := 15) (v := .bool (!(decide (y3 = y4)))) rfl rfl rfl (run_un rfl (by kernel_rfl) fun w => un_not w) ?_
              refine wpV_done (by kernel_rfl) (fun W14 hW14 => ?_) _
              refine (show Code.wp _ _ _ _ _ from ?_)
              cases hd5 : (decide (y3 = y4)) with
              | false =>
                have h5 : ¬ (y3 = y4) := of_decide_eq_false hd5
                clear hd5
                refine wp_cond_true rfl ?_
                refine wp_seq ?_
                refine wp_region_L (W0 := w) [] (hW14) ?_
                refine lm (v := .bool false) rfl rfl ?_
                refine wpL_done (fun W15 hW15 => ?_)
                refine (show Code.wp _ _ _ _ _ from ?_)
                refine wp_ret ?_
                try simp only [inBlock_ret, then_ret]
                refine bodyPost_ret (v := .bool false) ?_ rfl ?_
                · kernel_rfl
                · exact ⟨(bool_is (by rw [eq_comm, decide_eq_false_iff_not]; exact ne_at hy1 hy2 (ne_at hy3 hy4 h5))), hW15.1⟩
              | true =>
                have h5 : y3 = y4 := of_decide_eq_true hd5
                clear hd5
                refine wp_cond_false rfl ?_
                refine wp_skip ?_
                refine (show Code.wp _ _ _ _ _ from ?_)
                refine wp_region_L (W0 := w) [] (hW14) ?_
                refine lm (v := .int .i64 ((m : Nat) : Int)) rfl rfl ?_
                refine lp (v := .int .i64 (((m + 1) : Nat) : Int)) rfl rfl (run_bin rfl (vx := (.int .i64 ((m : Nat) : Int))) (vy := (.int .i64 ((1 : Nat) : Int))) (by kernel_rfl) (by kernel_rfl) fun w => bn_add (z := (m + 1)) rfl (wr_i64 (by omega)) w) ?_
                refine lm (v := .int .i64 (((m + 1) : Nat) : Int)) rfl rfl ?_
                refine wpL_done (fun W16 hW16 => ?_)
                go_roundw
                case rel =>
                  repeat apply Exists.intro
                  exact ⟨⟨m + 1, (by omega), (take_snoc_eq hU hy3 hy4 h5), rfl, hW16⟩, rfl⟩
                case measure => (show y1.length - (intOf (.int .i64 (((m + 1) : Nat) : Int))).toNat < y1.length - (intOf (.int .i64 ((m : Nat) : Int))).toNat); simp only [intOf]; omega
end Go.Proofs.Ytppegdbelgobiaa
namespace Go.Proofs.Ytppegdbelgobiaa
open Go Go.RowKit Tw
def OwnS (W0 : World) (A : List (List (List (List UInt8)))) (v : Value) (K' : List (Nat × Obj)) : Prop :=
  ∃ xo T Ko, K' = T ++ Ko ∧ OwnL (W0 : Base) 37 1 v A.length xo Ko ∧ MkE ElR (W0 : Base) xo A T ∧ Dj T Ko
theorem OwnS.mkv {W0 : World} {A : List (List (List (List UInt8)))} {v : Value} {K' : List (Nat × Obj)} (h : OwnS W0 A v K') : MkV SgR (W0 : Base) v A K' := by
  obtain ⟨xo, T, Ko, rfl, hO, hE, _⟩ := h
  exact MkE.mk hO hE rfl
theorem el_str : Elem Try.prog 43 9 1 16 (.string ⟨#[]⟩) := Elem.mk' Try.underlying43 (by kernel_rfl) rfl
theorem el_txt : Elem Try.prog 37 43 1 24 (.slice none 0 0) := Elem.mk' Try.underlying37 (by kernel_rfl) rfl
theorem el_seg : Elem Try.prog 24 37 1 24 (.slice none 0 0) := Elem.mk' Try.underlying24 (by kernel_rfl) rfl
set_option maxRecDepth 100000 in
set_option maxHeartbeats 4000000 in
theorem Own_any {W0 : World} (A : List (List (List (List UInt8)))) (pA : Option Addr) (cA : Nat) (lA : A.length ≤ 4000000000) (lE : ∀ y ∈ A, y.length ≤ 4000000000 ∧ ∀ z ∈ y, z.length ≤ 4000000000) (hA : LVp ElR W0 pA A) (w : World) (hw : KS (W0 : Base) [] w) : Calls Try.prog 19 #[.slice pA A.length cA] w fun e w' => ∃ v T, e = .returned v ∧ KS (W0 : Base) T w' ∧ OwnS W0 A v T := by
  have HA := Lib.hid hA
  clear hA
  go_enter Try.func19, Try.ntmps19
  refine wp_seq ?_
  refine wp_region_L (W0 := (W0 : Base)) [] (hw) ?_
  refine lm (v := .slice none 0 0) rfl rfl ?_
  refine wpL_done (fun W1 hW1 => ?_)
  refine (show Code.wp _ _ _ _ _ from ?_)
  refine wp_seq ?_
  refine wp_region_L (W0 := (W0 : Base)) [] (hW1) ?_
  refine lm (v := .slice none 0 0) rfl rfl ?_
  refine wpL_done (fun W2 hW2 => ?_)
  refine (show Code.wp _ _ _ _ _ from ?_)
  refine wp_seq ?_
  refine wp_seq ?_
  refine wp_region_L (W0 := (W0 : Base)) [] (hW2) ?_
  refine lm (v := .slice pA A.length cA) rfl rfl ?_
  refine lp (v := .int .i64 ((A.length : Nat) : Int)) rfl rfl (run_lenL (p := pA) (cap := cA) (n := A.length) rfl Try.underlying24 (by kernel_rfl)) ?_
  refine lm (v := .int .i64 0) rfl rfl ?_
  refine wpL_done (fun W3 hW3 => ?_)
  refine (show Code.wp _ _ _ _ _ from ?_)
  refine wp_block ?_
  go_loopw [11, 3] (fun u11 u3 wr => ∃ (k : Nat) (vo : Value) (xo : List Value) (To Ko : List (Nat × Obj)), (k ≤ A.length) ∧ (OwnL (W0 : Base) 37 1 vo k xo Ko) ∧ (MkE ElR (W0 : Base) xo (A.take k) To) ∧ (Dj To Ko) ∧ u11 = .int .i64 ((k : Nat) : Int) ∧ vo = u3 ∧ KS (W0 : Base) (To ++ Ko) wr) (fun u11 _ _ => A.length - (intOf u11).toNat)
  case atStart => exact ⟨0, (.slice none 0 0), [], [], [], (Nat.zero_le _), (OwnL.nil _ _ _), MkE.nil, (show Dj [] [] from (by (try simp only [dj_app_l, dj_app_r, dj_cons_l, dj_cons_r, dj_nil_l, dj_nil_r, dk_app, dk_cons, dk_nil, and_true, true_and, and_assoc]); repeat' (first | trivial | assumption | exact Dj.symm (by assumption) | exact Ne.symm (by assumption) | apply And.intro))), rfl, rfl, (hW3.sub (fun p hp => by first | exact hp | (simp only [List.mem_cons, List.mem_append, List.nil_append, List.not_mem_nil, or_assoc, or_false, false_or] at hp ⊢ <;> grind)))⟩
  case round =>
    obtain ⟨k, vo, xo, To, Ko, hk, hOo, hEo, dh1_0, rfl, rfl, hL4⟩ := hrel
    refine wp_seq ?_
    refine wp_region_L (W0 := (W0 : Base)) (To ++ Ko) (hL4) ?_
    refine lp (v := .bool (decide (k < A.length))) rfl rfl (run_bin rfl (vx := (.int .i64 ((k : Nat) : Int))) (vy := (.int .i64 ((A.length : Nat) : Int))) (by kernel_rfl) (by kernel_rfl) fun w => bn_lss rfl w) ?_
    refine wpL_done (fun W5 hW5 => ?_)
    refine (show Code.wp _ _ _ _ _ from ?_)
    refine wp_seq ?_
    cases hd1 : (decide (k < A.length)) with
    | false =>
      have h1 : ¬ (k < A.length) := of_decide_eq_false hd1
      clear hd1
      refine wp_cond_false rfl ?_
      refine wp_exit ?_
      refine (show Code.wp _ _ _ _ _ from ?_)
      refine wp_seq ?_
      refine wp_region_L (W0 := (W0 : Base)) (To ++ Ko) (hW5) ?_
      refine lm (v := vo) rfl rfl ?_
      refine lm (v := vo) rfl rfl ?_
      refine wpL_done (fun W6 hW6 => ?_)
      refine (show Code.wp _ _ _ _ _ from ?_)
      refine wp_ret ?_
      try simp only [inBlock_ret, then_ret]
      refine bodyPost_ret (v := vo) ?_ rfl ?_
      · kernel_rfl
      · exact ⟨_, To ++ Ko, rfl, (hW6.sub (fun p hp => by simp only [List.mem_cons, List.mem_append, List.nil_append, List.not_mem_nil, or_assoc, or_false, false_or] at hp ⊢ <;> grind)), xo, To, Ko, rfl, (by have e : k = A.length := (by omega); rw [← e]; exact hOo), mke_all hEo h1, (show Dj To Ko from (by (try simp only [dj_app_l, dj_app_r, dj_cons_l, dj_cons_r, dj_nil_l, dj_nil_r, dk_app, dk_cons, dk_nil, and_true, true_and, and_assoc]); repeat' (first | trivial | assumption | exact Dj.symm (by assumption) | exact Ne.symm (by assumption) | apply And.intro)))⟩
    | true =>
      have h1 : k < A.length := of_decide_eq_true hd1
      clear hd1
      refine wp_cond_true rfl ?_
      refine wp_skip ?_
      refine (show Code.wp _ _ _ _ _ from ?_)
      refine wp_seq ?_
      refine wp_block ?_
      refine wp_seq ?_
      refine wp_region_L (W0 := (W0 : Base)) (To ++ Ko) (hW5) ?_
      obtain ⟨y2, p2, c2, b2, f2, hy2, HY2, hp2, lt2, hc2⟩ := lvp_lst (k := k) HA.out (by omega)
      have HY2 := Lib.hid HY2
      refine lp (v := .pointer (some ⟨b2, f2 + k * 1, none⟩)) rfl rfl (run_idxQ (p := pA) (cap := cA) (n := A.length) (j := .i64) (k := k) (sz := 1) rfl Try.underlying24 (by kernel_rfl) (by kernel_rfl) hp2 (by kernel_rfl) (by omega)) ?_
      refine lv (v := .slice p2 y2.length c2) rfl rfl (yb_old (off := f2 + k * 1) rfl (by kernel_rfl) hc2 lt2 Try.underlying37 rfl) ?_
      refine lm (v := .slice p2 y2.length c2) rfl rfl ?_
      refine wpL_done (fun W7 hW7 => ?_)
      refine (show Code.wp _ _ _ _ _ from ?_)
      refine wp_seq ?_
      refine wp_region_L (W0 := (W0 : Base)) (To ++ Ko) (hW7) ?_
      refine lm (v := .slice none 0 0) rfl rfl ?_
      refine wpL_done (fun W8 hW8 => ?_)
      refine (show Code.wp _ _ _ _ _ from ?_)
      refine wp_seq ?_
      refine wp_seq ?_
      refine wp_region_L (W0 := (W0 : Base)) (To ++ Ko) (hW8) ?_
      refine lm (v := .slice p2 y2.length c2) rfl rfl ?_
      refine lp (v := .int .i64 ((y2.length : Nat) : Int)) rfl rfl (run_lenL (p := p2) (cap := c2) (n := y2.length) rfl Try.underlying37 (by kernel_rfl)) ?_
      refine lm (v := .int .i64 0) rfl rfl ?_
      refine wpL_done (fun W9 hW9 => ?_)
      refine (show Code.wp _ _ _ _ _ from ?_)
      refine wp_block ?_
      have le2 := lE _ (List.mem_of_getElem? hy2)
      go_loopw [17, 6] (fun u17 u6 wr => ∃ (m : Nat) (vi : Value) (xi : List Value) (Ti Ki : List (Nat × Obj)), (m ≤ y2.length) ∧ (OwnL (W0 : Base) 43 1 vi m xi Ki) ∧ (MkE TxR (W0 : Base) xi (y2.take m) Ti) ∧ (Dj To Ti) ∧ (Dj Ko Ti) ∧ (Dj To Ki) ∧ (Dj Ko Ki) ∧ (Dj Ti Ki) ∧ u17 = .int .i64 ((m : Nat) : Int) ∧ vi = u6 ∧ KS (W0 : Base) (To ++ (Ko ++ (Ti ++ Ki))) wr) (fun u17 _ _ => y2.length - (intOf u17).toNat)
      case atStart => exact ⟨0, (.slice none 0 0), [], [], [], (Nat.zero_le _), (OwnL.nil _ _ _), MkE.nil, (show Dj To [] from (by (try simp only [dj_app_l, dj_app_r, dj_cons_l, dj_cons_r, dj_nil_l, dj_nil_r, dk_app, dk_cons, dk_nil, and_true, true_and, and_assoc]); repeat' (first | trivial | assumption | exact Dj.symm (by assumption) | exact Ne.symm (by assumption) | apply And.intro))), (show Dj Ko [] from (by (try simp only [dj_app_l, dj_app_r, dj_cons_l, dj_cons_r, dj_nil_l, dj_nil_r, dk_app, dk_cons, dk_nil, and_true, true_and, and_assoc]); repeat' (first | trivial | assumption | exact Dj.symm (by assumption) | exact Ne.symm (by assumption) | apply And.intro))), (show Dj To [] from (by (try simp only [dj_app_l, dj_app_r, dj_cons_l, dj_cons_r, dj_nil_l, dj_nil_r, dk_app, dk_cons, dk_nil, and_true, true_and, and_assoc]); repeat' (first | trivial | assumption | exact Dj.symm (by assumption) | exact Ne.symm (by assumption) | apply And.intro))), (show Dj Ko [] from (by (try simp only [dj_app_l, dj_app_r, dj_cons_l, dj_cons_r, dj_nil_l, dj_nil_r, dk_app, dk_cons, dk_nil, and_true, true_and, and_assoc]); repeat' (first | trivial | assumption | exact Dj.symm (by assumption) | exact Ne.symm (by assumption) | apply And.intro))), (show Dj [] [] from (by (try simp only [dj_app_l, dj_app_r, dj_cons_l, dj_cons_r, dj_nil_l, dj_nil_r, dk_app, dk_cons, dk_nil, and_true, true_and, and_assoc]); repeat' (first | trivial | assumption | exact Dj.symm (by assumption) | exact Ne.symm (by assumption) | apply And.intro))), rfl, rfl, (hW9.sub (fun p hp => by first | exact hp | (simp only [List.mem_cons, List.mem_append, List.nil_append, List.not_mem_nil, or_assoc, or_false, false_or] at hp ⊢ <;> grind)))⟩
      case round =>
        obtain ⟨m, vi, xi, Ti, Ki, hm, hOi, hEi, dh3_0, dh3_1, dh3_2, dh3_3, dh3_4, rfl, rfl, hL10⟩ := hrel
        refine wp_seq ?_
        refine wp_region_L (W0 := (W0 : Base)) (To ++ (Ko ++ (Ti ++ Ki))) (hL10) ?_
        refine lp (v := .bool (decide (m < y2.length))) rfl rfl (run_bin rfl (vx := (.int .i64 ((m : Nat) : Int))) (vy := (.int .i64 ((y2.length : Nat) : Int))) (by kernel_rfl) (by kernel_rfl) fun w => bn_lss rfl w) ?_
        refine wpL_done (fun W11 hW11 => ?_)
        refine (show Code.wp _ _ _ _ _ from ?_)
        refine wp_seq ?_
        cases hd2 : (decide (m < y2.length)) with
        | false =>
          have h2 : ¬ (m < y2.length) := of_decide_eq_false hd2
          clear hd2
          refine wp_cond_false rfl ?_
          refine wp_exit ?_
          refine (show Code.wp _ _ _ _ _ from ?_)
          refine wp_region_L (W0 := (W0 : Base)) (To ++ (Ko ++ (Ti ++ Ki))) (hW11) ?_
          refine lm (v := vo) rfl rfl ?_
          refine lm (v := vi) rfl rfl ?_
          obtain ⟨p4, c4, rfl⟩ := own_shape hOi
          refine wpL_new (fun g => .slice (some ⟨g, 0, none⟩) 1 1) (obi := .cells #[.slice p4 m c4] 37 (0, 0)) rfl rfl (fun _ => by kernel_rfl) (fun _ => by simp only [List.setIfInBounds_toArray, List.set_cons_succ, List.set_cons_zero] <;> rfl) fun g5 Bg5 Fg5 => ?_
          obtain ⟨dj6_0, dj6_1, dj6_2, dj6_3⟩ : Dk g5 To ∧ Dk g5 Ko ∧ Dk g5 Ti ∧ Dk g5 Ki := by simpa only [dj_app_l, dj_app_r, dj_cons_l, dj_cons_r, dj_nil_l, dj_nil_r, dk_app, dk_cons, dk_nil, and_true, true_and, and_assoc] using (show Dk g5 (To ++ (Ko ++ (Ti ++ Ki))) from Fg5)
          refine wpL_g (AppO (W0 : Base) 37 1 (To ++ (Ti ++ Ki)) (k + 1) (xo ++ [.slice p4 m c4])) rfl rfl (app_own el_seg (m := 1) (c := 1) (news := [.slice p4 m c4]) rfl (by kernel_rfl) (by kernel_rfl) (.head _) hOo (fun p hp => by simp only [List.mem_cons, List.mem_append, List.nil_append, List.not_mem_nil, or_assoc, or_false, false_or, hp, or_true, true_or]) (fun p hp => ⟨by simp only [List.mem_cons, List.mem_append, List.nil_append, List.not_mem_nil, or_assoc, or_false, false_or] at hp ⊢ <;> grind, (show Dj (To ++ (Ti ++ Ki)) Ko from (by (try simp only [dj_app_l, dj_app_r, dj_cons_l, dj_cons_r, dj_nil_l, dj_nil_r, dk_app, dk_cons, dk_nil, and_true, true_and, and_assoc]); repeat' (first | trivial | assumption | exact Dj.symm (by assumption) | exact Ne.symm (by assumption) | apply And.intro))) p hp⟩) rfl (by simp [strV, Value.oneCell']) (by omega) (by omega) (by omega)) (fun _ => by simp only [List.setIfInBounds_toArray, List.set_cons_succ, List.set_cons_zero] <;> rfl) ?_
          rintro v7 K9 ⟨Kl7, O7, N7, rfl⟩
          obtain ⟨dj8_0, dj8_1, dj8_2⟩ : Dj To Kl7 ∧ Dj Ti Kl7 ∧ Dj Ki Kl7 := by simpa only [dj_app_l, dj_app_r, dj_cons_l, dj_cons_r, dj_nil_l, dj_nil_r, dk_app, dk_cons, dk_nil, and_true, true_and, and_assoc] using (show Dj (To ++ (Ti ++ Ki)) Kl7 from N7)
          refine lm (v := v7) rfl rfl ?_
          refine wpL_done (fun W12 hW12 => ?_)
          refine (show Code.wp _ _ _ _ _ from ?_)
          refine wp_region_L (W0 := (W0 : Base)) ((To ++ (Ti ++ Ki)) ++ Kl7) (hW12) ?_
          refine lp (v := .int .i64 (((k + 1) : Nat) : Int)) rfl rfl (run_bin rfl (vx := (.int .i64 ((k : Nat) : Int))) (vy := (.int .i64 ((1 : Nat) : Int))) (by kernel_rfl) (by kernel_rfl) fun w => bn_add (z := (k + 1)) rfl (wr_i64 (by omega)) w) ?_
          refine lm (v := .int .i64 (((k + 1) : Nat) : Int)) rfl rfl ?_
          refine wpL_done (fun W13 hW13 => ?_)
          go_roundw
          case rel =>
            repeat apply Exists.intro
            exact ⟨⟨k + 1, v7, (xo ++ [.slice p4 m c4]), (To ++ (Ti ++ Ki)), Kl7, (by omega), O7, (mke_take (MkE.snoc hEo (MkE.mk hOi (mke_all hEi h2) (by omega))) hy2), (show Dj (To ++ (Ti ++ Ki)) Kl7 from (by (try simp only [dj_app_l, dj_app_r, dj_cons_l, dj_cons_r, dj_nil_l, dj_nil_r, dk_app, dk_cons, dk_nil, and_true, true_and, and_assoc]); repeat' (first | trivial | assumption | exact Dj.symm (by assumption) | exact Ne.symm (by assumption) | apply And.intro))), rfl, rfl, (hW13.sub (fun p hp => by first | exact hp | (simp only [List.mem_cons, List.mem_append, List.nil_append, List.not_mem_nil, or_assoc, or_false, false_or] at hp ⊢ <;> grind)))⟩, rfl⟩
          case measure => (show A.length - (intOf (.int .i64 (((k + 1) : Nat) : Int))).toNat < A.length - (intOf (.int .i64 ((k : Nat) : Int))).toNat); simp only [intOf]; omega
        | true =>
          have h2 : m < y2.length := of_decide_eq_true hd2
          clear hd2
          refine wp_cond_true rfl ?_
          refine wp_skip ?_
          refine (show Code.wp _ _ _ _ _ from ?_)
          refine wp_seq ?_
          refine wp_block ?_
          refine wp_seq ?_
          refine wp_region_L (W0 := (W0 : Base)) (To ++ (Ko ++ (Ti ++ Ki))) (hW11) ?_
          obtain ⟨y9, p9, c9, b9, f9, hy9, HY9, hp9, lt9, hc9⟩ := lvp_lst (k := m) HY2.out (by omega)
          have HY9 := Lib.hid HY9
          refine lp (v := .pointer (some ⟨b9, f9 + m * 1, none⟩)) rfl rfl (run_idxQ (p := p2) (cap := c2) (n := y2.length) (j := .i64) (k := m) (sz := 1) rfl Try.underlying37 (by kernel_rfl) (by kernel_rfl) hp9 (by kernel_rfl) (by omega)) ?_
          have ll9 := le2.2 _ (List.mem_of_getElem? hy9)
          refine lv (v := .slice p9 y9.length c9) rfl rfl (yb_old (off := f9 + m * 1) rfl (by kernel_rfl) hc9 lt9 Try.underlying43 rfl) ?_
          refine lm (v := .slice p9 y9.length c9) rfl rfl ?_
          refine wpL_done (fun W14 hW14 => ?_)
          refine (show Code.wp _ _ _ _ _ from ?_)
          refine wp_region_L (W0 := (W0 : Base)) (To ++ (Ko ++ (Ti ++ Ki))) (hW14) ?_
          refine lm (v := vi) rfl rfl ?_
          refine lm (v := .slice p9 y9.length c9) rfl rfl ?_
          refine wpL_g (AppO (W0 : Base) 9 1 (To ++ (Ko ++ (Ti ++ Ki))) (0 + y9.length) ([] ++ (y9.map strV))) rfl rfl (app_src el_str (m := y9.length) (c := c9) (news := (y9.map strV)) rfl (by kernel_rfl) (by kernel_rfl) (lvp_strs HY9.out) (OwnL.nil _ _ _) (fun _ h => by cases h) (fun p hp => ⟨by simp only [List.mem_cons, List.mem_append, List.nil_append, List.not_mem_nil, or_assoc, or_false, false_or] at hp ⊢ <;> grind, (show Dj (To ++ (Ko ++ (Ti ++ Ki))) [] from (by (try simp only [dj_app_l, dj_app_r, dj_cons_l, dj_cons_r, dj_nil_l, dj_nil_r, dk_app, dk_cons, dk_nil, and_true, true_and, and_assoc]); repeat' (first | trivial | assumption | exact Dj.symm (by assumption) | exact Ne.symm (by assumption) | apply And.intro))) p hp⟩) (by simp) (by simp [strV, Value.oneCell']) (by omega) (by omega) (by omega)) (fun _ => by simp only [List.setIfInBounds_toArray, List.set_cons_succ, List.set_cons_zero] <;> rfl) ?_
          rintro v10 K9 ⟨Kl10, O10, N10, rfl⟩
          obtain ⟨dj11_0, dj11_1, dj11_2, dj11_3⟩ : Dj To Kl10 ∧ Dj Ko Kl10 ∧ Dj Ti Kl10 ∧ Dj Ki Kl10 := by simpa only [dj_app_l, dj_app_r, dj_cons_l, dj_cons_r, dj_nil_l, dj_nil_r, dk_app, dk_cons, dk_nil, and_true, true_and, and_assoc] using (show Dj (To ++ (Ko ++ (Ti ++ Ki))) Kl10 from N10)
          obtain ⟨p12, c12, rfl⟩ := own_shape O10
          refine wpL_new (fun g => .slice (some ⟨g, 0, none⟩) 1 1) (obi := .cells #[.slice p12 (0 + y9.length) c12] 43 (0, 0)) rfl rfl (fun _ => by kernel_rfl) (fun _ => by simp only [List.setIfInBounds_toArray, List.set_cons_succ, List.set_cons_zero] <;> rfl) fun g13 Bg13 Fg13 => ?_
          obtain ⟨dj14_0, dj14_1, dj14_2, dj14_3, dj14_4⟩ : Dk g13 To ∧ Dk g13 Ko ∧ Dk g13 Ti ∧ Dk g13 Ki ∧ Dk g13 Kl10 := by simpa only [dj_app_l, dj_app_r, dj_cons_l, dj_cons_r, dj_nil_l, dj_nil_r, dk_app, dk_cons, dk_nil, and_true, true_and, and_assoc] using (show Dk g13 ((To ++ (Ko ++ (Ti ++ Ki))) ++ Kl10) from Fg13)
          refine wpL_g (AppO (W0 : Base) 43 1 (To ++ (Ko ++ (Ti ++ Kl10))) (m + 1) (xi ++ [.slice p12 (0 + y9.length) c12])) rfl rfl (app_own el_txt (m := 1) (c := 1) (news := [.slice p12 (0 + y9.length) c12]) rfl (by kernel_rfl) (by kernel_rfl) (.head _) hOi (fun p hp => by simp only [List.mem_cons, List.mem_append, List.nil_append, List.not_mem_nil, or_assoc, or_false, false_or, hp, or_true, true_or]) (fun p hp => ⟨by simp only [List.mem_cons, List.mem_append, List.nil_append, List.not_mem_nil, or_assoc, or_false, false_or] at hp ⊢ <;> grind, (show Dj (To ++ (Ko ++ (Ti ++ Kl10))) Ki from (by (try simp only [dj_app_l, dj_app_r, dj_cons_l, dj_cons_r, dj_nil_l, dj_nil_r, dk_app, dk_cons, dk_nil, and_true, true_and, and_assoc]); repeat' (first | trivial | assumption | exact Dj.symm (by assumption) | exact Ne.symm (by assumption) | apply And.intro))) p hp⟩) rfl (by simp [strV, Value.oneCell']) (by omega) (by omega) (by omega)) (fun _ => by simp only [List.setIfInBounds_toArray, List.set_cons_succ, List.set_cons_zero] <;> rfl) ?_
          rintro v15 K9 ⟨Kl15, O15, N15, rfl⟩
          obtain ⟨dj16_0, dj16_1, dj16_2, dj16_3⟩ : Dj To Kl15 ∧ Dj Ko Kl15 ∧ Dj Ti Kl15 ∧ Dj Kl10 Kl15 := by simpa only [dj_app_l, dj_app_r, dj_cons_l, dj_cons_r, dj_nil_l, dj_nil_r, dk_app, dk_cons, dk_nil, and_true, true_and, and_assoc] using (show Dj (To ++ (Ko ++ (Ti ++ Kl10))) Kl15 from N15)
          refine lm (v := v15) rfl rfl ?_
          refine wpL_done (fun W15 hW15 => ?_)
          refine (show Code.wp _ _ _ _ _ from ?_)
          refine wp_region_L (W0 := (W0 : Base)) ((To ++ (Ko ++ (Ti ++ Kl10))) ++ Kl15) (hW15) ?_
          refine lp (v := .int .i64 (((m + 1) : Nat) : Int)) rfl rfl (run_bin rfl (vx := (.int .i64 ((m : Nat) : Int))) (vy := (.int .i64 ((1 : Nat) : Int))) (by kernel_rfl) (by kernel_rfl) fun w => bn_add (z := (m + 1)) rfl (wr_i64 (by omega)) w) ?_
          refine lm (v := .int .i64 (((m + 1) : Nat) : Int)) rfl rfl ?_
          refine wpL_done (fun W16 hW16 => ?_)
          go_roundw
          case rel =>
            repeat apply Exists.intro
            exact ⟨⟨m + 1, v15, (xi ++ [.slice p12 (0 + y9.length) c12]), (Ti ++ ([] ++ Kl10)), Kl15, (by omega), O15, (mke_take (MkE.snoc hEi (MkE.mk O10 (MkE.strs y9) (by omega))) hy9), (show Dj To (Ti ++ ([] ++ Kl10)) from (by (try simp only [dj_app_l, dj_app_r, dj_cons_l, dj_cons_r, dj_nil_l, dj_nil_r, dk_app, dk_cons, dk_nil, and_true, true_and, and_assoc]); repeat' (first | trivial | assumption | exact Dj.symm (by assumption) | exact Ne.symm (by assumption) | apply And.intro))), (show Dj Ko (Ti ++ ([] ++ Kl10)) from (by (try simp only [dj_app_l, dj_app_r, dj_cons_l, dj_cons_r, dj_nil_l, dj_nil_r, dk_app, dk_cons, dk_nil, and_true, true_and, and_assoc]); repeat' (first | trivial | assumption | exact Dj.symm (by assumption) | exact Ne.symm (by assumption) | apply And.intro))), (show Dj To Kl15 from (by (try simp only [dj_app_l, dj_app_r, dj_cons_l, dj_cons_r, dj_nil_l, dj_nil_r, dk_app, dk_cons, dk_nil, and_true, true_and, and_assoc]); repeat' (first | trivial | assumption | exact Dj.symm (by assumption) | exact Ne.symm (by assumption) | apply And.intro))), (show Dj Ko Kl15 from (by (try simp only [dj_app_l, dj_app_r, dj_cons_l, dj_cons_r, dj_nil_l, dj_nil_r, dk_app, dk_cons, dk_nil, and_true, true_and, and_assoc]); repeat' (first | trivial | assumption | exact Dj.symm (by assumption) | exact Ne.symm (by assumption) | apply And.intro))), (show Dj (Ti ++ ([] ++ Kl10)) Kl15 from (by (try simp only [dj_app_l, dj_app_r, dj_cons_l, dj_cons_r, dj_nil_l, dj_nil_r, dk_app, dk_cons, dk_nil, and_true, true_and, and_assoc]); repeat' (first | trivial | assumption | exact Dj.symm (by assumption) | exact Ne.symm (by assumption) | apply And.intro))), rfl, rfl, (hW16.sub (fun p hp => by first | exact hp | (simp only [List.mem_cons, List.mem_append, List.nil_append, List.not_mem_nil, or_assoc, or_false, false_or] at hp ⊢ <;> grind)))⟩, rfl⟩
          case measure => (show y2.length - (intOf (.int .i64 (((m + 1) : Nat) : Int))).toNat < y2.length - (intOf (.int .i64 ((m : Nat) : Int))).toNat); simp only [intOf]; omega
end Go.Proofs.Ytppegdbelgobiaa
/- Texts one after the other; the first error is that of the beginning up to it. Plain. -/
namespace Go.Proofs.Ytppegdbelgobiaa
open Go
def shM (d : Nat) : Md → Md
  | .out => .out
  | .ins es cs c => .ins es cs c
  | .rel p es cs c => .rel (d + p) es cs c
def shS (d : Nat) (l0 : List Sgm) (s : Sta) : Sta := ⟨l0 ++ s.segs, shM d s.md⟩
def shR (d : Nat) (l0 : List Sgm) : Res Sta → Res Sta
  | .ok s => .ok (shS d l0 s)
  | .bad p e => .bad (d + p) e
theorem putc_shift (d i : Nat) (x : UInt8) (l0 segs : List Sgm) (es : List Elt) (cs : List Cmp) (c : Cmp) : putc (d + i) x (l0 ++ segs) es cs c = shR d l0 (putc i x segs es cs c) := by
  unfold putc
  split <;> rfl
theorem inside_shift (d i : Nat) (x : UInt8) (l0 segs : List Sgm) (es : List Elt) (cs : List Cmp) (c : Cmp) : inside (d + i) x (l0 ++ segs) es cs c = shR d l0 (inside i x segs es cs c) := by
  unfold inside
  split
  · rfl
  · split
    · simp [shR, shS, shM]
    · split
      · split <;> rfl
      · split
        · split <;> rfl
        · split
          · rfl
          · exact putc_shift ..
theorem step_shift {d i : Nat} {x : UInt8} {l0 : List Sgm} {s : Sta} (h : l0.length + s.segs.length < 5000) : step (d + i) x (shS d l0 s) = shR d l0 (step i x s) := by
  obtain ⟨segs, md⟩ := s
  have h : l0.length + segs.length < 5000 := h
  match md with
  | .out =>
    show (if gap x = true then Res.ok (Sta.mk (l0 ++ segs) .out) else if 5000 ≤ (l0 ++ segs).length then .bad (d + i) 5 else inside (d + i) x (l0 ++ segs) [] [] []) = _
    simp only [step]
    rw [if_neg (c := 5000 ≤ (l0 ++ segs).length) (by simp; omega), if_neg (c := 5000 ≤ segs.length) (by omega), inside_shift]
    split <;> rfl
  | .ins es cs c => exact inside_shift ..
  | .rel p es cs c =>
    show (if (svc x || decide (x.toNat = 32)) = true then putc (d + p) x (l0 ++ segs) es cs c else .bad (d + p) 41) = _
    simp only [step]
    rw [putc_shift]
    split <;> rfl
theorem putc_count {i : Nat} {x : UInt8} {segs : List Sgm} {es : List Elt} {cs : List Cmp} {c : Cmp} {s' : Sta} (h : putc i x segs es cs c = .ok s') : s'.segs.length ≤ segs.length + 1 := by
  unfold putc at h
  split at h <;> cases h
  exact Nat.le_succ _
theorem inside_count {i : Nat} {x : UInt8} {segs : List Sgm} {es : List Elt} {cs : List Cmp} {c : Cmp} {s' : Sta} (h : inside i x segs es cs c = .ok s') : s'.segs.length ≤ segs.length + 1 := by
  unfold inside at h
  split at h
  · cases h
  · split at h
    · cases h; simp
    · split at h
      · split at h <;> cases h
        exact Nat.le_succ _
      · split at h
        · split at h <;> cases h
          exact Nat.le_succ _
        · split at h
          · cases h; exact Nat.le_succ _
          · exact putc_count h
theorem step_count {i : Nat} {x : UInt8} {s s' : Sta} (h : step i x s = .ok s') : s'.segs.length ≤ s.segs.length + 1 := by
  obtain ⟨segs, md⟩ := s
  match md, h with
  | .out, h =>
    simp only [step] at h
    split at h
    · cases h; exact Nat.le_succ _
    · split at h
      · cases h
      · exact inside_count h
  | .ins es cs c, h => exact inside_count h
  | .rel p es cs c, h =>
    simp only [step] at h
    split at h
    · exact putc_count h
    · cases h
theorem run_count : ∀ (l : List UInt8) (i : Nat) {s s' : Sta}, runS i l s = .ok s' → s'.segs.length ≤ s.segs.length + l.length := by
  intro l
  induction l with
  | nil => intro i s s' h; cases h; exact Nat.le_refl _
  | cons x l ih =>
    intro i s s' h
    unfold runS at h
    cases hs : step i x s with
    | bad p e => rw [hs] at h; cases h
    | ok s1 =>
      rw [hs] at h
      have h1 := ih (i + 1) h
      have h2 := step_count hs
      rw [List.length_cons]
      omega
theorem run_shift {d : Nat} {l0 : List Sgm} : ∀ (l : List UInt8) (i : Nat) (s : Sta), l0.length + s.segs.length + l.length < 5000 → runS (d + i) l (shS d l0 s) = shR d l0 (runS i l s) := by
  intro l
  induction l with
  | nil => intro i s _; rfl
  | cons x l ih =>
    intro i s h
    rw [List.length_cons] at h
    show (match step (d + i) x (shS d l0 s) with | .ok s' => runS (d + i + 1) l s' | .bad p e => .bad p e) = shR d l0 (match step i x s with | .ok s' => runS (i + 1) l s' | .bad p e => .bad p e)
    rw [step_shift (by omega)]
    cases hs : step i x s with
    | bad p e => rfl
    | ok s1 =>
      have h2 := step_count hs
      show runS (d + i + 1) l (shS d l0 s1) = shR d l0 (runS (i + 1) l s1)
      rw [show d + i + 1 = d + (i + 1) from by omega]
      exact ih (i + 1) s1 (by omega)
def shL (d : Nat) (l0 : List Sgm) : Res (List Sgm) → Res (List Sgm)
  | .ok m => .ok (l0 ++ m)
  | .bad p e => .bad (d + p) e
theorem end_shift (d n : Nat) (l0 : List Sgm) (r : Res Sta) : endS (d + n) (shR d l0 r) = shL d l0 (endS n r) := by
  match r with
  | .bad p e => rfl
  | .ok ⟨segs, .out⟩ => rfl
  | .ok ⟨segs, .ins es cs c⟩ => rfl
  | .ok ⟨segs, .rel p es cs c⟩ => rfl
theorem read_parts {a b : List UInt8} {l : List Sgm} (h : readT a = .ok l) (hl : a.length + b.length < 5000) : readT (a ++ b) = shL a.length l (readT b) := by
  have hr := read_run h
  have hc := run_count a 0 hr
  have hc : l.length ≤ [].length + a.length := hc
  simp only [List.length_nil] at hc
  unfold readT
  rw [if_neg (by rw [List.length_append]; omega), if_neg (by omega), runS_ok hr, List.length_append, ← end_shift]
  have := run_shift (d := a.length) (l0 := l) b 0 ⟨[], .out⟩ (by simp; omega)
  rw [← this]
  simp [shS, shM]
-- the first error
def notRel : Md → Prop
  | .rel _ _ _ _ => False
  | _ => True
theorem run_split : ∀ (l : List UInt8) (i : Nat) {s : Sta} {p e : Nat}, runS i l s = .bad p e → ∃ a x b s1, l = a ++ x :: b ∧ runS i a s = .ok s1 ∧ step (i + a.length) x s1 = .bad p e := by
  intro l
  induction l with
  | nil => intro i s p e h; cases h
  | cons x l ih =>
    intro i s p e h
    unfold runS at h
    cases hs : step i x s with
    | bad p' e' => rw [hs] at h; cases h; exact ⟨[], x, l, s, rfl, rfl, hs⟩
    | ok s1 =>
      rw [hs] at h
      obtain ⟨a, y, b, s2, rfl, h2, h3⟩ := ih (i + 1) h
      refine ⟨x :: a, y, b, s2, rfl, ?_, by rw [List.length_cons, show i + (a.length + 1) = i + 1 + a.length from by omega]; exact h3⟩
      unfold runS
      rw [hs]
      exact h2
theorem putc_bad {i p e : Nat} {x : UInt8} {segs : List Sgm} {es : List Elt} {cs : List Cmp} {c : Cmp} (h : putc i x segs es cs c = .bad p e) : p = i ∧ e ≠ 42 := by
  unfold putc at h
  split at h <;> cases h
  exact ⟨rfl, by decide⟩
theorem inside_bad {i p e : Nat} {x : UInt8} {segs : List Sgm} {es : List Elt} {cs : List Cmp} {c : Cmp} (h : inside i x segs es cs c = .bad p e) : p = i ∧ e ≠ 42 := by
  unfold inside at h
  split at h
  · cases h; exact ⟨rfl, by decide⟩
  · split at h
    · cases h
    · split at h
      · split at h <;> cases h
        exact ⟨rfl, by decide⟩
      · split at h
        · split at h <;> cases h
          exact ⟨rfl, by decide⟩
        · split at h
          · cases h
          · exact putc_bad h
theorem step_bad {i p e : Nat} {x : UInt8} {s : Sta} (h : step i x s = .bad p e) : e ≠ 42 ∧ ((p = i ∧ notRel s.md) ∨ ∃ es cs c, s.md = .rel p es cs c) := by
  obtain ⟨segs, md⟩ := s
  match md, h with
  | .out, h =>
    simp only [step] at h
    split at h
    · cases h
    · split at h
      · cases h; exact ⟨by decide, .inl ⟨rfl, trivial⟩⟩
      · obtain ⟨h1, h2⟩ := inside_bad h
        exact ⟨h2, .inl ⟨h1, trivial⟩⟩
  | .ins es cs c, h =>
    obtain ⟨h1, h2⟩ := inside_bad (show inside i x segs es cs c = _ from h)
    exact ⟨h2, .inl ⟨h1, trivial⟩⟩
  | .rel q es cs c, h =>
    simp only [step] at h
    split at h
    · obtain ⟨rfl, h2⟩ := putc_bad h
      exact ⟨h2, .inr ⟨es, cs, c, rfl⟩⟩
    · cases h; exact ⟨by decide, .inr ⟨es, cs, c, rfl⟩⟩
theorem putc_ins {i : Nat} {x : UInt8} {segs : List Sgm} {es : List Elt} {cs : List Cmp} {c : Cmp} {s' : Sta} (h : putc i x segs es cs c = .ok s') : notRel s'.md := by
  unfold putc at h
  split at h <;> cases h
  trivial
theorem inside_rel {i p : Nat} {x : UInt8} {segs segs' : List Sgm} {es es' : List Elt} {cs cs' : List Cmp} {c c' : Cmp} (h : inside i x segs es cs c = .ok ⟨segs', .rel p es' cs' c'⟩) : p = i ∧ x.toNat = 63 := by
  unfold inside at h
  split at h
  · cases h
  · split at h
    · cases h
    · split at h
      · split at h <;> cases h
      · split at h
        · split at h <;> cases h
        · split at h
          · rename_i h63
            cases h; exact ⟨rfl, h63⟩
          · exact absurd (putc_ins h) (by simp [notRel])
theorem step_rel {i p : Nat} {x : UInt8} {s : Sta} {segs : List Sgm} {es : List Elt} {cs : List Cmp} {c : Cmp} (h : step i x s = .ok ⟨segs, .rel p es cs c⟩) : p = i ∧ x.toNat = 63 ∧ notRel s.md := by
  obtain ⟨segs0, md⟩ := s
  match md, h with
  | .out, h =>
    simp only [step] at h
    split at h
    · cases h
    · split at h
      · cases h
      · obtain ⟨h1, h2⟩ := inside_rel h
        exact ⟨h1, h2, trivial⟩
  | .ins es0 cs0 c0, h =>
    obtain ⟨h1, h2⟩ := inside_rel (show inside i x segs0 es0 cs0 c0 = _ from h)
    exact ⟨h1, h2, trivial⟩
  | .rel q es0 cs0 c0, h =>
    simp only [step] at h
    split at h
    · exact absurd (putc_ins h) (by simp [notRel])
    · cases h
theorem run_rel {a : List UInt8} {p : Nat} {segs : List Sgm} {es : List Elt} {cs : List Cmp} {c : Cmp} (h : runS 0 a ⟨[], .out⟩ = .ok ⟨segs, .rel p es cs c⟩) : ∃ a' x s0, a = a' ++ [x] ∧ a'.length = p ∧ x.toNat = 63 ∧ runS 0 a' ⟨[], .out⟩ = .ok s0 ∧ notRel s0.md := by
  rcases List.eq_nil_or_concat a with rfl | ⟨a', x, rfl⟩
  · cases h
  · rw [List.concat_eq_append] at h ⊢
    cases hr : runS 0 a' ⟨[], .out⟩ with
    | bad q e => rw [runS_bad hr] at h; cases h
    | ok s0 =>
      rw [runS_ok hr, runS_one, Nat.zero_add] at h
      obtain ⟨h1, h2, h3⟩ := step_rel h
      exact ⟨a', x, s0, rfl, h1.symm, h2, hr, h3⟩
theorem read_upto {a : List UInt8} {s : Sta} (h : runS 0 a ⟨[], .out⟩ = .ok s) (hn : notRel s.md) (hl : a.length ≤ 65536) : (∃ l, readT a = .ok l) ∨ readT a = .bad a.length 42 := by
  unfold readT
  rw [if_neg (by omega), h]
  obtain ⟨segs, md⟩ := s
  match md, hn with
  | .out, _ => exact .inl ⟨_, rfl⟩
  | .ins es cs c, _ => exact .inr rfl
theorem read_first {t : List UInt8} {p e : Nat} (h : readT t = .bad p e) (hl : t.length ≤ 65536) (he : e ≠ 42) :
    ∃ x, t[p]? = some x ∧ ((∃ l, readT (t.take p) = .ok l) ∨ readT (t.take p) = .bad p 42) ∧
      ((x.toNat = 63 ∧ e = 41 ∧ p + 1 = t.length) ∨ ∀ k o, p + 1 ≤ k → (x.toNat = 63 → p + 2 ≤ k) → (t.take k ++ o).length ≤ 65536 → k ≤ t.length → readT (t.take k ++ o) = .bad p e) := by
  unfold readT at h
  rw [if_neg (by omega)] at h
  have fin : ∀ {a b o : List UInt8} {y : UInt8} {s1 : Sta}, t = a ++ y :: b → runS 0 a ⟨[], .out⟩ = .ok s1 → step a.length y s1 = .bad p e → ∀ k, a.length + 1 ≤ k → (t.take k ++ o).length ≤ 65536 → readT (t.take k ++ o) = .bad p e := by
    intro a b o y s1 ht hr hs k hk hlen
    unfold readT
    rw [if_neg (by omega), ht, show a ++ y :: b = (a ++ [y]) ++ b from by simp, List.take_append, List.take_of_length_le (by simp; omega), List.append_assoc, runS_bad]
    · rfl
    · rw [runS_ok hr, runS_one, Nat.zero_add]
      exact hs
  match hr : runS 0 t ⟨[], .out⟩, h with
  | .bad p' e', h =>
    cases h
    obtain ⟨a, y, b, s1, rfl, h1, h2⟩ := run_split t 0 hr
    rw [Nat.zero_add] at h2
    obtain ⟨_, ⟨rfl, hn⟩ | ⟨es, cs, c, hm⟩⟩ := step_bad h2
    · refine ⟨y, by simp, ?_, .inr fun k o hk _ hlen _ => fin rfl h1 h2 k hk hlen⟩
      rw [List.take_left]
      exact read_upto h1 hn (by rw [List.length_append] at hl; omega)
    · obtain ⟨segs, md⟩ := s1
      cases hm
      obtain ⟨a', x, s0, rfl, rfl, hx, h3, h4⟩ := run_rel h1
      rw [List.length_append, List.length_append] at hl
      refine ⟨x, by simp, ?_, .inr fun k o hk hk2 hlen _ => fin rfl h1 h2 k (by simpa using hk2 hx) hlen⟩
      rw [List.append_assoc, List.take_left]
      exact read_upto h3 h4 (by omega)
  | .ok ⟨segs, .out⟩, h => cases h
  | .ok ⟨segs, .ins es cs c⟩, h => cases h; exact absurd rfl he
  | .ok ⟨segs, .rel q es cs c⟩, h =>
    cases h
    obtain ⟨a', x, s0, rfl, rfl, hx, h3, h4⟩ := run_rel hr
    rw [List.length_append] at hl
    refine ⟨x, by simp, ?_, .inl ⟨hx, rfl, by simp⟩⟩
    rw [List.take_left]
    exact read_upto h3 h4 (by omega)
theorem read_where {t : List UInt8} {p e : Nat} (h : readT t = .bad p e) (hl : t.length ≤ 65536) : p ≤ t.length ∧ (p = t.length ↔ e = 42) := by
  by_cases he : e = 42
  · subst he
    unfold readT at h
    rw [if_neg (by omega)] at h
    match hr : runS 0 t ⟨[], .out⟩, h with
    | .bad p' e', h =>
      cases h
      obtain ⟨a, y, b, s1, rfl, h1, h2⟩ := run_split t 0 hr
      exact absurd rfl (step_bad h2).1
    | .ok ⟨segs, .out⟩, h => cases h
    | .ok ⟨segs, .ins es cs c⟩, h => cases h; simp
    | .ok ⟨segs, .rel q es cs c⟩, h => cases h
  · obtain ⟨x, hx, _⟩ := read_first h hl he
    have := (List.getElem?_eq_some_iff.1 hx).1
    exact ⟨by omega, by omega⟩
end Go.Proofs.Ytppegdbelgobiaa
namespace Go.Proofs.Ytppegdbelgobiaa
open Go Go.RowKit Tw
theorem right_f0 {s : Sgm} (h : s.length = 0) : rightS s = false := by unfold rightS; simp [h]
theorem right_f1 {s : Sgm} (h : 30 < s.length) : rightS s = false := by unfold rightS; simp; intro _ h2; omega
theorem all_f {α : Type} {f : α → Bool} {l : List α} {i : Nat} {x : α} (h : l[i]? = some x) (hf : f x = false) : l.all f = false := by
  cases ha : l.all f with
  | false => rfl
  | true => rw [List.all_eq_true.1 ha x (List.mem_of_getElem? h)] at hf; cases hf
theorem right_fe {s : Sgm} {i : Nat} {e : Elt} (h : s[i]? = some e) (hf : rightE e = false) : rightS s = false := by unfold rightS; rw [all_f h hf, Bool.and_false]
theorem elt_f0 {e : Elt} (h : e.length = 0) : rightE e = false := by unfold rightE; simp [h]
theorem elt_f1 {e : Elt} (h : 10 < e.length) : rightE e = false := by unfold rightE; simp; intro _ h2; omega
theorem elt_fc {e : Elt} {i : Nat} {c : Cmp} (h : e[i]? = some c) (hf : rightC c = false) : rightE e = false := by unfold rightE; rw [all_f h hf, Bool.and_false]
theorem cmp_fl {c : Cmp} (h : 100 < c.length) : rightC c = false := by unfold rightC; simp; intro h2; omega
theorem cmp_fb {c : Cmp} {i : Nat} {b : UInt8} (h : c[i]? = some b) (hf : may b = false) : rightC c = false := by unfold rightC; rw [all_f h hf, Bool.and_false]
theorem may_f0 {b : UInt8} (h : b.toNat < 32) : may b = false := by unfold may; simp; omega
theorem may_f1 {b : UInt8} (h : 126 < b.toNat) : may b = false := by unfold may; simp; omega
theorem may_t {b : UInt8} (h1 : ¬ b.toNat < 32) (h2 : ¬ 126 < b.toNat) : may b = true := by unfold may; simp; omega
theorem all_succ {α : Type} {f : α → Bool} {l : List α} {k : Nat} {x : α} (h : (l.take k).all f = true) (hx : l[k]? = some x) (hf : f x = true) : (l.take (k + 1)).all f = true := by
  obtain ⟨h1, rfl⟩ := List.getElem?_eq_some_iff.1 hx
  rw [List.take_succ_eq_append_getElem h1, List.all_append, h]
  simp [hf]
theorem all_take {α : Type} {f : α → Bool} {l : List α} {k : Nat} (h : (l.take k).all f = true) (hk : ¬ k < l.length) : l.all f = true := by rwa [List.take_of_length_le (by omega)] at h
theorem cmp_t {c : Cmp} (h : ¬ 100 < c.length) (ha : c.all may = true) : rightC c = true := by unfold rightC; rw [ha]; simp; omega
theorem elt_t {e : Elt} (h0 : ¬ e.length = 0) (h : ¬ 10 < e.length) (ha : e.all rightC = true) : rightE e = true := by unfold rightE; rw [ha]; simp; omega
theorem right_t {s : Sgm} (h0 : ¬ s.length = 0) (h : ¬ 30 < s.length) (ha : s.all rightE = true) : rightS s = true := by unfold rightS; rw [ha]; simp; omega
set_option maxRecDepth 100000 in
set_option maxHeartbeats 4000000 in
theorem svc_any (b : UInt8) (w : World) : Calls Try.prog 58 #[.int .u8 ((b.toNat : Nat) : Int)] w fun e w' => e = .returned (.bool (svc b)) ∧ Below w.heap.size w w' := by
  go_enter Try.func58, Try.ntmps58
  refine wp_seq ?_
  refine wp_region_L (W0 := w) [] (KS.start w) ?_
  refine lm (v := .bool false) rfl rfl ?_
  refine wpL_done (fun W1 hW1 => ?_)
  refine (show Code.wp _ _ _ _ _ from ?_)
  refine wp_seq ?_
  refine wp_region_L (W0 := w) [] (hW1) ?_
  refine lm (v := .int .u8 ((b.toNat : Nat) : Int)) rfl rfl ?_
  refine lp (v := .bool (decide (b.toNat = 39))) rfl rfl (run_bin rfl (vx := (.int .u8 ((b.toNat : Nat) : Int))) (vy := (.int .u8 ((39 : Nat) : Int))) (by kernel_rfl) (by kernel_rfl) fun w => bn_eql rfl w) ?_
  refine lm (v := .bool (decide (b.toNat = 39))) rfl rfl ?_
  cases hd1 : (decide (b.toNat = 39)) with
  | false =>
    have h1 : ¬ (b.toNat = 39) := of_decide_eq_false hd1
    clear hd1
    refine lm (v := .int .u8 ((b.toNat : Nat) : Int)) rfl rfl ?_
    refine lp (v := .bool (decide (b.toNat = 43))) rfl rfl (run_bin rfl (vx := (.int .u8 ((b.toNat : Nat) : Int))) (vy := (.int .u8 ((43 : Nat) : Int))) (by kernel_rfl) (by kernel_rfl) fun w => bn_eql rfl w) ?_
    refine lm (v := .bool (decide (b.toNat = 43))) rfl rfl ?_
    refine lm (v := .bool (decide (b.toNat = 43))) rfl rfl ?_
    cases hd2 : (decide (b.toNat = 43)) with
    | false =>
      have h2 : ¬ (b.toNat = 43) := of_decide_eq_false hd2
      clear hd2
      refine lm (v := .int .u8 ((b.toNat : Nat) : Int)) rfl rfl ?_
      refine lp (v := .bool (decide (b.toNat = 58))) rfl rfl (run_bin rfl (vx := (.int .u8 ((b.toNat : Nat) : Int))) (vy := (.int .u8 ((58 : Nat) : Int))) (by kernel_rfl) (by kernel_rfl) fun w => bn_eql rfl w) ?_
      refine lm (v := .bool (decide (b.toNat = 58))) rfl rfl ?_
      refine lm (v := .bool (decide (b.toNat = 58))) rfl rfl ?_
      cases hd3 : (decide (b.toNat = 58)) with
      | false =>
        have h3 : ¬ (b.toNat = 58) := of_decide_eq_false hd3
        clear hd3
        refine lm (v := .int .u8 ((b.toNat : Nat) : Int)) rfl rfl ?_
        refine lp (v := .bool (decide (b.toNat = 63))) rfl rfl (run_bin rfl (vx := (.int .u8 ((b.toNat : Nat) : Int))) (vy := (.int .u8 ((63 : Nat) : Int))) (by kernel_rfl) (by kernel_rfl) fun w => bn_eql rfl w) ?_
        refine lm (v := .bool (decide (b.toNat = 63))) rfl rfl ?_
        refine lm (v := .bool (decide (b.toNat = 63))) rfl rfl ?_
        refine wpL_done (fun W2 hW2 => ?_)
        refine (show Code.wp _ _ _ _ _ from ?_)
        refine wp_ret ?_
        try simp only [inBlock_ret, then_ret]
        refine bodyPost_ret (v := .bool (decide (b.toNat = 63))) ?_ rfl ?_
        · kernel_rfl
        · exact ⟨(bool_is (by unfold svc; simp [*])), hW2.1⟩
      | true =>
        have h3 : b.toNat = 58 := of_decide_eq_true hd3
        clear hd3
        refine ln rfl ?_
        refine ln rfl ?_
        refine lm (v := .bool true) rfl rfl ?_
        refine lm (v := .bool true) rfl rfl ?_
        refine wpL_done (fun W3 hW3 => ?_)
        refine (show Code.wp _ _ _ _ _ from ?_)
        refine wp_ret ?_
        try simp only [inBlock_ret, then_ret]
        refine bodyPost_ret (v := .bool true) ?_ rfl ?_
        · kernel_rfl
        · exact ⟨(bool_is (by unfold svc; simp [*])), hW3.1⟩
    | true =>
      have h2 : b.toNat = 43 := of_decide_eq_true hd2
      clear hd2
      refine ln rfl ?_
      refine ln rfl ?_
      refine lm (v := .bool true) rfl rfl ?_
      refine lm (v := .bool true) rfl rfl ?_
      refine ln rfl ?_
      refine ln rfl ?_
      refine lm (v := .bool true) rfl rfl ?_
      refine lm (v := .bool true) rfl rfl ?_
      refine wpL_done (fun W4 hW4 => ?_)
      refine (show Code.wp _ _ _ _ _ from ?_)
      refine wp_ret ?_
      try simp only [inBlock_ret, then_ret]
      refine bodyPost_ret (v := .bool true) ?_ rfl ?_
      · kernel_rfl
      · exact ⟨(bool_is (by unfold svc; simp [*])), hW4.1⟩
  | true =>
    have h1 : b.toNat = 39 := of_decide_eq_true hd1
    clear hd1
    refine ln rfl ?_
    refine ln rfl ?_
    refine lm (v := .bool true) rfl rfl ?_
    refine lm (v := .bool true) rfl rfl ?_
    refine ln rfl ?_
    refine ln rfl ?_
    refine lm (v := .bool true) rfl rfl ?_
    refine lm (v := .bool true) rfl rfl ?_
    refine ln rfl ?_
    refine ln rfl ?_
    refine lm (v := .bool true) rfl rfl ?_
    refine lm (v := .bool true) rfl rfl ?_
    refine wpL_done (fun W5 hW5 => ?_)
    refine (show Code.wp _ _ _ _ _ from ?_)
    refine wp_ret ?_
    try simp only [inBlock_ret, then_ret]
    refine bodyPost_ret (v := .bool true) ?_ rfl ?_
    · kernel_rfl
    · exact ⟨(bool_is (by unfold svc; simp [*])), hW5.1⟩
set_option maxRecDepth 100000 in
set_option maxHeartbeats 4000000 in
theorem RRight_any (A : List (List (List UInt8))) (pA : Option Addr) (cA : Nat) (w : World) (hA : LVp TxR w pA A) : Calls Try.prog 23 #[.slice pA A.length cA] w fun e w' => e = .returned (.bool (rightS A)) ∧ Below w.heap.size w w' := by
  have HA := Lib.hid hA
  clear hA
  go_enter Try.func23, Try.ntmps23
  refine wp_seq ?_
  refine wp_region_L (W0 := w) [] (KS.start w) ?_
  refine lm (v := .bool false) rfl rfl ?_
  refine wpL_done (fun W1 hW1 => ?_)
  refine (show Code.wp _ _ _ _ _ from ?_)
  refine wp_seq ?_
  refine wp_seq ?_
  refine wp_region_L (W0 := w) [] (hW1) ?_
  refine lm (v := .slice pA A.length cA) rfl rfl ?_
  refine lp (v := .int .i64 ((A.length : Nat) : Int)) rfl rfl (run_lenL (p := pA) (cap := cA) (n := A.length) rfl Try.underlying36 (by kernel_rfl)) ?_
  refine lp (v := .bool (decide (A.length = 0))) rfl rfl (run_bin rfl (vx := (.int .i64 ((A.length : Nat) : Int))) (vy := (.int .i64 ((0 : Nat) : Int))) (by kernel_rfl) (by kernel_rfl) fun w => bn_eql rfl w) ?_
  refine lm (v := .bool (decide (A.length = 0))) rfl rfl ?_
  cases hd1 : (decide (A.length = 0)) with
  | false =>
    have h1 : ¬ (A.length = 0) := of_decide_eq_false hd1
    clear hd1
    refine lm (v := .slice pA A.length cA) rfl rfl ?_
    refine lp (v := .int .i64 ((A.length : Nat) : Int)) rfl rfl (run_lenL (p := pA) (cap := cA) (n := A.length) rfl Try.underlying36 (by kernel_rfl)) ?_
    refine lp (v := .bool (decide (30 < A.length))) rfl rfl (run_bin rfl (vx := (.int .i64 ((A.length : Nat) : Int))) (vy := (.int .i64 ((30 : Nat) : Int))) (by kernel_rfl) (by kernel_rfl) fun w => bn_gtr rfl w) ?_
    refine lm (v := .bool (decide (30 < A.length))) rfl rfl ?_
    refine wpL_done (fun W2 hW2 => ?_)
    refine (show Code.wp _ _ _ _ _ from ?_)
    cases hd2 : (decide (30 < A.length)) with
    | false =>
      have h2 : ¬ (30 < A.length) := of_decide_eq_false hd2
      clear hd2
      refine wp_cond_false rfl ?_
      refine wp_skip ?_
      refine (show Code.wp _ _ _ _ _ from ?_)
      refine wp_seq ?_
      refine wp_seq ?_
      refine wp_region_L (W0 := w) [] (hW2) ?_
      refine lm (v := .int .i64 0) rfl rfl ?_
      refine wpL_done (fun W3 hW3 => ?_)
      refine (show Code.wp _ _ _ _ _ from ?_)
      refine wp_block ?_
      go_loopw [3] (fun u3 wr => ∃ (i : Nat), (i ≤ A.length) ∧ ((A.take i).all rightE = true) ∧ u3 = .int .i64 ((i : Nat) : Int) ∧ KS w [] wr) (fun u3 _ => A.length - (intOf u3).toNat)
      case atStart => exact ⟨0, (Nat.zero_le _), rfl, rfl, hW3⟩
      case round =>
        obtain ⟨i, hi, hR, rfl, hL4⟩ := hrel
        refine wp_seq ?_
        refine wp_seq ?_
        refine wp_region_L (W0 := w) [] (hL4) ?_
        refine lm (v := .int .i64 ((i : Nat) : Int)) rfl rfl ?_
        refine lm (v := .slice pA A.length cA) rfl rfl ?_
        refine lp (v := .int .i64 ((A.length : Nat) : Int)) rfl rfl (run_lenL (p := pA) (cap := cA) (n := A.length) rfl Try.underlying36 (by kernel_rfl)) ?_
        refine lp (v := .bool (decide (i < A.length))) rfl rfl (run_bin rfl (vx := (.int .i64 ((i : Nat) : Int))) (vy := (.int .i64 ((A.length : Nat) : Int))) (by kernel_rfl) (by kernel_rfl) fun w => bn_lss rfl w) ?_
        refine wpL_done (fun W5 hW5 => ?_)
        refine (show Code.wp _ _ _ _ _ from ?_)
        cases hd3 : (decide (i < A.length)) with
        | false =>
          have h3 : ¬ (i < A.length) := of_decide_eq_false hd3
          clear hd3
          refine wp_cond_false rfl ?_
          refine wp_exit ?_
          refine (show Code.wp _ _ _ _ _ from ?_)
          refine wp_seq ?_
          refine wp_region_L (W0 := w) [] (hW5) ?_
          refine lm (v := .bool true) rfl rfl ?_
          refine wpL_done (fun W6 hW6 => ?_)
          refine (show Code.wp _ _ _ _ _ from ?_)
          refine wp_ret ?_
          try simp only [inBlock_ret, then_ret]
          refine bodyPost_ret (v := .bool true) ?_ rfl ?_
          · kernel_rfl
          · exact ⟨(bool_is (by rw [eq_comm]; exact right_t h1 h2 (all_take hR h3))), hW6.1⟩
        | true =>
          have h3 : i < A.length := of_decide_eq_true hd3
          clear hd3
          refine wp_cond_true rfl ?_
          refine wp_skip ?_
          refine (show Code.wp _ _ _ _ _ from ?_)
          refine wp_seq ?_
          refine wp_block ?_
          refine wp_seq ?_
          refine wp_seq ?_
          refine wp_region_L (W0 := w) [] (hW5) ?_
          refine lm (v := .slice pA A.length cA) rfl rfl ?_
          refine lm (v := .int .i64 ((i : Nat) : Int)) rfl rfl ?_
          obtain ⟨y1, p1, c1, b1, f1, hy1, HY1, hp1, lt1, hc1⟩ := lvp_lst (k := i) HA.out (by omega)
          have HY1 := Lib.hid HY1
          refine lp (v := .pointer (some ⟨b1, f1 + i * 1, none⟩)) rfl rfl (run_idxQ (p := pA) (cap := cA) (n := A.length) (j := .i64) (k := i) (sz := 1) rfl Try.underlying36 (by kernel_rfl) (by kernel_rfl) hp1 (by kernel_rfl) (by omega)) ?_
          refine lv (v := .slice p1 y1.length c1) rfl rfl (yb_old (off := f1 + i * 1) rfl (by kernel_rfl) hc1 lt1 Try.underlying43 rfl) ?_
          refine lp (v := .int .i64 ((y1.length : Nat) : Int)) rfl rfl (run_lenL (p := p1) (cap := c1) (n := y1.length) rfl Try.underlying43 (by kernel_rfl)) ?_
          refine lp (v := .bool (decide (y1.length = 0))) rfl rfl (run_bin rfl (vx := (.int .i64 ((y1.length : Nat) : Int))) (vy := (.int .i64 ((0 : Nat) : Int))) (by kernel_rfl) (by kernel_rfl) fun w => bn_eql rfl w) ?_
          refine lm (v := .bool (decide (y1.length = 0))) rfl rfl ?_
          cases hd4 : (decide (y1.length = 0)) with
          | false =>
            have h4 : ¬ (y1.length = 0) := of_decide_eq_false hd4
            clear hd4
            refine lm (v := .slice pA A.length cA) rfl rfl ?_
            refine lm (v := .int .i64 ((i : Nat) : Int)) rfl rfl ?_
            refine lp (v := .pointer (some ⟨b1, f1 + i * 1, none⟩)) rfl rfl (run_idxQ (p := pA) (cap := cA) (n := A.length) (j := .i64) (k := i) (sz := 1) rfl Try.underlying36 (by kernel_rfl) (by kernel_rfl) hp1 (by kernel_rfl) (by omega)) ?_
            refine lv (v := .slice p1 y1.length c1) rfl rfl (yb_old (off := f1 + i * 1) rfl (by kernel_rfl) hc1 lt1 Try.underlying43 rfl) ?_
            refine lp (v := .int .i64 ((y1.length : Nat) : Int)) rfl rfl (run_lenL (p := p1) (cap := c1) (n := y1.length) rfl Try.underlying43 (by kernel_rfl)) ?_
            refine lp (v := .bool (decide (10 < y1.length))) rfl rfl (run_bin rfl (vx := (.int .i64 ((y1.length : Nat) : Int))) (vy := (.int .i64 ((10 : Nat) : Int))) (by kernel_rfl) (by kernel_rfl) fun w => bn_gtr rfl w) ?_
            refine lm (v := .bool (decide (10 < y1.length))) rfl rfl ?_
            refine wpL_done (fun W7 hW7 => ?_)
            refine (show Code.wp _ _ _ _ _ from ?_)
            cases hd5 : (decide (10 < y1.length)) with
            | false =>
              have h5 : ¬ (10 < y1.length) := of_decide_eq_false hd5
              clear hd5
              refine wp_cond_false rfl ?_
              refine wp_skip ?_
              refine (show Code.wp _ _ _ _ _ from ?_)
              refine wp_seq ?_
              refine wp_region_L (W0 := w) [] (hW7) ?_
              refine lm (v := .int .i64 0) rfl rfl ?_
              refine wpL_done (fun W8 hW8 => ?_)
              refine (show Code.wp _ _ _ _ _ from ?_)
              refine wp_block ?_
              go_loopw [4] (fun u4 wr => ∃ (k : Nat), (k ≤ y1.length) ∧ ((y1.take k).all rightC = true) ∧ u4 = .int .i64 ((k : Nat) : Int) ∧ KS w [] wr) (fun u4 _ => y1.length - (intOf u4).toNat)
              case atStart => exact ⟨0, (Nat.zero_le _), rfl, rfl, hW8⟩
              case round =>
                obtain ⟨k, hk, hU, rfl, hL9⟩ := hrel
                refine wp_seq ?_
                refine wp_seq ?_
                refine wp_region_L (W0 := w) [] (hL9) ?_
                refine lm (v := .int .i64 ((k : Nat) : Int)) rfl rfl ?_
                refine lm (v := .slice pA A.length cA) rfl rfl ?_
                refine lm (v := .int .i64 ((i : Nat) : Int)) rfl rfl ?_
                refine lp (v := .pointer (some ⟨b1, f1 + i * 1, none⟩)) rfl rfl (run_idxQ (p := pA) (cap := cA) (n := A.length) (j := .i64) (k := i) (sz := 1) rfl Try.underlying36 (by kernel_rfl) (by kernel_rfl) hp1 (by kernel_rfl) (by omega)) ?_
                refine lv (v := .slice p1 y1.length c1) rfl rfl (yb_old (off := f1 + i * 1) rfl (by kernel_rfl) hc1 lt1 Try.underlying43 rfl) ?_
                refine lp (v := .int .i64 ((y1.length : Nat) : Int)) rfl rfl (run_lenL (p := p1) (cap := c1) (n := y1.length) rfl Try.underlying43 (by kernel_rfl)) ?_
                refine lp (v := .bool (decide (k < y1.length))) rfl rfl (run_bin rfl (vx := (.int .i64 ((k : Nat) : Int))) (vy := (.int .i64 ((y1.length : Nat) : Int))) (by kernel_rfl) (by kernel_rfl) fun w => bn_lss rfl w) ?_
                refine wpL_done (fun W10 hW10 => ?_)
                refine (show Code.wp _ _ _ _ _ from ?_)
                cases hd6 : (decide (k < y1.length)) with
                | false =>
                  have h6 : ¬ (k < y1.length) := of_decide_eq_false hd6
                  clear hd6
                  refine wp_cond_false rfl ?_
                  refine wp_exit ?_
                  refine (show Code.wp _ _ _ _ _ from ?_)
                  refine wp_region_L (W0 := w) [] (hW10) ?_
                  refine lm (v := .int .i64 ((i : Nat) : Int)) rfl rfl ?_
                  refine lp (v := .int .i64 (((i + 1) : Nat) : Int)) rfl rfl (run_bin rfl (vx := (.int .i64 ((i : Nat) : Int))) (vy := (.int .i64 ((1 : Nat) : Int))) (by kernel_rfl) (by kernel_rfl) fun w => bn_add (z := (i + 1)) rfl (wr_i64 (by omega)) w) ?_
                  refine lm (v := .int .i64 (((i + 1) : Nat) : Int)) rfl rfl ?_
                  refine wpL_done (fun W11 hW11 => ?_)
                  go_roundw
                  case rel =>
                    repeat apply Exists.intro
                    exact ⟨⟨i + 1, (by omega), (all_succ hR hy1 (elt_t h4 h5 (all_take hU h6))), rfl, hW11⟩, rfl⟩
                  case measure => (show A.length - (intOf (.int .i64 (((i + 1) : Nat) : Int))).toNat < A.length - (intOf (.int .i64 ((i : Nat) : Int))).toNat); simp only [intOf]; omega
                | true =>
                  have h6 : k < y1.length := of_decide_eq_true hd6
                  clear hd6
                  refine wp_cond_true rfl ?_
                  refine wp_skip ?_
                  refine (show Code.wp _ _ _ _ _ from ?_)
                  refine wp_seq ?_
                  refine wp_block ?_
                  refine wp_seq ?_
                  refine wp_seq ?_
                  refine wp_region_L (W0 := w) [] (hW10) ?_
                  refine lm (v := .slice pA A.length cA) rfl rfl ?_
                  refine lm (v := .int .i64 ((i : Nat) : Int)) rfl rfl ?_
                  refine lp (v := .pointer (some ⟨b1, f1 + i * 1, none⟩)) rfl rfl (run_idxQ (p := pA) (cap := cA) (n := A.length) (j := .i64) (k := i) (sz := 1) rfl Try.underlying36 (by kernel_rfl) (by kernel_rfl) hp1 (by kernel_rfl) (by omega)) ?_
                  refine lv (v := .slice p1 y1.length c1) rfl rfl (yb_old (off := f1 + i * 1) rfl (by kernel_rfl) hc1 lt1 Try.underlying43 rfl) ?_
                  refine lm (v := .int .i64 ((k : Nat) : Int)) rfl rfl ?_
                  obtain ⟨y2, b2, f2, hy2, hp2, lt2, hc2⟩ := lvp_str (k := k) HY1.out (by omega)
                  refine lp (v := .pointer (some ⟨b2, f2 + k * 1, none⟩)) rfl rfl (run_idxQ (p := p1) (cap := c1) (n := y1.length) (j := .i64) (k := k) (sz := 1) rfl Try.underlying43 (by kernel_rfl) (by kernel_rfl) hp2 (by kernel_rfl) (by omega)) ?_
                  refine lv (v := strV y2) rfl rfl (yb_old (off := f2 + k * 1) rfl (by kernel_rfl) hc2 lt2 Try.underlying9 rfl) ?_
                  refine lp (v := .int .i64 ((y2.length : Nat) : Int)) rfl rfl (run_lenS (l := y2) rfl Try.underlying9 (by kernel_rfl)) ?_
                  refine lp (v := .bool (decide (100 < y2.length))) rfl rfl (run_bin rfl (vx := (.int .i64 ((y2.length : Nat) : Int))) (vy := (.int .i64 ((100 : Nat) : Int))) (by kernel_rfl) (by kernel_rfl) fun w => bn_gtr rfl w) ?_
                  refine wpL_done (fun W12 hW12 => ?_)
                  refine (show Code.wp _ _ _ _ _ from ?_)
                  cases hd7 : (decide (100 < y2.length)) with
                  | false =>
                    have h7 : ¬ (100 < y2.length) := of_decide_eq_false hd7
                    clear hd7
                    refine wp_cond_false rfl ?_
                    refine wp_skip ?_
                    refine (show Code.wp _ _ _ _ _ from ?_)
                    refine wp_seq ?_
                    refine wp_region_L (W0 := w) [] (hW12) ?_
                    refine lm (v := .int .i64 0) rfl rfl ?_
                    refine wpL_done (fun W13 hW13 => ?_)
                    refine (show Code.wp _ _ _ _ _ from ?_)
                    refine wp_block ?_
                    go_loopw [5] (fun u5 wr => ∃ (n : Nat), (n ≤ y2.length) ∧ ((y2.take n).all may = true) ∧ u5 = .int .i64 ((n : Nat) : Int) ∧ KS w [] wr) (fun u5 _ => y2.length - (intOf u5).toNat)
                    case atStart => exact ⟨0, (Nat.zero_le _), rfl, rfl, hW13⟩
                    case round =>
                      obtain ⟨n, hn, hV, rfl, hL14⟩ := hrel
                      refine wp_seq ?_
                      refine wp_seq ?_
                      refine wp_region_L (W0 := w) [] (hL14) ?_
                      refine lm (v := .int .i64 ((n : Nat) : Int)) rfl rfl ?_
                      refine lm (v := .slice pA A.length cA) rfl rfl ?_
                      refine lm (v := .int .i64 ((i : Nat) : Int)) rfl rfl ?_
                      refine lp (v := .pointer (some ⟨b1, f1 + i * 1, none⟩)) rfl rfl (run_idxQ (p := pA) (cap := cA) (n := A.length) (j := .i64) (k := i) (sz := 1) rfl Try.underlying36 (by kernel_rfl) (by kernel_rfl) hp1 (by kernel_rfl) (by omega)) ?_
                      refine lv (v := .slice p1 y1.length c1) rfl rfl (yb_old (off := f1 + i * 1) rfl (by kernel_rfl) hc1 lt1 Try.underlying43 rfl) ?_
                      refine lm (v := .int .i64 ((k : Nat) : Int)) rfl rfl ?_
                      refine lp (v := .pointer (some ⟨b2, f2 + k * 1, none⟩)) rfl rfl (run_idxQ (p := p1) (cap := c1) (n := y1.length) (j := .i64) (k := k) (sz := 1) rfl Try.underlying43 (by kernel_rfl) (by kernel_rfl) hp2 (by kernel_rfl) (by omega)) ?_
                      refine lv (v := strV y2) rfl rfl (yb_old (off := f2 + k * 1) rfl (by kernel_rfl) hc2 lt2 Try.underlying9 rfl) ?_
                      refine lp (v := .int .i64 ((y2.length : Nat) : Int)) rfl rfl (run_lenS (l := y2) rfl Try.underlying9 (by kernel_rfl)) ?_
                      refine lp (v := .bool (decide (n < y2.length))) rfl rfl (run_bin rfl (vx := (.int .i64 ((n : Nat) : Int))) (vy := (.int .i64 ((y2.length : Nat) : Int))) (by kernel_rfl) (by kernel_rfl) fun w => bn_lss rfl w) ?_
                      refine wpL_done (fun W15 hW15 => ?_)
                      refine (show Code.wp _ _ _ _ _ from ?_)
                      cases hd8 : (decide (n < y2.length)) with
                      | false =>
                        have h8 : ¬ (n < y2.length) := of_decide_eq_false hd8
                        clear hd8
                        refine wp_cond_false rfl ?_
                        refine wp_exit ?_
                        refine (show Code.wp _ _ _ _ _ from ?_)
                        refine wp_region_L (W0 := w) [] (hW15) ?_
                        refine lm (v := .int .i64 ((k : Nat) : Int)) rfl rfl ?_
                        refine lp (v := .int .i64 (((k + 1) : Nat) : Int)) rfl rfl (run_bin rfl (vx := (.int .i64 ((k : Nat) : Int))) (vy := (.int .i64 ((1 : Nat) : Int))) (by kernel_rfl) (by kernel_rfl) fun w => bn_add (z := (k + 1)) rfl (wr_i64 (by omega)) w) ?_
                        refine lm (v := .int .i64 (((k + 1) : Nat) : Int)) rfl rfl ?_
                        refine wpL_done (fun W16 hW16 => ?_)
                        go_roundw
                        case rel =>
                          repeat apply Exists.intro
                          exact ⟨⟨k + 1, (by omega), (all_succ hU hy2 (cmp_t h7 (all_take hV h8))), rfl, hW16⟩, rfl⟩
                        case measure => (show y1.length - (intOf (.int .i64 (((k + 1) : Nat) : Int))).toNat < y1.length - (intOf (.int .i64 ((k : Nat) : Int))).toNat); simp only [intOf]; omega
                      | true =>
                        have h8 : n < y2.length := of_decide_eq_true hd8
                        clear hd8
                        refine wp_cond_true rfl ?_
                        refine wp_skip ?_
                        refine (show Code.wp _ _ _ _ _ from ?_)
                        refine wp_seq ?_
                        refine wp_block ?_
                        refine wp_seq ?_
                        refine wp_region_L (W0 := w) [] (hW15) ?_
                        refine lm (v := .slice pA A.length cA) rfl rfl ?_
                        refine lm (v := .int .i64 ((i : Nat) : Int)) rfl rfl ?_
                        refine lp (v := .pointer (some ⟨b1, f1 + i * 1, none⟩)) rfl rfl (run_idxQ (p := pA) (cap := cA) (n := A.length) (j := .i64) (k := i) (sz := 1) rfl Try.underlying36 (by kernel_rfl) (by kernel_rfl) hp1 (by kernel_rfl) (by omega)) ?_
                        refine lv (v := .slice p1 y1.length c1) rfl rfl (yb_old (off := f1 + i * 1) rfl (by kernel_rfl) hc1 lt1 Try.underlying43 rfl) ?_
                        refine lm (v := .int .i64 ((k : Nat) : Int)) rfl rfl ?_
                        refine lp (v := .pointer (some ⟨b2, f2 + k * 1, none⟩)) rfl rfl (run_idxQ (p := p1) (cap := c1) (n := y1.length) (j := .i64) (k := k) (sz := 1) rfl Try.underlying43 (by kernel_rfl) (by kernel_rfl) hp2 (by kernel_rfl) (by omega)) ?_
                        refine lv (v := strV y2) rfl rfl (yb_old (off := f2 + k * 1) rfl (by kernel_rfl) hc2 lt2 Try.underlying9 rfl) ?_
                        refine lm (v := .int .i64 ((n : Nat) : Int)) rfl rfl ?_
                        obtain ⟨b3, hb3⟩ : ∃ b, (y2 : List UInt8)[n]? = some b := ⟨_, List.getElem?_eq_getElem (by omega)⟩
                        have lb3 := b3.toNat_lt
                        refine lp (v := .int .u8 ((b3.toNat : Nat) : Int)) rfl rfl (run_idxS (j := .i64) (l := y2) (k := n) (b := b3) rfl Try.underlying9 (by kernel_rfl) (by kernel_rfl) hb3) ?_
                        refine lp (v := .bool (decide (b3.toNat < 32))) rfl rfl (run_bin rfl (vx := (.int .u8 ((b3.toNat : Nat) : Int))) (vy := (.int .u8 ((32 : Nat) : Int))) (by kernel_rfl) (by kernel_rfl) fun w => bn_lss rfl w) ?_
                        refine lm (v := .bool (decide (b3.toNat < 32))) rfl rfl ?_
                        cases hd9 : (decide (b3.toNat < 32)) with
                        | false =>
                          have h9 : ¬ (b3.toNat < 32) := of_decide_eq_false hd9
                          clear hd9
                          refine lm (v := .slice pA A.length cA) rfl rfl ?_
                          refine lm (v := .int .i64 ((i : Nat) : Int)) rfl rfl ?_
                          refine lp (v := .pointer (some ⟨b1, f1 + i * 1, none⟩)) rfl rfl (run_idxQ (p := pA) (cap := cA) (n := A.length) (j := .i64) (k := i) (sz := 1) rfl Try.underlying36 (by kernel_rfl) (by kernel_rfl) hp1 (by kernel_rfl) (by omega)) ?_
                          refine lv (v := .slice p1 y1.length c1) rfl rfl (yb_old (off := f1 + i * 1) rfl (by kernel_rfl) hc1 lt1 Try.underlying43 rfl) ?_
                          refine lm (v := .int .i64 ((k : Nat) : Int)) rfl rfl ?_
                          refine lp (v := .pointer (some ⟨b2, f2 + k * 1, none⟩)) rfl rfl (run_idxQ (p := p1) (cap := c1) (n := y1.length) (j := .i64) (k := k) (sz := 1) rfl Try.underlying43 (by kernel_rfl) (by kernel_rfl) hp2 (by kernel_rfl) (by omega)) ?_
                          refine lv (v := strV y2) rfl rfl (yb_old (off := f2 + k * 1) rfl (by kernel_rfl) hc2 lt2 Try.underlying9 rfl) ?_
                          refine lm (v := .int .i64 ((n : Nat) : Int)) rfl rfl ?_
                          refine lp (v := .int .u8 ((b3.toNat : Nat) : Int)) rfl rfl (run_idxS (j := .i64) (l := y2) (k := n) (b := b3) rfl Try.underlying9 (by kernel_rfl) (by kernel_rfl) hb3) ?_
                          refine lp (v := .bool (decide (126 < b3.toNat))) rfl rfl (run_bin rfl (vx := (.int .u8 ((b3.toNat : Nat) : Int))) (vy := (.int .u8 ((126 : Nat) : Int))) (by kernel_rfl) (by kernel_rfl) fun w => bn_gtr rfl w) ?_
                          refine lm (v := .bool (decide (126 < b3.toNat))) rfl rfl ?_
                          refine wpL_done (fun W17 hW17 => ?_)
                          refine (show Code.wp _ _ _ _ _ from ?_)
                          cases hd10 : (decide (126 < b3.toNat)) with
                          | false =>
                            have h10 : ¬ (126 < b3.toNat) := of_decide_eq_false hd10
                            clear hd10
                            refine wp_cond_false rfl ?_
                            refine wp_skip ?_
                            refine (show Code.wp _ _ _ _ _ from ?_)
                            refine wp_region_L (W0 := w) [] (hW17) ?_
                            refine lm (v := .int .i64 ((n : Nat) : Int)) rfl rfl ?_
                            refine lp (v := .int .i64 (((n + 1) : Nat) : Int)) rfl rfl (run_bin rfl (vx := (.int .i64 ((n : Nat) : Int))) (vy := (.int .i64 ((1 : Nat) : Int))) (by kernel_rfl) (by kernel_rfl) fun w => bn_add (z := (n + 1)) rfl (wr_i64 (by omega)) w) ?_
                            refine lm (v := .int .i64 (((n + 1) : Nat) : Int)) rfl rfl ?_
                            refine wpL_done (fun W18 hW18 => ?_)
                            go_roundw
                            case rel =>
                              repeat apply Exists.intro
                              exact ⟨⟨n + 1, (by omega), (all_succ hV hb3 (may_t h9 h10)), rfl, hW18⟩, rfl⟩
                            case measure => (show y2.length - (intOf (.int .i64 (((n + 1) : Nat) : Int))).toNat < y2.length - (intOf (.int .i64 ((n : Nat) : Int))).toNat); simp only [intOf]; omega
                          | true =>
                            have h10 : 126 < b3.toNat := of_decide_eq_true hd10
                            clear hd10
                            refine wp_cond_true rfl ?_
                            refine wp_seq ?_
                            refine wp_region_L (W0 := w) [] (hW17) ?_
                            refine lm (v := .bool false) rfl rfl ?_
                            refine wpL_done (fun W19 hW19 => ?_)
                            refine (show Code.wp _ _ _ _ _ from ?_)
                            refine wp_ret ?_
                            try simp only [inBlock_ret, then_ret]
                            refine bodyPost_ret (v := .bool false) ?_ rfl ?_
                            · kernel_rfl
                            · exact ⟨(bool_is (by rw [eq_comm]; exact right_fe hy1 (elt_fc hy2 (cmp_fb hb3 (may_f1 h10))))), hW19.1⟩
                        | true =>
                          have h9 : b3.toNat < 32 := of_decide_eq_true hd9
                          clear hd9
                          refine ln rfl ?_
                          refine ln rfl ?_
                          refine ln rfl ?_
                          refine ln rfl ?_
                          refine ln rfl ?_
                          refine ln rfl ?_
                          refine ln rfl ?_
                          refine ln rfl ?_
                          refine ln rfl ?_
                          refine ln rfl ?_
                          refine lm (v := .bool true) rfl rfl ?_
                          refine wpL_done (fun W20 hW20 => ?_)
                          refine (show Code.wp _ _ _ _ _ from ?_)
                          refine wp_cond_true rfl ?_
                          refine wp_seq ?_
                          refine wp_region_L (W0 := w) [] (hW20) ?_
                          refine lm (v := .bool false) rfl rfl ?_
                          refine wpL_done (fun W21 hW21 => ?_)
                          refine (show Code.wp _ _ _ _ _ from ?_)
                          refine wp_ret ?_
                          try simp only [inBlock_ret, then_ret]
                          refine bodyPost_ret (v := .bool false) ?_ rfl ?_
                          · kernel_rfl
                          · exact ⟨(bool_is (by rw [eq_comm]; exact right_fe hy1 (elt_fc hy2 (cmp_fb hb3 (may_f0 h9))))), hW21.1⟩
                  | true =>
                    have h7 : 100 < y2.length := of_decide_eq_true hd7
                    clear hd7
                    refine wp_cond_true rfl ?_
                    refine wp_seq ?_
                    refine wp_region_L (W0 := w) [] (hW12) ?_
                    refine lm (v := .bool false) rfl rfl ?_
                    refine wpL_done (fun W22 hW22 => ?_)
                    refine (show Code.wp _ _ _ _ _ from ?_)
                    refine wp_ret ?_
                    try simp only [inBlock_ret, then_ret]
                    refine bodyPost_ret (v := .bool false) ?_ rfl ?_
                    · kernel_rfl
                    · exact ⟨(bool_is (by rw [eq_comm]; exact right_fe hy1 (elt_fc hy2 (cmp_fl h7)))), hW22.1⟩
            | true =>
              have h5 : 10 < y1.length := of_decide_eq_true hd5
              clear hd5
              refine wp_cond_true rfl ?_
              refine wp_seq ?_
              refine wp_region_L (W0 := w) [] (hW7) ?_
              refine lm (v := .bool false) rfl rfl ?_
              refine wpL_done (fun W23 hW23 => ?_)
              refine (show Code.wp _ _ _ _ _ from ?_)
              refine wp_ret ?_
              try simp only [inBlock_ret, then_ret]
              refine bodyPost_ret (v := .bool false) ?_ rfl ?_
              · kernel_rfl
              · exact ⟨(bool_is (by rw [eq_comm]; exact right_fe hy1 (elt_f1 h5))), hW23.1⟩
          | true =>
            have h4 : y1.length = 0 := of_decide_eq_true hd4
            clear hd4
            refine ln rfl ?_
            refine ln rfl ?_
            refine ln rfl ?_
            refine ln rfl ?_
            refine ln rfl ?_
            refine ln rfl ?_
            refine lm (v := .bool true) rfl rfl ?_
            refine wpL_done (fun W24 hW24 => ?_)
            refine (show Code.wp _ _ _ _ _ from ?_)
            refine wp_cond_true rfl ?_
            refine wp_seq ?_
            refine wp_region_L (W0 := w) [] (hW24) ?_
            refine lm (v := .bool false) rfl rfl ?_
            refine wpL_done (fun W25 hW25 => ?_)
            refine (show Code.wp _ _ _ _ _ from ?_)
            refine wp_ret ?_
            try simp only [inBlock_ret, then_ret]
            refine bodyPost_ret (v := .bool false) ?_ rfl ?_
            · kernel_rfl
            · exact ⟨(bool_is (by rw [eq_comm]; exact right_fe hy1 (elt_f0 h4))), hW25.1⟩
    | true =>
      have h2 : 30 < A.length := of_decide_eq_true hd2
      clear hd2
      refine wp_cond_true rfl ?_
      refine wp_seq ?_
      refine wp_region_L (W0 := w) [] (hW2) ?_
      refine lm (v := .bool false) rfl rfl ?_
      refine wpL_done (fun W26 hW26 => ?_)
      refine (show Code.wp _ _ _ _ _ from ?_)
      refine wp_ret ?_
      try simp only [inBlock_ret, then_ret]
      refine bodyPost_ret (v := .bool false) ?_ rfl ?_
      · kernel_rfl
      · exact ⟨(bool_is (by rw [eq_comm]; exact right_f1 h2)), hW26.1⟩
  | true =>
    have h1 : A.length = 0 := of_decide_eq_true hd1
    clear hd1
    refine ln rfl ?_
    refine ln rfl ?_
    refine ln rfl ?_
    refine lm (v := .bool true) rfl rfl ?_
    refine wpL_done (fun W27 hW27 => ?_)
    refine (show Code.wp _ _ _ _ _ from ?_)
    refine wp_cond_true rfl ?_
    refine wp_seq ?_
    refine wp_region_L (W0 := w) [] (hW27) ?_
    refine lm (v := .bool false) rfl rfl ?_
    refine wpL_done (fun W28 hW28 => ?_)
    refine (show Code.wp _ _ _ _ _ from ?_)
    refine wp_ret ?_
    try simp only [inBlock_ret, then_ret]
    refine bodyPost_ret (v := .bool false) ?_ rfl ?_
    · kernel_rfl
    · exact ⟨(bool_is (by rw [eq_comm]; exact right_f0 h1)), hW28.1⟩
end Go.Proofs.Ytppegdbelgobiaa
namespace Go.Proofs.Ytppegdbelgobiaa
open Go Go.RowKit Tw
theorem el_byteM : Elem Try.prog 26 5 1 1 (.int .u8 0) := Elem.mk' Try.underlying26 (by kernel_rfl) rfl
def mkB (b : UInt8) : UInt8 := UInt8.ofNat (32 + b.toNat % 95)
def mkC (c : Cmp) : Cmp := (c.take 100).map mkB
def mkT (e : Elt) : Elt := if e.length = 0 then [[]] else (e.take 10).map mkC
def mkS (s : Sgm) : Sgm := if s.length = 0 then [[[]]] else (s.take 30).map mkT
def madeL (A : List Sgm) : List Sgm := A.map mkS
theorem take_snoc1 {α : Type} {c : List α} {i : Nat} {b : α} (h : c[i]? = some b) : c.take (i + 1) = c.take i ++ [b] := by
  obtain ⟨h1, rfl⟩ := List.getElem?_eq_some_iff.1 h
  rw [List.take_succ_eq_append_getElem h1]
theorem mkB_val (b : UInt8) : (mkB b).toNat = 32 + b.toNat % 95 := by
  unfold mkB
  rw [UInt8.toNat_ofNat']
  omega
theorem take_map {α β : Type} {f : α → β} {l : List α} {k : Nat} {x : α} (h : l[k]? = some x) : (l.take (k + 1)).map f = (l.take k).map f ++ [f x] := by
  rw [take_snoc1 h, List.map_append]
  rfl
theorem mk_step {W0 : Base} {E : TypeId} {v : Value} {c : Cmp} {n : Nat} {b : UInt8} {K : List (Nat × Obj)} (hb : c[n]? = some b) (h : OwnL W0 E 1 v (n + 1) (u8s ((c.take n).map mkB) ++ [.int .u8 (((32 + (b.toNat % 95) : Nat)) : Int)]) K) : OwnL W0 E 1 v (n + 1) (u8s ((c.take (n + 1)).map mkB)) K := by
  rw [take_map hb, u8s_app]
  simpa [u8s, mkB_val] using h
theorem end_map {α β : Type} {f : α → β} {l : List α} {n m : Nat} (h1 : n ≤ l.length) (h2 : n ≤ m) (h : n = l.length ∨ n = m) : (l.take n).map f = (l.take m).map f := by
  rcases h with rfl | rfl
  · rw [List.take_of_length_le (Nat.le_refl _), List.take_of_length_le h2]
  · rfl
theorem str_step {W0 : Base} {E : TypeId} {v : Value} {e : Elt} {k : Nat} {y z : Cmp} {K : List (Nat × Obj)} (hy : e[k]? = some y) (hz : z = mkC y) (h : OwnL W0 E 1 v (k + 1) (((e.take k).map mkC).map strV ++ [strV z]) K) : OwnL W0 E 1 v (k + 1) (((e.take (k + 1)).map mkC).map strV) K := by
  rw [take_map hy, List.map_append]
  rw [hz] at h
  exact h
theorem mke_map {α β : Type} {R : World → Value → β → Prop} {W0 : Base} {xs : List Value} {f : α → β} {l : List α} {k : Nat} {y : α} {T : List (Nat × Obj)} (h : MkE R W0 xs ((l.take k).map f ++ [f y]) T) (hy : l[k]? = some y) : MkE R W0 xs ((l.take (k + 1)).map f) T := by
  rwa [take_map hy]
theorem lv_block {α : Type} {R : World → Value → α → Prop} {W0 : Base} {g : Nat} {x : Value} {y : α} {t : TypeId} {fr : Nat × Nat} {T : List (Nat × Obj)} (hx : MkV R W0 x y T) : MkV (LV R) W0 (.slice (some ⟨g, 0, none⟩) 1 1) [y] ((g, .cells #[x] t fr) :: T) := by
  intro W hW
  have hb := hW.2 _ (.head _)
  refine ⟨some ⟨g, 0, none⟩, 1, rfl, [x], .inr ⟨g, 0, rfl, lt_of_block hb, fun i u hu => ?_⟩, rfl, fun k u v hu hv => ?_⟩
  · match i, hu with
    | 0, hu => cases hu; rw [cell_of_row W g (0 + 0) #[x] t fr hb]; rfl
  · match k, hu with
    | 0, hu => cases hu; cases hv; exact hx W hW.tail
theorem mkT_nil {e : Elt} (h : e.length = 0) : mkT e = [[]] := if_pos h
theorem mkT_some {e : Elt} {k : Nat} (h : ¬ k = 0) (h1 : k ≤ e.length) (h2 : k ≤ 10) (h3 : k = e.length ∨ k = 10) : mkT e = (e.take k).map mkC := by
  unfold mkT
  rw [if_neg (by omega), end_map h1 h2 h3]
theorem mkS_nil {s : Sgm} (h : s.length = 0) : mkS s = [[[]]] := if_pos h
theorem mkS_some {s : Sgm} {k : Nat} (h : ¬ k = 0) (h1 : k ≤ s.length) (h2 : k ≤ 30) (h3 : k = s.length ∨ k = 30) : mkS s = (s.take k).map mkT := by
  unfold mkS
  rw [if_neg (by omega), end_map h1 h2 h3]
theorem strv_empty {W0 : Base} : MkV StrR W0 (strV []) [] [] := fun _ _ => rfl
set_option maxRecDepth 100000 in
set_option maxHeartbeats 40000000 in
theorem made_any {W0 : World} (A : List (List (List (List UInt8)))) (pA : Option Addr) (cA : Nat) (lA : A.length ≤ 4000000000) (hA : LVp ElR W0 pA A) (w : World) (hw : KS (W0 : Base) [] w) : Calls Try.prog 13 #[.slice pA A.length cA] w fun e w' => ∃ v T, e = .returned v ∧ KS (W0 : Base) T w' ∧ MkV SgR (W0 : Base) v (madeL A) T := by
  have HA := Lib.hid hA
  clear hA
  go_enter Try.func13, Try.ntmps13
  refine wp_seq ?_
  refine wp_region_L (W0 := (W0 : Base)) [] (hw) ?_
  refine lm (v := .slice none 0 0) rfl rfl ?_
  refine wpL_done (fun W1 hW1 => ?_)
  refine (show Code.wp _ _ _ _ _ from ?_)
  refine wp_seq ?_
  refine wp_region_L (W0 := (W0 : Base)) [] (hW1) ?_
  refine lm (v := .slice none 0 0) rfl rfl ?_
  refine wpL_done (fun W2 hW2 => ?_)
  refine (show Code.wp _ _ _ _ _ from ?_)
  refine wp_seq ?_
  refine wp_seq ?_
  refine wp_region_L (W0 := (W0 : Base)) [] (hW2) ?_
  refine lm (v := .slice pA A.length cA) rfl rfl ?_
  refine lp (v := .int .i64 ((A.length : Nat) : Int)) rfl rfl (run_lenL (p := pA) (cap := cA) (n := A.length) rfl Try.underlying24 (by kernel_rfl)) ?_
  refine lm (v := .int .i64 0) rfl rfl ?_
  refine wpL_done (fun W3 hW3 => ?_)
  refine (show Code.wp _ _ _ _ _ from ?_)
  refine wp_block ?_
  go_loopw [14, 3] (fun u14 u3 wr => ∃ (h : Nat) (vo : Value) (xo : List Value) (To Ko : List (Nat × Obj)), (h ≤ A.length) ∧ (OwnL (W0 : Base) 37 1 vo h xo Ko) ∧ (MkE ElR (W0 : Base) xo ((A.take h).map mkS) To) ∧ (Dj To Ko) ∧ u14 = .int .i64 ((h : Nat) : Int) ∧ vo = u3 ∧ KS (W0 : Base) (To ++ Ko) wr) (fun u14 _ _ => A.length - (intOf u14).toNat)
  case atStart => exact ⟨0, (.slice none 0 0), [], [], [], (Nat.zero_le _), (OwnL.nil _ _ _), MkE.nil, (show Dj [] [] from (by (try simp only [dj_app_l, dj_app_r, dj_cons_l, dj_cons_r, dj_nil_l, dj_nil_r, dk_app, dk_cons, dk_nil, and_true, true_and, and_assoc]); repeat' (first | trivial | assumption | exact Dj.symm (by assumption) | exact Ne.symm (by assumption) | apply And.intro))), rfl, rfl, (hW3.sub (fun p hp => by first | exact hp | (simp only [List.mem_cons, List.mem_append, List.nil_append, List.not_mem_nil, or_assoc, or_false, false_or] at hp ⊢ <;> grind)))⟩
  case round =>
    obtain ⟨h, vo, xo, To, Ko, hh, hOo, hEo, dh1_0, rfl, rfl, hL4⟩ := hrel
    refine wp_seq ?_
    refine wp_region_L (W0 := (W0 : Base)) (To ++ Ko) (hL4) ?_
    refine lp (v := .bool (decide (h < A.length))) rfl rfl (run_bin rfl (vx := (.int .i64 ((h : Nat) : Int))) (vy := (.int .i64 ((A.length : Nat) : Int))) (by kernel_rfl) (by kernel_rfl) fun w => bn_lss rfl w) ?_
    refine wpL_done (fun W5 hW5 => ?_)
    refine (show Code.wp _ _ _ _ _ from ?_)
    refine wp_seq ?_
    cases hd1 : (decide (h < A.length)) with
    | false =>
      have h1 : ¬ (h < A.length) := of_decide_eq_false hd1
      clear hd1
      refine wp_cond_false rfl ?_
      refine wp_exit ?_
      refine (show Code.wp _ _ _ _ _ from ?_)
      refine wp_seq ?_
      refine wp_region_L (W0 := (W0 : Base)) (To ++ Ko) (hW5) ?_
      refine lm (v := vo) rfl rfl ?_
      refine lm (v := vo) rfl rfl ?_
      refine wpL_done (fun W6 hW6 => ?_)
      refine (show Code.wp _ _ _ _ _ from ?_)
      refine wp_ret ?_
      try simp only [inBlock_ret, then_ret]
      refine bodyPost_ret (v := vo) ?_ rfl ?_
      · kernel_rfl
      · exact ⟨_, To ++ Ko, rfl, (hW6.sub (fun p hp => by simp only [List.mem_cons, List.mem_append, List.nil_append, List.not_mem_nil, or_assoc, or_false, false_or] at hp ⊢ <;> grind)), MkE.mk hOo (by have z := hEo; rw [List.take_of_length_le (by omega)] at z; exact z) (by simp [madeL]; omega)⟩
    | true =>
      have h1 : h < A.length := of_decide_eq_true hd1
      clear hd1
      refine wp_cond_true rfl ?_
      refine wp_skip ?_
      refine (show Code.wp _ _ _ _ _ from ?_)
      refine wp_seq ?_
      refine wp_block ?_
      refine wp_seq ?_
      refine wp_region_L (W0 := (W0 : Base)) (To ++ Ko) (hW5) ?_
      obtain ⟨y2, p2, c2, b2, f2, hy2, HY2, hp2, lt2, hc2⟩ := lvp_lst (k := h) HA.out (by omega)
      have HY2 := Lib.hid HY2
      refine lp (v := .pointer (some ⟨b2, f2 + h * 1, none⟩)) rfl rfl (run_idxQ (p := pA) (cap := cA) (n := A.length) (j := .i64) (k := h) (sz := 1) rfl Try.underlying24 (by kernel_rfl) (by kernel_rfl) hp2 (by kernel_rfl) (by omega)) ?_
      refine lv (v := .slice p2 y2.length c2) rfl rfl (yb_old (off := f2 + h * 1) rfl (by kernel_rfl) hc2 lt2 Try.underlying37 rfl) ?_
      refine lm (v := .slice p2 y2.length c2) rfl rfl ?_
      refine wpL_done (fun W7 hW7 => ?_)
      refine (show Code.wp _ _ _ _ _ from ?_)
      refine wp_seq ?_
      refine wp_region_L (W0 := (W0 : Base)) (To ++ Ko) (hW7) ?_
      refine lm (v := .slice none 0 0) rfl rfl ?_
      refine wpL_done (fun W8 hW8 => ?_)
      refine (show Code.wp _ _ _ _ _ from ?_)
      refine wp_seq ?_
      refine wp_seq ?_
      refine wp_region_L (W0 := (W0 : Base)) (To ++ Ko) (hW8) ?_
      refine lm (v := .int .i64 0) rfl rfl ?_
      refine wpL_done (fun W9 hW9 => ?_)
      refine (show Code.wp _ _ _ _ _ from ?_)
      refine wp_block ?_
      go_loopw [7, 6] (fun u7 u6 wr => ∃ (i : Nat) (vt : Value) (xt : List Value) (Tt Kt : List (Nat × Obj)), (i ≤ y2.length) ∧ (i ≤ 30) ∧ (OwnL (W0 : Base) 43 1 vt i xt Kt) ∧ (MkE TxR (W0 : Base) xt ((y2.take i).map mkT) Tt) ∧ (Dj To Tt) ∧ (Dj Ko Tt) ∧ (Dj To Kt) ∧ (Dj Ko Kt) ∧ (Dj Tt Kt) ∧ u7 = .int .i64 ((i : Nat) : Int) ∧ vt = u6 ∧ KS (W0 : Base) (To ++ (Ko ++ (Tt ++ Kt))) wr) (fun u7 _ _ => 30 - (intOf u7).toNat)
      case atStart => exact ⟨0, (.slice none 0 0), [], [], [], (Nat.zero_le _), (Nat.zero_le _), (OwnL.nil _ _ _), MkE.nil, (show Dj To [] from (by (try simp only [dj_app_l, dj_app_r, dj_cons_l, dj_cons_r, dj_nil_l, dj_nil_r, dk_app, dk_cons, dk_nil, and_true, true_and, and_assoc]); repeat' (first | trivial | assumption | exact Dj.symm (by assumption) | exact Ne.symm (by assumption) | apply And.intro))), (show Dj Ko [] from (by (try simp only [dj_app_l, dj_app_r, dj_cons_l, dj_cons_r, dj_nil_l, dj_nil_r, dk_app, dk_cons, dk_nil, and_true, true_and, and_assoc]); repeat' (first | trivial | assumption | exact Dj.symm (by assumption) | exact Ne.symm (by assumption) | apply And.intro))), (show Dj To [] from (by (try simp only [dj_app_l, dj_app_r, dj_cons_l, dj_cons_r, dj_nil_l, dj_nil_r, dk_app, dk_cons, dk_nil, and_true, true_and, and_assoc]); repeat' (first | trivial | assumption | exact Dj.symm (by assumption) | exact Ne.symm (by assumption) | apply And.intro))), (show Dj Ko [] from (by (try simp only [dj_app_l, dj_app_r, dj_cons_l, dj_cons_r, dj_nil_l, dj_nil_r, dk_app, dk_cons, dk_nil, and_true, true_and, and_assoc]); repeat' (first | trivial | assumption | exact Dj.symm (by assumption) | exact Ne.symm (by assumption) | apply And.intro))), (show Dj [] [] from (by (try simp only [dj_app_l, dj_app_r, dj_cons_l, dj_cons_r, dj_nil_l, dj_nil_r, dk_app, dk_cons, dk_nil, and_true, true_and, and_assoc]); repeat' (first | trivial | assumption | exact Dj.symm (by assumption) | exact Ne.symm (by assumption) | apply And.intro))), rfl, rfl, (hW9.sub (fun p hp => by first | exact hp | (simp only [List.mem_cons, List.mem_append, List.nil_append, List.not_mem_nil, or_assoc, or_false, false_or] at hp ⊢ <;> grind)))⟩
      case round =>
        obtain ⟨i, vt, xt, Tt, Kt, hi, hi2, hOt, hEt, dh3_0, dh3_1, dh3_2, dh3_3, dh3_4, rfl, rfl, hL10⟩ := hrel
        refine wp_seq ?_
        refine wp_seq ?_
        refine wp_region_L (W0 := (W0 : Base)) (To ++ (Ko ++ (Tt ++ Kt))) (hL10) ?_
        refine lm (v := .int .i64 ((i : Nat) : Int)) rfl rfl ?_
        refine lm (v := .slice p2 y2.length c2) rfl rfl ?_
        refine lp (v := .int .i64 ((y2.length : Nat) : Int)) rfl rfl (run_lenL (p := p2) (cap := c2) (n := y2.length) rfl Try.underlying37 (by kernel_rfl)) ?_
        refine lp (v := .bool (decide (i < y2.length))) rfl rfl (run_bin rfl (vx := (.int .i64 ((i : Nat) : Int))) (vy := (.int .i64 ((y2.length : Nat) : Int))) (by kernel_rfl) (by kernel_rfl) fun w => bn_lss rfl w) ?_
        refine lm (v := .bool (decide (i < y2.length))) rfl rfl ?_
        cases hd2 : (decide (i < y2.length)) with
        | false =>
          have h2 : ¬ (i < y2.length) := of_decide_eq_false hd2
          clear hd2
          refine ln rfl ?_
          refine ln rfl ?_
          refine lm (v := .bool false) rfl rfl ?_
          refine wpL_done (fun W11 hW11 => ?_)
          refine (show Code.wp _ _ _ _ _ from ?_)
          refine wp_cond_false rfl ?_
          refine wp_exit ?_
          refine (show Code.wp _ _ _ _ _ from ?_)
          refine wp_seq ?_
          refine wp_seq ?_
          refine wp_region_L (W0 := (W0 : Base)) (To ++ (Ko ++ (Tt ++ Kt))) (hW11) ?_
          refine lm (v := vt) rfl rfl ?_
          refine lp (v := .int .i64 ((i : Nat) : Int)) rfl rfl (run_lenO (W0 := (W0 : Base)) rfl Try.underlying37 (by kernel_rfl) hOt) ?_
          refine lp (v := .bool (decide (i = 0))) rfl rfl (run_bin rfl (vx := (.int .i64 ((i : Nat) : Int))) (vy := (.int .i64 ((0 : Nat) : Int))) (by kernel_rfl) (by kernel_rfl) fun w => bn_eql rfl w) ?_
          refine wpL_done (fun W12 hW12 => ?_)
          refine (show Code.wp _ _ _ _ _ from ?_)
          cases hd3 : (decide (i = 0)) with
          | false =>
            have h3 : ¬ (i = 0) := of_decide_eq_false hd3
            clear hd3
            refine wp_cond_false rfl ?_
            refine wp_skip ?_
            refine (show Code.wp _ _ _ _ _ from ?_)
            refine wp_region_L (W0 := (W0 : Base)) (To ++ (Ko ++ (Tt ++ Kt))) (hW12) ?_
            refine lm (v := vo) rfl rfl ?_
            refine lm (v := vt) rfl rfl ?_
            obtain ⟨p4, c4, rfl⟩ := own_shape hOt
            refine wpL_new (fun g => .slice (some ⟨g, 0, none⟩) 1 1) (obi := .cells #[.slice p4 i c4] 37 (0, 0)) rfl rfl (fun _ => by kernel_rfl) (fun _ => by simp only [List.setIfInBounds_toArray, List.set_cons_succ, List.set_cons_zero] <;> rfl) fun g5 Bg5 Fg5 => ?_
            obtain ⟨dj6_0, dj6_1, dj6_2, dj6_3⟩ : Dk g5 To ∧ Dk g5 Ko ∧ Dk g5 Tt ∧ Dk g5 Kt := by simpa only [dj_app_l, dj_app_r, dj_cons_l, dj_cons_r, dj_nil_l, dj_nil_r, dk_app, dk_cons, dk_nil, and_true, true_and, and_assoc] using (show Dk g5 (To ++ (Ko ++ (Tt ++ Kt))) from Fg5)
            refine wpL_g (AppO (W0 : Base) 37 1 (To ++ (Tt ++ Kt)) (h + 1) (xo ++ [.slice p4 i c4])) rfl rfl (app_own el_seg (m := 1) (c := 1) (news := [.slice p4 i c4]) rfl (by kernel_rfl) (by kernel_rfl) (.head _) hOo (fun p hp => by simp only [List.mem_cons, List.mem_append, List.nil_append, List.not_mem_nil, or_assoc, or_false, false_or, hp, or_true, true_or]) (fun p hp => ⟨by simp only [List.mem_cons, List.mem_append, List.nil_append, List.not_mem_nil, or_assoc, or_false, false_or] at hp ⊢ <;> grind, (show Dj (To ++ (Tt ++ Kt)) Ko from (by (try simp only [dj_app_l, dj_app_r, dj_cons_l, dj_cons_r, dj_nil_l, dj_nil_r, dk_app, dk_cons, dk_nil, and_true, true_and, and_assoc]); repeat' (first | trivial | assumption | exact Dj.symm (by assumption) | exact Ne.symm (by assumption) | apply And.intro))) p hp⟩) rfl (by simp [strV, Value.oneCell']) (by omega) (by omega) (by omega)) (fun _ => by simp only [List.setIfInBounds_toArray, List.set_cons_succ, List.set_cons_zero] <;> rfl) ?_
            rintro v7 K9 ⟨Kl7, O7, N7, rfl⟩
            obtain ⟨dj8_0, dj8_1, dj8_2⟩ : Dj To Kl7 ∧ Dj Tt Kl7 ∧ Dj Kt Kl7 := by simpa only [dj_app_l, dj_app_r, dj_cons_l, dj_cons_r, dj_nil_l, dj_nil_r, dk_app, dk_cons, dk_nil, and_true, true_and, and_assoc] using (show Dj (To ++ (Tt ++ Kt)) Kl7 from N7)
            refine lm (v := v7) rfl rfl ?_
            refine wpL_done (fun W13 hW13 => ?_)
            refine (show Code.wp _ _ _ _ _ from ?_)
            refine wp_region_L (W0 := (W0 : Base)) ((To ++ (Tt ++ Kt)) ++ Kl7) (hW13) ?_
            refine lp (v := .int .i64 (((h + 1) : Nat) : Int)) rfl rfl (run_bin rfl (vx := (.int .i64 ((h : Nat) : Int))) (vy := (.int .i64 ((1 : Nat) : Int))) (by kernel_rfl) (by kernel_rfl) fun w => bn_add (z := (h + 1)) rfl (wr_i64 (by omega)) w) ?_
            refine lm (v := .int .i64 (((h + 1) : Nat) : Int)) rfl rfl ?_
            refine wpL_done (fun W14 hW14 => ?_)
            go_roundw
            case rel =>
              repeat apply Exists.intro
              exact ⟨⟨h + 1, v7, (xo ++ [.slice p4 i c4]), (To ++ (Tt ++ Kt)), Kl7, (by omega), O7, (mke_map (MkE.snoc hEo ((mkS_some (s := y2) h3 (by omega) (by omega) (by omega)).symm ▸ MkE.mk hOt hEt (by simp; omega))) hy2), (show Dj (To ++ (Tt ++ Kt)) Kl7 from (by (try simp only [dj_app_l, dj_app_r, dj_cons_l, dj_cons_r, dj_nil_l, dj_nil_r, dk_app, dk_cons, dk_nil, and_true, true_and, and_assoc]); repeat' (first | trivial | assumption | exact Dj.symm (by assumption) | exact Ne.symm (by assumption) | apply And.intro))), rfl, rfl, (hW14.sub (fun p hp => by first | exact hp | (simp only [List.mem_cons, List.mem_append, List.nil_append, List.not_mem_nil, or_assoc, or_false, false_or] at hp ⊢ <;> grind)))⟩, rfl⟩
            case measure => (show A.length - (intOf (.int .i64 (((h + 1) : Nat) : Int))).toNat < A.length - (intOf (.int .i64 ((h : Nat) : Int))).toNat); simp only [intOf]; omega
          | true =>
            have h3 : i = 0 := of_decide_eq_true hd3
            clear hd3
            refine wp_cond_true rfl ?_
            refine wp_region_L (W0 := (W0 : Base)) (To ++ (Ko ++ (Tt ++ Kt))) (hW12) ?_
            refine wpL_new (fun g => .slice (some ⟨g, 0, none⟩) 1 1) (obi := .cells #[strV []] 9 (0, 0)) rfl rfl (fun _ => by kernel_rfl) (fun _ => by simp only [List.setIfInBounds_toArray, List.set_cons_succ, List.set_cons_zero] <;> rfl) fun g9 Bg9 Fg9 => ?_
            obtain ⟨dj10_0, dj10_1, dj10_2, dj10_3⟩ : Dk g9 To ∧ Dk g9 Ko ∧ Dk g9 Tt ∧ Dk g9 Kt := by simpa only [dj_app_l, dj_app_r, dj_cons_l, dj_cons_r, dj_nil_l, dj_nil_r, dk_app, dk_cons, dk_nil, and_true, true_and, and_assoc] using (show Dk g9 (To ++ (Ko ++ (Tt ++ Kt))) from Fg9)
            refine wpL_new (fun g => .slice (some ⟨g, 0, none⟩) 1 1) (obi := .cells #[.slice (some ⟨g9, 0, none⟩) 1 1] 43 (0, 0)) rfl rfl (fun _ => by kernel_rfl) (fun _ => by simp only [List.setIfInBounds_toArray, List.set_cons_succ, List.set_cons_zero] <;> rfl) fun g11 Bg11 Fg11 => ?_
            obtain ⟨dj12_0, dj12_1, dj12_2, dj12_3, dj12_4⟩ : g9 ≠ g11 ∧ Dk g11 To ∧ Dk g11 Ko ∧ Dk g11 Tt ∧ Dk g11 Kt := by simpa only [dj_app_l, dj_app_r, dj_cons_l, dj_cons_r, dj_nil_l, dj_nil_r, dk_app, dk_cons, dk_nil, and_true, true_and, and_assoc] using (show Dk g11 ((g9, .cells #[strV []] 9 (0, 0)) :: (To ++ (Ko ++ (Tt ++ Kt)))) from Fg11)
            refine lm (v := .slice (some ⟨g11, 0, none⟩) 1 1) rfl rfl ?_
            refine wpL_done (fun W15 hW15 => ?_)
            refine (show Code.wp _ _ _ _ _ from ?_)
            refine wp_region_L (W0 := (W0 : Base)) ((g11, .cells #[.slice (some ⟨g9, 0, none⟩) 1 1] 43 (0, 0)) :: (g9, .cells #[strV []] 9 (0, 0)) :: (To ++ (Ko ++ (Tt ++ Kt)))) (hW15) ?_
            refine lm (v := vo) rfl rfl ?_
            refine lm (v := .slice (some ⟨g11, 0, none⟩) 1 1) rfl rfl ?_
            refine wpL_new (fun g => .slice (some ⟨g, 0, none⟩) 1 1) (obi := .cells #[.slice (some ⟨g11, 0, none⟩) 1 1] 37 (0, 0)) rfl rfl (fun _ => by kernel_rfl) (fun _ => by simp only [List.setIfInBounds_toArray, List.set_cons_succ, List.set_cons_zero] <;> rfl) fun g13 Bg13 Fg13 => ?_
            obtain ⟨dj14_0, dj14_1, dj14_2, dj14_3, dj14_4, dj14_5⟩ : g11 ≠ g13 ∧ g9 ≠ g13 ∧ Dk g13 To ∧ Dk g13 Ko ∧ Dk g13 Tt ∧ Dk g13 Kt := by simpa only [dj_app_l, dj_app_r, dj_cons_l, dj_cons_r, dj_nil_l, dj_nil_r, dk_app, dk_cons, dk_nil, and_true, true_and, and_assoc] using (show Dk g13 ((g11, .cells #[.slice (some ⟨g9, 0, none⟩) 1 1] 43 (0, 0)) :: (g9, .cells #[strV []] 9 (0, 0)) :: (To ++ (Ko ++ (Tt ++ Kt)))) from Fg13)
            refine wpL_g (AppO (W0 : Base) 37 1 ((g11, .cells #[.slice (some ⟨g9, 0, none⟩) 1 1] 43 (0, 0)) :: (g9, .cells #[strV []] 9 (0, 0)) :: (To ++ (Tt ++ Kt))) (h + 1) (xo ++ [.slice (some ⟨g11, 0, none⟩) 1 1])) rfl rfl (app_own el_seg (m := 1) (c := 1) (news := [.slice (some ⟨g11, 0, none⟩) 1 1]) rfl (by kernel_rfl) (by kernel_rfl) (.head _) hOo (fun p hp => by simp only [List.mem_cons, List.mem_append, List.nil_append, List.not_mem_nil, or_assoc, or_false, false_or, hp, or_true, true_or]) (fun p hp => ⟨by simp only [List.mem_cons, List.mem_append, List.nil_append, List.not_mem_nil, or_assoc, or_false, false_or] at hp ⊢ <;> grind, (show Dj ((g11, .cells #[.slice (some ⟨g9, 0, none⟩) 1 1] 43 (0, 0)) :: (g9, .cells #[strV []] 9 (0, 0)) :: (To ++ (Tt ++ Kt))) Ko from (by (try simp only [dj_app_l, dj_app_r, dj_cons_l, dj_cons_r, dj_nil_l, dj_nil_r, dk_app, dk_cons, dk_nil, and_true, true_and, and_assoc]); repeat' (first | trivial | assumption | exact Dj.symm (by assumption) | exact Ne.symm (by assumption) | apply And.intro))) p hp⟩) rfl (by simp [strV, Value.oneCell']) (by omega) (by omega) (by omega)) (fun _ => by simp only [List.setIfInBounds_toArray, List.set_cons_succ, List.set_cons_zero] <;> rfl) ?_
            rintro v15 K9 ⟨Kl15, O15, N15, rfl⟩
            obtain ⟨dj16_0, dj16_1, dj16_2, dj16_3, dj16_4⟩ : Dk g11 Kl15 ∧ Dk g9 Kl15 ∧ Dj To Kl15 ∧ Dj Tt Kl15 ∧ Dj Kt Kl15 := by simpa only [dj_app_l, dj_app_r, dj_cons_l, dj_cons_r, dj_nil_l, dj_nil_r, dk_app, dk_cons, dk_nil, and_true, true_and, and_assoc] using (show Dj ((g11, .cells #[.slice (some ⟨g9, 0, none⟩) 1 1] 43 (0, 0)) :: (g9, .cells #[strV []] 9 (0, 0)) :: (To ++ (Tt ++ Kt))) Kl15 from N15)
            refine lm (v := v15) rfl rfl ?_
            refine wpL_done (fun W16 hW16 => ?_)
            refine (show Code.wp _ _ _ _ _ from ?_)
            refine wp_region_L (W0 := (W0 : Base)) ((g11, .cells #[.slice (some ⟨g9, 0, none⟩) 1 1] 43 (0, 0)) :: (g9, .cells #[strV []] 9 (0, 0)) :: ((To ++ (Tt ++ Kt)) ++ Kl15)) (hW16) ?_
            refine lp (v := .int .i64 (((h + 1) : Nat) : Int)) rfl rfl (run_bin rfl (vx := (.int .i64 ((h : Nat) : Int))) (vy := (.int .i64 ((1 : Nat) : Int))) (by kernel_rfl) (by kernel_rfl) fun w => bn_add (z := (h + 1)) rfl (wr_i64 (by omega)) w) ?_
            refine lm (v := .int .i64 (((h + 1) : Nat) : Int)) rfl rfl ?_
            refine wpL_done (fun W17 hW17 => ?_)
            go_roundw
            case rel =>
              repeat apply Exists.intro
              exact ⟨⟨h + 1, v15, (xo ++ [.slice (some ⟨g11, 0, none⟩) 1 1]), (To ++ [(g11, .cells #[.slice (some ⟨g9, 0, none⟩) 1 1] 43 (0, 0)), (g9, .cells #[strV []] 9 (0, 0))]), Kl15, (by omega), O15, (mke_map (MkE.snoc hEo ((mkS_nil (s := y2) (by omega)).symm ▸ lv_block (lv_block strv_empty))) hy2), (show Dj (To ++ [(g11, .cells #[.slice (some ⟨g9, 0, none⟩) 1 1] 43 (0, 0)), (g9, .cells #[strV []] 9 (0, 0))]) Kl15 from (by (try simp only [dj_app_l, dj_app_r, dj_cons_l, dj_cons_r, dj_nil_l, dj_nil_r, dk_app, dk_cons, dk_nil, and_true, true_and, and_assoc]); repeat' (first | trivial | assumption | exact Dj.symm (by assumption) | exact Ne.symm (by assumption) | apply And.intro))), rfl, rfl, (hW17.sub (fun p hp => by first | exact hp | (simp only [List.mem_cons, List.mem_append, List.nil_append, List.not_mem_nil, or_assoc, or_false, false_or] at hp ⊢ <;> grind)))⟩, rfl⟩
            case measure => (show A.length - (intOf (.int .i64 (((h + 1) : Nat) : Int))).toNat < A.length - (intOf (.int .i64 ((h : Nat) : Int))).toNat); simp only [intOf]; omega
        | true =>
          have h2 : i < y2.length := of_decide_eq_true hd2
          clear hd2
          refine lm (v := .int .i64 ((i : Nat) : Int)) rfl rfl ?_
          refine lp (v := .bool (decide (i < 30))) rfl rfl (run_bin rfl (vx := (.int .i64 ((i : Nat) : Int))) (vy := (.int .i64 ((30 : Nat) : Int))) (by kernel_rfl) (by kernel_rfl) fun w => bn_lss rfl w) ?_
          refine lm (v := .bool (decide (i < 30))) rfl rfl ?_
          refine wpL_done (fun W18 hW18 => ?_)
          refine (show Code.wp _ _ _ _ _ from ?_)
          cases hd4 : (decide (i < 30)) with
          | false =>
            have h4 : ¬ (i < 30) := of_decide_eq_false hd4
            clear hd4
            refine wp_cond_false rfl ?_
            refine wp_exit ?_
            refine (show Code.wp _ _ _ _ _ from ?_)
            refine wp_seq ?_
            refine wp_seq ?_
            refine wp_region_L (W0 := (W0 : Base)) (To ++ (Ko ++ (Tt ++ Kt))) (hW18) ?_
            refine lm (v := vt) rfl rfl ?_
            refine lp (v := .int .i64 ((i : Nat) : Int)) rfl rfl (run_lenO (W0 := (W0 : Base)) rfl Try.underlying37 (by kernel_rfl) hOt) ?_
            refine lp (v := .bool (decide (i = 0))) rfl rfl (run_bin rfl (vx := (.int .i64 ((i : Nat) : Int))) (vy := (.int .i64 ((0 : Nat) : Int))) (by kernel_rfl) (by kernel_rfl) fun w => bn_eql rfl w) ?_
            refine wpL_done (fun W19 hW19 => ?_)
            refine (show Code.wp _ _ _ _ _ from ?_)
            cases hd5 : (decide (i = 0)) with
            | false =>
              have h5 : ¬ (i = 0) := of_decide_eq_false hd5
              clear hd5
              refine wp_cond_false rfl ?_
              refine wp_skip ?_
              refine (show Code.wp _ _ _ _ _ from ?_)
              refine wp_region_L (W0 := (W0 : Base)) (To ++ (Ko ++ (Tt ++ Kt))) (hW19) ?_
              refine lm (v := vo) rfl rfl ?_
              refine lm (v := vt) rfl rfl ?_
              obtain ⟨p17, c17, rfl⟩ := own_shape hOt
              refine wpL_new (fun g => .slice (some ⟨g, 0, none⟩) 1 1) (obi := .cells #[.slice p17 i c17] 37 (0, 0)) rfl rfl (fun _ => by kernel_rfl) (fun _ => by simp only [List.setIfInBounds_toArray, List.set_cons_succ, List.set_cons_zero] <;> rfl) fun g18 Bg18 Fg18 => ?_
              obtain ⟨dj19_0, dj19_1, dj19_2, dj19_3⟩ : Dk g18 To ∧ Dk g18 Ko ∧ Dk g18 Tt ∧ Dk g18 Kt := by simpa only [dj_app_l, dj_app_r, dj_cons_l, dj_cons_r, dj_nil_l, dj_nil_r, dk_app, dk_cons, dk_nil, and_true, true_and, and_assoc] using (show Dk g18 (To ++ (Ko ++ (Tt ++ Kt))) from Fg18)
              refine wpL_g (AppO (W0 : Base) 37 1 (To ++ (Tt ++ Kt)) (h + 1) (xo ++ [.slice p17 i c17])) rfl rfl (app_own el_seg (m := 1) (c := 1) (news := [.slice p17 i c17]) rfl (by kernel_rfl) (by kernel_rfl) (.head _) hOo (fun p hp => by simp only [List.mem_cons, List.mem_append, List.nil_append, List.not_mem_nil, or_assoc, or_false, false_or, hp, or_true, true_or]) (fun p hp => ⟨by simp only [List.mem_cons, List.mem_append, List.nil_append, List.not_mem_nil, or_assoc, or_false, false_or] at hp ⊢ <;> grind, (show Dj (To ++ (Tt ++ Kt)) Ko from (by (try simp only [dj_app_l, dj_app_r, dj_cons_l, dj_cons_r, dj_nil_l, dj_nil_r, dk_app, dk_cons, dk_nil, and_true, true_and, and_assoc]); repeat' (first | trivial | assumption | exact Dj.symm (by assumption) | exact Ne.symm (by assumption) | apply And.intro))) p hp⟩) rfl (by simp [strV, Value.oneCell']) (by omega) (by omega) (by omega)) (fun _ => by simp only [List.setIfInBounds_toArray, List.set_cons_succ, List.set_cons_zero] <;> rfl) ?_
              rintro v20 K9 ⟨Kl20, O20, N20, rfl⟩
              obtain ⟨dj21_0, dj21_1, dj21_2⟩ : Dj To Kl20 ∧ Dj Tt Kl20 ∧ Dj Kt Kl20 := by simpa only [dj_app_l, dj_app_r, dj_cons_l, dj_cons_r, dj_nil_l, dj_nil_r, dk_app, dk_cons, dk_nil, and_true, true_and, and_assoc] using (show Dj (To ++ (Tt ++ Kt)) Kl20 from N20)
              refine lm (v := v20) rfl rfl ?_
              refine wpL_done (fun W20 hW20 => ?_)
              refine (show Code.wp _ _ _ _ _ from ?_)
              refine wp_region_L (W0 := (W0 : Base)) ((To ++ (Tt ++ Kt)) ++ Kl20) (hW20) ?_
              refine lp (v := .int .i64 (((h + 1) : Nat) : Int)) rfl rfl (run_bin rfl (vx := (.int .i64 ((h : Nat) : Int))) (vy := (.int .i64 ((1 : Nat) : Int))) (by kernel_rfl) (by kernel_rfl) fun w => bn_add (z := (h + 1)) rfl (wr_i64 (by omega)) w) ?_
              refine lm (v := .int .i64 (((h + 1) : Nat) : Int)) rfl rfl ?_
              refine wpL_done (fun W21 hW21 => ?_)
              go_roundw
              case rel =>
                repeat apply Exists.intro
                exact ⟨⟨h + 1, v20, (xo ++ [.slice p17 i c17]), (To ++ (Tt ++ Kt)), Kl20, (by omega), O20, (mke_map (MkE.snoc hEo ((mkS_some (s := y2) h5 (by omega) (by omega) (by omega)).symm ▸ MkE.mk hOt hEt (by simp; omega))) hy2), (show Dj (To ++ (Tt ++ Kt)) Kl20 from (by (try simp only [dj_app_l, dj_app_r, dj_cons_l, dj_cons_r, dj_nil_l, dj_nil_r, dk_app, dk_cons, dk_nil, and_true, true_and, and_assoc]); repeat' (first | trivial | assumption | exact Dj.symm (by assumption) | exact Ne.symm (by assumption) | apply And.intro))), rfl, rfl, (hW21.sub (fun p hp => by first | exact hp | (simp only [List.mem_cons, List.mem_append, List.nil_append, List.not_mem_nil, or_assoc, or_false, false_or] at hp ⊢ <;> grind)))⟩, rfl⟩
              case measure => (show A.length - (intOf (.int .i64 (((h + 1) : Nat) : Int))).toNat < A.length - (intOf (.int .i64 ((h : Nat) : Int))).toNat); simp only [intOf]; omega
            | true =>
              have h5 : i = 0 := of_decide_eq_true hd5
              clear hd5
              refine wp_cond_true rfl ?_
              refine wp_region_L (W0 := (W0 : Base)) (To ++ (Ko ++ (Tt ++ Kt))) (hW19) ?_
              refine wpL_new (fun g => .slice (some ⟨g, 0, none⟩) 1 1) (obi := .cells #[strV []] 9 (0, 0)) rfl rfl (fun _ => by kernel_rfl) (fun _ => by simp only [List.setIfInBounds_toArray, List.set_cons_succ, List.set_cons_zero] <;> rfl) fun g22 Bg22 Fg22 => ?_
              obtain ⟨dj23_0, dj23_1, dj23_2, dj23_3⟩ : Dk g22 To ∧ Dk g22 Ko ∧ Dk g22 Tt ∧ Dk g22 Kt := by simpa only [dj_app_l, dj_app_r, dj_cons_l, dj_cons_r, dj_nil_l, dj_nil_r, dk_app, dk_cons, dk_nil, and_true, true_and, and_assoc] using (show Dk g22 (To ++ (Ko ++ (Tt ++ Kt))) from Fg22)
              refine wpL_new (fun g => .slice (some ⟨g, 0, none⟩) 1 1) (obi := .cells #[.slice (some ⟨g22, 0, none⟩) 1 1] 43 (0, 0)) rfl rfl (fun _ => by kernel_rfl) (fun _ => by simp only [List.setIfInBounds_toArray, List.set_cons_succ, List.set_cons_zero] <;> rfl) fun g24 Bg24 Fg24 => ?_
              obtain ⟨dj25_0, dj25_1, dj25_2, dj25_3, dj25_4⟩ : g22 ≠ g24 ∧ Dk g24 To ∧ Dk g24 Ko ∧ Dk g24 Tt ∧ Dk g24 Kt := by simpa only [dj_app_l, dj_app_r, dj_cons_l, dj_cons_r, dj_nil_l, dj_nil_r, dk_app, dk_cons, dk_nil, and_true, true_and, and_assoc] using (show Dk g24 ((g22, .cells #[strV []] 9 (0, 0)) :: (To ++ (Ko ++ (Tt ++ Kt)))) from Fg24)
              refine lm (v := .slice (some ⟨g24, 0, none⟩) 1 1) rfl rfl ?_
              refine wpL_done (fun W22 hW22 => ?_)
              refine (show Code.wp _ _ _ _ _ from ?_)
              refine wp_region_L (W0 := (W0 : Base)) ((g24, .cells #[.slice (some ⟨g22, 0, none⟩) 1 1] 43 (0, 0)) :: (g22, .cells #[strV []] 9 (0, 0)) :: (To ++ (Ko ++ (Tt ++ Kt)))) (hW22) ?_
              refine lm (v := vo) rfl rfl ?_
              refine lm (v := .slice (some ⟨g24, 0, none⟩) 1 1) rfl rfl ?_
              refine wpL_new (fun g => .slice (some ⟨g, 0, none⟩) 1 1) (obi := .cells #[.slice (some ⟨g24, 0, none⟩) 1 1] 37 (0, 0)) rfl rfl (fun _ => by kernel_rfl) (fun _ => by simp only [List.setIfInBounds_toArray, List.set_cons_succ, List.set_cons_zero] <;> rfl) fun g26 Bg26 Fg26 => ?_
              obtain ⟨dj27_0, dj27_1, dj27_2, dj27_3, dj27_4, dj27_5⟩ : g24 ≠ g26 ∧ g22 ≠ g26 ∧ Dk g26 To ∧ Dk g26 Ko ∧ Dk g26 Tt ∧ Dk g26 Kt := by simpa only [dj_app_l, dj_app_r, dj_cons_l, dj_cons_r, dj_nil_l, dj_nil_r, dk_app, dk_cons, dk_nil, and_true, true_and, and_assoc] using (show Dk g26 ((g24, .cells #[.slice (some ⟨g22, 0, none⟩) 1 1] 43 (0, 0)) :: (g22, .cells #[strV []] 9 (0, 0)) :: (To ++ (Ko ++ (Tt ++ Kt)))) from Fg26)
              refine wpL_g (AppO (W0 : Base) 37 1 ((g24, .cells #[.slice (some ⟨g22, 0, none⟩) 1 1] 43 (0, 0)) :: (g22, .cells #[strV []] 9 (0, 0)) :: (To ++ (Tt ++ Kt))) (h + 1) (xo ++ [.slice (some ⟨g24, 0, none⟩) 1 1])) rfl rfl (app_own el_seg (m := 1) (c := 1) (news := [.slice (some ⟨g24, 0, none⟩) 1 1]) rfl (by kernel_rfl) (by kernel_rfl) (.head _) hOo (fun p hp => by simp only [List.mem_cons, List.mem_append, List.nil_append, List.not_mem_nil, or_assoc, or_false, false_or, hp, or_true, true_or]) (fun p hp => ⟨by simp only [List.mem_cons, List.mem_append, List.nil_append, List.not_mem_nil, or_assoc, or_false, false_or] at hp ⊢ <;> grind, (show Dj ((g24, .cells #[.slice (some ⟨g22, 0, none⟩) 1 1] 43 (0, 0)) :: (g22, .cells #[strV []] 9 (0, 0)) :: (To ++ (Tt ++ Kt))) Ko from (by (try simp only [dj_app_l, dj_app_r, dj_cons_l, dj_cons_r, dj_nil_l, dj_nil_r, dk_app, dk_cons, dk_nil, and_true, true_and, and_assoc]); repeat' (first | trivial | assumption | exact Dj.symm (by assumption) | exact Ne.symm (by assumption) | apply And.intro))) p hp⟩) rfl (by simp [strV, Value.oneCell']) (by omega) (by omega) (by omega)) (fun _ => by simp only [List.setIfInBounds_toArray, List.set_cons_succ, List.set_cons_zero] <;> rfl) ?_
              rintro v28 K9 ⟨Kl28, O28, N28, rfl⟩
              obtain ⟨dj29_0, dj29_1, dj29_2, dj29_3, dj29_4⟩ : Dk g24 Kl28 ∧ Dk g22 Kl28 ∧ Dj To Kl28 ∧ Dj Tt Kl28 ∧ Dj Kt Kl28 := by simpa only [dj_app_l, dj_app_r, dj_cons_l, dj_cons_r, dj_nil_l, dj_nil_r, dk_app, dk_cons, dk_nil, and_true, true_and, and_assoc] using (show Dj ((g24, .cells #[.slice (some ⟨g22, 0, none⟩) 1 1] 43 (0, 0)) :: (g22, .cells #[strV []] 9 (0, 0)) :: (To ++ (Tt ++ Kt))) Kl28 from N28)
              refine lm (v := v28) rfl rfl ?_
              refine wpL_done (fun W23 hW23 => ?_)
              refine (show Code.wp _ _ _ _ _ from ?_)
              refine wp_region_L (W0 := (W0 : Base)) ((g24, .cells #[.slice (some ⟨g22, 0, none⟩) 1 1] 43 (0, 0)) :: (g22, .cells #[strV []] 9 (0, 0)) :: ((To ++ (Tt ++ Kt)) ++ Kl28)) (hW23) ?_
              refine lp (v := .int .i64 (((h + 1) : Nat) : Int)) rfl rfl (run_bin rfl (vx := (.int .i64 ((h : Nat) : Int))) (vy := (.int .i64 ((1 : Nat) : Int))) (by kernel_rfl) (by kernel_rfl) fun w => bn_add (z := (h + 1)) rfl (wr_i64 (by omega)) w) ?_
              refine lm (v := .int .i64 (((h + 1) : Nat) : Int)) rfl rfl ?_
              refine wpL_done (fun W24 hW24 => ?_)
              go_roundw
              case rel =>
                repeat apply Exists.intro
                exact ⟨⟨h + 1, v28, (xo ++ [.slice (some ⟨g24, 0, none⟩) 1 1]), (To ++ [(g24, .cells #[.slice (some ⟨g22, 0, none⟩) 1 1] 43 (0, 0)), (g22, .cells #[strV []] 9 (0, 0))]), Kl28, (by omega), O28, (mke_map (MkE.snoc hEo ((mkS_nil (s := y2) (by omega)).symm ▸ lv_block (lv_block strv_empty))) hy2), (show Dj (To ++ [(g24, .cells #[.slice (some ⟨g22, 0, none⟩) 1 1] 43 (0, 0)), (g22, .cells #[strV []] 9 (0, 0))]) Kl28 from (by (try simp only [dj_app_l, dj_app_r, dj_cons_l, dj_cons_r, dj_nil_l, dj_nil_r, dk_app, dk_cons, dk_nil, and_true, true_and, and_assoc]); repeat' (first | trivial | assumption | exact Dj.symm (by assumption) | exact Ne.symm (by assumption) | apply And.intro))), rfl, rfl, (hW24.sub (fun p hp => by first | exact hp | (simp only [List.mem_cons, List.mem_append, List.nil_append, List.not_mem_nil, or_assoc, or_false, false_or] at hp ⊢ <;> grind)))⟩, rfl⟩
              case measure => (show A.length - (intOf (.int .i64 (((h + 1) : Nat) : Int))).toNat < A.length - (intOf (.int .i64 ((h : Nat) : Int))).toNat); simp only [intOf]; omega
          | true =>
            have h4 : i < 30 := of_decide_eq_true hd4
            clear hd4
            refine wp_cond_true rfl ?_
            refine wp_skip ?_
            refine (show Code.wp _ _ _ _ _ from ?_)
            refine wp_seq ?_
            refine wp_block ?_
            refine wp_seq ?_
            refine wp_region_L (W0 := (W0 : Base)) (To ++ (Ko ++ (Tt ++ Kt))) (hW18) ?_
            refine lm (v := .slice none 0 0) rfl rfl ?_
            refine wpL_done (fun W25 hW25 => ?_)
            refine (show Code.wp _ _ _ _ _ from ?_)
            refine wp_seq ?_
            refine wp_seq ?_
            refine wp_region_L (W0 := (W0 : Base)) (To ++ (Ko ++ (Tt ++ Kt))) (hW25) ?_
            refine lm (v := .int .i64 0) rfl rfl ?_
            refine wpL_done (fun W26 hW26 => ?_)
            refine (show Code.wp _ _ _ _ _ from ?_)
            refine wp_block ?_
            obtain ⟨y30, p30, c30, b30, f30, hy30, HY30, hp30, lt30, hc30⟩ := lvp_lst (k := i) HY2.out (by omega)
            have HY30 := Lib.hid HY30
            go_loopw [9, 8] (fun u9 u8 wr => ∃ (k : Nat) (ve : Value) (Ke : List (Nat × Obj)), (k ≤ y30.length) ∧ (k ≤ 10) ∧ (OwnL (W0 : Base) 9 1 ve k (((y30.take k).map mkC).map strV) Ke) ∧ (Dj To Ke) ∧ (Dj Ko Ke) ∧ (Dj Tt Ke) ∧ (Dj Kt Ke) ∧ u9 = .int .i64 ((k : Nat) : Int) ∧ ve = u8 ∧ KS (W0 : Base) (To ++ (Ko ++ (Tt ++ (Kt ++ Ke)))) wr) (fun u9 _ _ => 10 - (intOf u9).toNat)
            case atStart => exact ⟨0, (.slice none 0 0), [], (Nat.zero_le _), (Nat.zero_le _), (OwnL.nil _ _ _), (show Dj To [] from (by (try simp only [dj_app_l, dj_app_r, dj_cons_l, dj_cons_r, dj_nil_l, dj_nil_r, dk_app, dk_cons, dk_nil, and_true, true_and, and_assoc]); repeat' (first | trivial | assumption | exact Dj.symm (by assumption) | exact Ne.symm (by assumption) | apply And.intro))), (show Dj Ko [] from (by (try simp only [dj_app_l, dj_app_r, dj_cons_l, dj_cons_r, dj_nil_l, dj_nil_r, dk_app, dk_cons, dk_nil, and_true, true_and, and_assoc]); repeat' (first | trivial | assumption | exact Dj.symm (by assumption) | exact Ne.symm (by assumption) | apply And.intro))), (show Dj Tt [] from (by (try simp only [dj_app_l, dj_app_r, dj_cons_l, dj_cons_r, dj_nil_l, dj_nil_r, dk_app, dk_cons, dk_nil, and_true, true_and, and_assoc]); repeat' (first | trivial | assumption | exact Dj.symm (by assumption) | exact Ne.symm (by assumption) | apply And.intro))), (show Dj Kt [] from (by (try simp only [dj_app_l, dj_app_r, dj_cons_l, dj_cons_r, dj_nil_l, dj_nil_r, dk_app, dk_cons, dk_nil, and_true, true_and, and_assoc]); repeat' (first | trivial | assumption | exact Dj.symm (by assumption) | exact Ne.symm (by assumption) | apply And.intro))), rfl, rfl, (hW26.sub (fun p hp => by first | exact hp | (simp only [List.mem_cons, List.mem_append, List.nil_append, List.not_mem_nil, or_assoc, or_false, false_or] at hp ⊢ <;> grind)))⟩
            case round =>
              obtain ⟨k, ve, Ke, hk, hk2, hOe, dh31_0, dh31_1, dh31_2, dh31_3, rfl, rfl, hL27⟩ := hrel
              refine wp_seq ?_
              refine wp_seq ?_
              refine wp_region_L (W0 := (W0 : Base)) (To ++ (Ko ++ (Tt ++ (Kt ++ Ke)))) (hL27) ?_
              refine lm (v := .int .i64 ((k : Nat) : Int)) rfl rfl ?_
              refine lm (v := .slice p2 y2.length c2) rfl rfl ?_
              refine lm (v := .int .i64 ((i : Nat) : Int)) rfl rfl ?_
              refine lp (v := .pointer (some ⟨b30, f30 + i * 1, none⟩)) rfl rfl (run_idxQ (p := p2) (cap := c2) (n := y2.length) (j := .i64) (k := i) (sz := 1) rfl Try.underlying37 (by kernel_rfl) (by kernel_rfl) hp30 (by kernel_rfl) (by omega)) ?_
              refine lv (v := .slice p30 y30.length c30) rfl rfl (yb_old (off := f30 + i * 1) rfl (by kernel_rfl) hc30 lt30 Try.underlying43 rfl) ?_
              refine lp (v := .int .i64 ((y30.length : Nat) : Int)) rfl rfl (run_lenL (p := p30) (cap := c30) (n := y30.length) rfl Try.underlying43 (by kernel_rfl)) ?_
              refine lp (v := .bool (decide (k < y30.length))) rfl rfl (run_bin rfl (vx := (.int .i64 ((k : Nat) : Int))) (vy := (.int .i64 ((y30.length : Nat) : Int))) (by kernel_rfl) (by kernel_rfl) fun w => bn_lss rfl w) ?_
              refine lm (v := .bool (decide (k < y30.length))) rfl rfl ?_
              cases hd6 : (decide (k < y30.length)) with
              | false =>
                have h6 : ¬ (k < y30.length) := of_decide_eq_false hd6
                clear hd6
                refine ln rfl ?_
                refine ln rfl ?_
                refine lm (v := .bool false) rfl rfl ?_
                refine wpL_done (fun W28 hW28 => ?_)
                refine (show Code.wp _ _ _ _ _ from ?_)
                refine wp_cond_false rfl ?_
                refine wp_exit ?_
                refine (show Code.wp _ _ _ _ _ from ?_)
                refine wp_seq ?_
                refine wp_seq ?_
                refine wp_region_L (W0 := (W0 : Base)) (To ++ (Ko ++ (Tt ++ (Kt ++ Ke)))) (hW28) ?_
                refine lm (v := ve) rfl rfl ?_
                refine lp (v := .int .i64 ((k : Nat) : Int)) rfl rfl (run_lenO (W0 := (W0 : Base)) rfl Try.underlying43 (by kernel_rfl) hOe) ?_
                refine lp (v := .bool (decide (k = 0))) rfl rfl (run_bin rfl (vx := (.int .i64 ((k : Nat) : Int))) (vy := (.int .i64 ((0 : Nat) : Int))) (by kernel_rfl) (by kernel_rfl) fun w => bn_eql rfl w) ?_
                refine wpL_done (fun W29 hW29 => ?_)
                refine (show Code.wp _ _ _ _ _ from ?_)
                cases hd7 : (decide (k = 0)) with
                | false =>
                  have h7 : ¬ (k = 0) := of_decide_eq_false hd7
                  clear hd7
                  refine wp_cond_false rfl ?_
                  refine wp_skip ?_
                  refine (show Code.wp _ _ _ _ _ from ?_)
                  refine wp_region_L (W0 := (W0 : Base)) (To ++ (Ko ++ (Tt ++ (Kt ++ Ke)))) (hW29) ?_
                  refine lm (v := vt) rfl rfl ?_
                  refine lm (v := ve) rfl rfl ?_
                  obtain ⟨p32, c32, rfl⟩ := own_shape hOe
                  refine wpL_new (fun g => .slice (some ⟨g, 0, none⟩) 1 1) (obi := .cells #[.slice p32 k c32] 43 (0, 0)) rfl rfl (fun _ => by kernel_rfl) (fun _ => by simp only [List.setIfInBounds_toArray, List.set_cons_succ, List.set_cons_zero] <;> rfl) fun g33 Bg33 Fg33 => ?_
                  obtain ⟨dj34_0, dj34_1, dj34_2, dj34_3, dj34_4⟩ : Dk g33 To ∧ Dk g33 Ko ∧ Dk g33 Tt ∧ Dk g33 Kt ∧ Dk g33 Ke := by simpa only [dj_app_l, dj_app_r, dj_cons_l, dj_cons_r, dj_nil_l, dj_nil_r, dk_app, dk_cons, dk_nil, and_true, true_and, and_assoc] using (show Dk g33 (To ++ (Ko ++ (Tt ++ (Kt ++ Ke)))) from Fg33)
                  refine wpL_g (AppO (W0 : Base) 43 1 (To ++ (Ko ++ (Tt ++ Ke))) (i + 1) (xt ++ [.slice p32 k c32])) rfl rfl (app_own el_txt (m := 1) (c := 1) (news := [.slice p32 k c32]) rfl (by kernel_rfl) (by kernel_rfl) (.head _) hOt (fun p hp => by simp only [List.mem_cons, List.mem_append, List.nil_append, List.not_mem_nil, or_assoc, or_false, false_or, hp, or_true, true_or]) (fun p hp => ⟨by simp only [List.mem_cons, List.mem_append, List.nil_append, List.not_mem_nil, or_assoc, or_false, false_or] at hp ⊢ <;> grind, (show Dj (To ++ (Ko ++ (Tt ++ Ke))) Kt from (by (try simp only [dj_app_l, dj_app_r, dj_cons_l, dj_cons_r, dj_nil_l, dj_nil_r, dk_app, dk_cons, dk_nil, and_true, true_and, and_assoc]); repeat' (first | trivial | assumption | exact Dj.symm (by assumption) | exact Ne.symm (by assumption) | apply And.intro))) p hp⟩) rfl (by simp [strV, Value.oneCell']) (by omega) (by omega) (by omega)) (fun _ => by simp only [List.setIfInBounds_toArray, List.set_cons_succ, List.set_cons_zero] <;> rfl) ?_
                  rintro v35 K9 ⟨Kl35, O35, N35, rfl⟩
                  obtain ⟨dj36_0, dj36_1, dj36_2, dj36_3⟩ : Dj To Kl35 ∧ Dj Ko Kl35 ∧ Dj Tt Kl35 ∧ Dj Ke Kl35 := by simpa only [dj_app_l, dj_app_r, dj_cons_l, dj_cons_r, dj_nil_l, dj_nil_r, dk_app, dk_cons, dk_nil, and_true, true_and, and_assoc] using (show Dj (To ++ (Ko ++ (Tt ++ Ke))) Kl35 from N35)
                  refine lm (v := v35) rfl rfl ?_
                  refine wpL_done (fun W30 hW30 => ?_)
                  refine (show Code.wp _ _ _ _ _ from ?_)
                  refine wp_region_L (W0 := (W0 : Base)) ((To ++ (Ko ++ (Tt ++ Ke))) ++ Kl35) (hW30) ?_
                  refine lm (v := .int .i64 ((i : Nat) : Int)) rfl rfl ?_
                  refine lp (v := .int .i64 (((i + 1) : Nat) : Int)) rfl rfl (run_bin rfl (vx := (.int .i64 ((i : Nat) : Int))) (vy := (.int .i64 ((1 : Nat) : Int))) (by kernel_rfl) (by kernel_rfl) fun w => bn_add (z := (i + 1)) rfl (wr_i64 (by omega)) w) ?_
                  refine lm (v := .int .i64 (((i + 1) : Nat) : Int)) rfl rfl ?_
                  refine wpL_done (fun W31 hW31 => ?_)
                  go_roundw
                  case rel =>
                    repeat apply Exists.intro
                    exact ⟨⟨i + 1, v35, (xt ++ [.slice p32 k c32]), (Tt ++ ([] ++ Ke)), Kl35, (by omega), (by omega), O35, (mke_map (MkE.snoc hEt ((mkT_some (e := y30) h7 (by omega) (by omega) (by omega)).symm ▸ MkE.mk hOe (MkE.strs _) (by simp; omega))) hy30), (show Dj To (Tt ++ ([] ++ Ke)) from (by (try simp only [dj_app_l, dj_app_r, dj_cons_l, dj_cons_r, dj_nil_l, dj_nil_r, dk_app, dk_cons, dk_nil, and_true, true_and, and_assoc]); repeat' (first | trivial | assumption | exact Dj.symm (by assumption) | exact Ne.symm (by assumption) | apply And.intro))), (show Dj Ko (Tt ++ ([] ++ Ke)) from (by (try simp only [dj_app_l, dj_app_r, dj_cons_l, dj_cons_r, dj_nil_l, dj_nil_r, dk_app, dk_cons, dk_nil, and_true, true_and, and_assoc]); repeat' (first | trivial | assumption | exact Dj.symm (by assumption) | exact Ne.symm (by assumption) | apply And.intro))), (show Dj To Kl35 from (by (try simp only [dj_app_l, dj_app_r, dj_cons_l, dj_cons_r, dj_nil_l, dj_nil_r, dk_app, dk_cons, dk_nil, and_true, true_and, and_assoc]); repeat' (first | trivial | assumption | exact Dj.symm (by assumption) | exact Ne.symm (by assumption) | apply And.intro))), (show Dj Ko Kl35 from (by (try simp only [dj_app_l, dj_app_r, dj_cons_l, dj_cons_r, dj_nil_l, dj_nil_r, dk_app, dk_cons, dk_nil, and_true, true_and, and_assoc]); repeat' (first | trivial | assumption | exact Dj.symm (by assumption) | exact Ne.symm (by assumption) | apply And.intro))), (show Dj (Tt ++ ([] ++ Ke)) Kl35 from (by (try simp only [dj_app_l, dj_app_r, dj_cons_l, dj_cons_r, dj_nil_l, dj_nil_r, dk_app, dk_cons, dk_nil, and_true, true_and, and_assoc]); repeat' (first | trivial | assumption | exact Dj.symm (by assumption) | exact Ne.symm (by assumption) | apply And.intro))), rfl, rfl, (hW31.sub (fun p hp => by first | exact hp | (simp only [List.mem_cons, List.mem_append, List.nil_append, List.not_mem_nil, or_assoc, or_false, false_or] at hp ⊢ <;> grind)))⟩, rfl⟩
                  case measure => (show 30 - (intOf (.int .i64 (((i + 1) : Nat) : Int))).toNat < 30 - (intOf (.int .i64 ((i : Nat) : Int))).toNat); simp only [intOf]; omega
                | true =>
                  have h7 : k = 0 := of_decide_eq_true hd7
                  clear hd7
                  refine wp_cond_true rfl ?_
                  refine wp_region_L (W0 := (W0 : Base)) (To ++ (Ko ++ (Tt ++ (Kt ++ Ke)))) (hW29) ?_
                  refine wpL_new (fun g => .slice (some ⟨g, 0, none⟩) 1 1) (obi := .cells #[strV []] 9 (0, 0)) rfl rfl (fun _ => by kernel_rfl) (fun _ => by simp only [List.setIfInBounds_toArray, List.set_cons_succ, List.set_cons_zero] <;> rfl) fun g37 Bg37 Fg37 => ?_
                  obtain ⟨dj38_0, dj38_1, dj38_2, dj38_3, dj38_4⟩ : Dk g37 To ∧ Dk g37 Ko ∧ Dk g37 Tt ∧ Dk g37 Kt ∧ Dk g37 Ke := by simpa only [dj_app_l, dj_app_r, dj_cons_l, dj_cons_r, dj_nil_l, dj_nil_r, dk_app, dk_cons, dk_nil, and_true, true_and, and_assoc] using (show Dk g37 (To ++ (Ko ++ (Tt ++ (Kt ++ Ke)))) from Fg37)
                  refine lm (v := .slice (some ⟨g37, 0, none⟩) 1 1) rfl rfl ?_
                  refine wpL_done (fun W32 hW32 => ?_)
                  refine (show Code.wp _ _ _ _ _ from ?_)
                  refine wp_region_L (W0 := (W0 : Base)) ((g37, .cells #[strV []] 9 (0, 0)) :: (To ++ (Ko ++ (Tt ++ (Kt ++ Ke))))) (hW32) ?_
                  refine lm (v := vt) rfl rfl ?_
                  refine lm (v := .slice (some ⟨g37, 0, none⟩) 1 1) rfl rfl ?_
                  refine wpL_new (fun g => .slice (some ⟨g, 0, none⟩) 1 1) (obi := .cells #[.slice (some ⟨g37, 0, none⟩) 1 1] 43 (0, 0)) rfl rfl (fun _ => by kernel_rfl) (fun _ => by simp only [List.setIfInBounds_toArray, List.set_cons_succ, List.set_cons_zero] <;> rfl) fun g39 Bg39 Fg39 => ?_
                  obtain ⟨dj40_0, dj40_1, dj40_2, dj40_3, dj40_4, dj40_5⟩ : g37 ≠ g39 ∧ Dk g39 To ∧ Dk g39 Ko ∧ Dk g39 Tt ∧ Dk g39 Kt ∧ Dk g39 Ke := by simpa only [dj_app_l, dj_app_r, dj_cons_l, dj_cons_r, dj_nil_l, dj_nil_r, dk_app, dk_cons, dk_nil, and_true, true_and, and_assoc] using (show Dk g39 ((g37, .cells #[strV []] 9 (0, 0)) :: (To ++ (Ko ++ (Tt ++ (Kt ++ Ke))))) from Fg39)
                  refine wpL_g (AppO (W0 : Base) 43 1 ((g37, .cells #[strV []] 9 (0, 0)) :: (To ++ (Ko ++ (Tt ++ Ke)))) (i + 1) (xt ++ [.slice (some ⟨g37, 0, none⟩) 1 1])) rfl rfl (app_own el_txt (m := 1) (c := 1) (news := [.slice (some ⟨g37, 0, none⟩) 1 1]) rfl (by kernel_rfl) (by kernel_rfl) (.head _) hOt (fun p hp => by simp only [List.mem_cons, List.mem_append, List.nil_append, List.not_mem_nil, or_assoc, or_false, false_or, hp, or_true, true_or]) (fun p hp => ⟨by simp only [List.mem_cons, List.mem_append, List.nil_append, List.not_mem_nil, or_assoc, or_false, false_or] at hp ⊢ <;> grind, (show Dj ((g37, .cells #[strV []] 9 (0, 0)) :: (To ++ (Ko ++ (Tt ++ Ke)))) Kt from (by (try simp only [dj_app_l, dj_app_r, dj_cons_l, dj_cons_r, dj_nil_l, dj_nil_r, dk_app, dk_cons, dk_nil, and_true, true_and, and_assoc]); repeat' (first | trivial | assumption | exact Dj.symm (by assumption) | exact Ne.symm (by assumption) | apply And.intro))) p hp⟩) rfl (by simp [strV, Value.oneCell']) (by omega) (by omega) (by omega)) (fun _ => by simp only [List.setIfInBounds_toArray, List.set_cons_succ, List.set_cons_zero] <;> rfl) ?_
                  rintro v41 K9 ⟨Kl41, O41, N41, rfl⟩
                  obtain ⟨dj42_0, dj42_1, dj42_2, dj42_3, dj42_4⟩ : Dk g37 Kl41 ∧ Dj To Kl41 ∧ Dj Ko Kl41 ∧ Dj Tt Kl41 ∧ Dj Ke Kl41 := by simpa only [dj_app_l, dj_app_r, dj_cons_l, dj_cons_r, dj_nil_l, dj_nil_r, dk_app, dk_cons, dk_nil, and_true, true_and, and_assoc] using (show Dj ((g37, .cells #[strV []] 9 (0, 0)) :: (To ++ (Ko ++ (Tt ++ Ke)))) Kl41 from N41)
                  refine lm (v := v41) rfl rfl ?_
                  refine wpL_done (fun W33 hW33 => ?_)
                  refine (show Code.wp _ _ _ _ _ from ?_)
                  refine wp_region_L (W0 := (W0 : Base)) ((g37, .cells #[strV []] 9 (0, 0)) :: ((To ++ (Ko ++ (Tt ++ Ke))) ++ Kl41)) (hW33) ?_
                  refine lm (v := .int .i64 ((i : Nat) : Int)) rfl rfl ?_
                  refine lp (v := .int .i64 (((i + 1) : Nat) : Int)) rfl rfl (run_bin rfl (vx := (.int .i64 ((i : Nat) : Int))) (vy := (.int .i64 ((1 : Nat) : Int))) (by kernel_rfl) (by kernel_rfl) fun w => bn_add (z := (i + 1)) rfl (wr_i64 (by omega)) w) ?_
                  refine lm (v := .int .i64 (((i + 1) : Nat) : Int)) rfl rfl ?_
                  refine wpL_done (fun W34 hW34 => ?_)
                  go_roundw
                  case rel =>
                    repeat apply Exists.intro
                    exact ⟨⟨i + 1, v41, (xt ++ [.slice (some ⟨g37, 0, none⟩) 1 1]), (Tt ++ [(g37, .cells #[strV []] 9 (0, 0))]), Kl41, (by omega), (by omega), O41, (mke_map (MkE.snoc hEt ((mkT_nil (e := y30) (by omega)).symm ▸ lv_block strv_empty)) hy30), (show Dj To (Tt ++ [(g37, .cells #[strV []] 9 (0, 0))]) from (by (try simp only [dj_app_l, dj_app_r, dj_cons_l, dj_cons_r, dj_nil_l, dj_nil_r, dk_app, dk_cons, dk_nil, and_true, true_and, and_assoc]); repeat' (first | trivial | assumption | exact Dj.symm (by assumption) | exact Ne.symm (by assumption) | apply And.intro))), (show Dj Ko (Tt ++ [(g37, .cells #[strV []] 9 (0, 0))]) from (by (try simp only [dj_app_l, dj_app_r, dj_cons_l, dj_cons_r, dj_nil_l, dj_nil_r, dk_app, dk_cons, dk_nil, and_true, true_and, and_assoc]); repeat' (first | trivial | assumption | exact Dj.symm (by assumption) | exact Ne.symm (by assumption) | apply And.intro))), (show Dj To Kl41 from (by (try simp only [dj_app_l, dj_app_r, dj_cons_l, dj_cons_r, dj_nil_l, dj_nil_r, dk_app, dk_cons, dk_nil, and_true, true_and, and_assoc]); repeat' (first | trivial | assumption | exact Dj.symm (by assumption) | exact Ne.symm (by assumption) | apply And.intro))), (show Dj Ko Kl41 from (by (try simp only [dj_app_l, dj_app_r, dj_cons_l, dj_cons_r, dj_nil_l, dj_nil_r, dk_app, dk_cons, dk_nil, and_true, true_and, and_assoc]); repeat' (first | trivial | assumption | exact Dj.symm (by assumption) | exact Ne.symm (by assumption) | apply And.intro))), (show Dj (Tt ++ [(g37, .cells #[strV []] 9 (0, 0))]) Kl41 from (by (try simp only [dj_app_l, dj_app_r, dj_cons_l, dj_cons_r, dj_nil_l, dj_nil_r, dk_app, dk_cons, dk_nil, and_true, true_and, and_assoc]); repeat' (first | trivial | assumption | exact Dj.symm (by assumption) | exact Ne.symm (by assumption) | apply And.intro))), rfl, rfl, (hW34.sub (fun p hp => by first | exact hp | (simp only [List.mem_cons, List.mem_append, List.nil_append, List.not_mem_nil, or_assoc, or_false, false_or] at hp ⊢ <;> grind)))⟩, rfl⟩
                  case measure => (show 30 - (intOf (.int .i64 (((i + 1) : Nat) : Int))).toNat < 30 - (intOf (.int .i64 ((i : Nat) : Int))).toNat); simp only [intOf]; omega
              | true =>
                have h6 : k < y30.length := of_decide_eq_true hd6
                clear hd6
                refine lm (v := .int .i64 ((k : Nat) : Int)) rfl rfl ?_
                refine lp (v := .bool (decide (k < 10))) rfl rfl (run_bin rfl (vx := (.int .i64 ((k : Nat) : Int))) (vy := (.int .i64 ((10 : Nat) : Int))) (by kernel_rfl) (by kernel_rfl) fun w => bn_lss rfl w) ?_
                refine lm (v := .bool (decide (k < 10))) rfl rfl ?_
                refine wpL_done (fun W35 hW35 => ?_)
                refine (show Code.wp _ _ _ _ _ from ?_)
                cases hd8 : (decide (k < 10)) with
                | false =>
                  have h8 : ¬ (k < 10) := of_decide_eq_false hd8
                  clear hd8
                  refine wp_cond_false rfl ?_
                  refine wp_exit ?_
                  refine (show Code.wp _ _ _ _ _ from ?_)
                  refine wp_seq ?_
                  refine wp_seq ?_
                  refine wp_region_L (W0 := (W0 : Base)) (To ++ (Ko ++ (Tt ++ (Kt ++ Ke)))) (hW35) ?_
                  refine lm (v := ve) rfl rfl ?_
                  refine lp (v := .int .i64 ((k : Nat) : Int)) rfl rfl (run_lenO (W0 := (W0 : Base)) rfl Try.underlying43 (by kernel_rfl) hOe) ?_
                  refine lp (v := .bool (decide (k = 0))) rfl rfl (run_bin rfl (vx := (.int .i64 ((k : Nat) : Int))) (vy := (.int .i64 ((0 : Nat) : Int))) (by kernel_rfl) (by kernel_rfl) fun w => bn_eql rfl w) ?_
                  refine wpL_done (fun W36 hW36 => ?_)
                  refine (show Code.wp _ _ _ _ _ from ?_)
                  cases hd9 : (decide (k = 0)) with
                  | false =>
                    have h9 : ¬ (k = 0) := of_decide_eq_false hd9
                    clear hd9
                    refine wp_cond_false rfl ?_
                    refine wp_skip ?_
                    refine (show Code.wp _ _ _ _ _ from ?_)
                    refine wp_region_L (W0 := (W0 : Base)) (To ++ (Ko ++ (Tt ++ (Kt ++ Ke)))) (hW36) ?_
                    refine lm (v := vt) rfl rfl ?_
                    refine lm (v := ve) rfl rfl ?_
                    obtain ⟨p43, c43, rfl⟩ := own_shape hOe
                    refine wpL_new (fun g => .slice (some ⟨g, 0, none⟩) 1 1) (obi := .cells #[.slice p43 k c43] 43 (0, 0)) rfl rfl (fun _ => by kernel_rfl) (fun _ => by simp only [List.setIfInBounds_toArray, List.set_cons_succ, List.set_cons_zero] <;> rfl) fun g44 Bg44 Fg44 => ?_
                    obtain ⟨dj45_0, dj45_1, dj45_2, dj45_3, dj45_4⟩ : Dk g44 To ∧ Dk g44 Ko ∧ Dk g44 Tt ∧ Dk g44 Kt ∧ Dk g44 Ke := by simpa only [dj_app_l, dj_app_r, dj_cons_l, dj_cons_r, dj_nil_l, dj_nil_r, dk_app, dk_cons, dk_nil, and_true, true_and, and_assoc] using (show Dk g44 (To ++ (Ko ++ (Tt ++ (Kt ++ Ke)))) from Fg44)
                    refine wpL_g (AppO (W0 : Base) 43 1 (To ++ (Ko ++ (Tt ++ Ke))) (i + 1) (xt ++ [.slice p43 k c43])) rfl rfl (app_own el_txt (m := 1) (c := 1) (news := [.slice p43 k c43]) rfl (by kernel_rfl) (by kernel_rfl) (.head _) hOt (fun p hp => by simp only [List.mem_cons, List.mem_append, List.nil_append, List.not_mem_nil, or_assoc, or_false, false_or, hp, or_true, true_or]) (fun p hp => ⟨by simp only [List.mem_cons, List.mem_append, List.nil_append, List.not_mem_nil, or_assoc, or_false, false_or] at hp ⊢ <;> grind, (show Dj (To ++ (Ko ++ (Tt ++ Ke))) Kt from (by (try simp only [dj_app_l, dj_app_r, dj_cons_l, dj_cons_r, dj_nil_l, dj_nil_r, dk_app, dk_cons, dk_nil, and_true, true_and, and_assoc]); repeat' (first | trivial | assumption | exact Dj.symm (by assumption) | exact Ne.symm (by assumption) | apply And.intro))) p hp⟩) rfl (by simp [strV, Value.oneCell']) (by omega) (by omega) (by omega)) (fun _ => by simp only [List.setIfInBounds_toArray, List.set_cons_succ, List.set_cons_zero] <;> rfl) ?_
                    rintro v46 K9 ⟨Kl46, O46, N46, rfl⟩
                    obtain ⟨dj47_0, dj47_1, dj47_2, dj47_3⟩ : Dj To Kl46 ∧ Dj Ko Kl46 ∧ Dj Tt Kl46 ∧ Dj Ke Kl46 := by simpa only [dj_app_l, dj_app_r, dj_cons_l, dj_cons_r, dj_nil_l, dj_nil_r, dk_app, dk_cons, dk_nil, and_true, true_and, and_assoc] using (show Dj (To ++ (Ko ++ (Tt ++ Ke))) Kl46 from N46)
                    refine lm (v := v46) rfl rfl ?_
                    refine wpL_done (fun W37 hW37 => ?_)
                    refine (show Code.wp _ _ _ _ _ from ?_)
                    refine wp_region_L (W0 := (W0 : Base)) ((To ++ (Ko ++ (Tt ++ Ke))) ++ Kl46) (hW37) ?_
                    refine lm (v := .int .i64 ((i : Nat) : Int)) rfl rfl ?_
                    refine lp (v := .int .i64 (((i + 1) : Nat) : Int)) rfl rfl (run_bin rfl (vx := (.int .i64 ((i : Nat) : Int))) (vy := (.int .i64 ((1 : Nat) : Int))) (by kernel_rfl) (by kernel_rfl) fun w => bn_add (z := (i + 1)) rfl (wr_i64 (by omega)) w) ?_
                    refine lm (v := .int .i64 (((i + 1) : Nat) : Int)) rfl rfl ?_
                    refine wpL_done (fun W38 hW38 => ?_)
                    go_roundw
                    case rel =>
                      repeat apply Exists.intro
                      exact ⟨⟨i + 1, v46, (xt ++ [.slice p43 k c43]), (Tt ++ ([] ++ Ke)), Kl46, (by omega), (by omega), O46, (mke_map (MkE.snoc hEt ((mkT_some (e := y30) h9 (by omega) (by omega) (by omega)).symm ▸ MkE.mk hOe (MkE.strs _) (by simp; omega))) hy30), (show Dj To (Tt ++ ([] ++ Ke)) from (by (try simp only [dj_app_l, dj_app_r, dj_cons_l, dj_cons_r, dj_nil_l, dj_nil_r, dk_app, dk_cons, dk_nil, and_true, true_and, and_assoc]); repeat' (first | trivial | assumption | exact Dj.symm (by assumption) | exact Ne.symm (by assumption) | apply And.intro))), (show Dj Ko (Tt ++ ([] ++ Ke)) from (by (try simp only [dj_app_l, dj_app_r, dj_cons_l, dj_cons_r, dj_nil_l, dj_nil_r, dk_app, dk_cons, dk_nil, and_true, true_and, and_assoc]); repeat' (first | trivial | assumption | exact Dj.symm (by assumption) | exact Ne.symm (by assumption) | apply And.intro))), (show Dj To Kl46 from (by (try simp only [dj_app_l, dj_app_r, dj_cons_l, dj_cons_r, dj_nil_l, dj_nil_r, dk_app, dk_cons, dk_nil, and_true, true_and, and_assoc]); repeat' (first | trivial | assumption | exact Dj.symm (by assumption) | exact Ne.symm (by assumption) | apply And.intro))), (show Dj Ko Kl46 from (by (try simp only [dj_app_l, dj_app_r, dj_cons_l, dj_cons_r, dj_nil_l, dj_nil_r, dk_app, dk_cons, dk_nil, and_true, true_and, and_assoc]); repeat' (first | trivial | assumption | exact Dj.symm (by assumption) | exact Ne.symm (by assumption) | apply And.intro))), (show Dj (Tt ++ ([] ++ Ke)) Kl46 from (by (try simp only [dj_app_l, dj_app_r, dj_cons_l, dj_cons_r, dj_nil_l, dj_nil_r, dk_app, dk_cons, dk_nil, and_true, true_and, and_assoc]); repeat' (first | trivial | assumption | exact Dj.symm (by assumption) | exact Ne.symm (by assumption) | apply And.intro))), rfl, rfl, (hW38.sub (fun p hp => by first | exact hp | (simp only [List.mem_cons, List.mem_append, List.nil_append, List.not_mem_nil, or_assoc, or_false, false_or] at hp ⊢ <;> grind)))⟩, rfl⟩
                    case measure => (show 30 - (intOf (.int .i64 (((i + 1) : Nat) : Int))).toNat < 30 - (intOf (.int .i64 ((i : Nat) : Int))).toNat); simp only [intOf]; omega
                  | true =>
                    have h9 : k = 0 := of_decide_eq_true hd9
                    clear hd9
                    refine wp_cond_true rfl ?_
                    refine wp_region_L (W0 := (W0 : Base)) (To ++ (Ko ++ (Tt ++ (Kt ++ Ke)))) (hW36) ?_
                    refine wpL_new (fun g => .slice (some ⟨g, 0, none⟩) 1 1) (obi := .cells #[strV []] 9 (0, 0)) rfl rfl (fun _ => by kernel_rfl) (fun _ => by simp only [List.setIfInBounds_toArray, List.set_cons_succ, List.set_cons_zero] <;> rfl) fun g48 Bg48 Fg48 => ?_
                    obtain ⟨dj49_0, dj49_1, dj49_2, dj49_3, dj49_4⟩ : Dk g48 To ∧ Dk g48 Ko ∧ Dk g48 Tt ∧ Dk g48 Kt ∧ Dk g48 Ke := by simpa only [dj_app_l, dj_app_r, dj_cons_l, dj_cons_r, dj_nil_l, dj_nil_r, dk_app, dk_cons, dk_nil, and_true, true_and, and_assoc] using (show Dk g48 (To ++ (Ko ++ (Tt ++ (Kt ++ Ke)))) from Fg48)
                    refine lm (v := .slice (some ⟨g48, 0, none⟩) 1 1) rfl rfl ?_
                    refine wpL_done (fun W39 hW39 => ?_)
                    refine (show Code.wp _ _ _ _ _ from ?_)
                    refine wp_region_L (W0 := (W0 : Base)) ((g48, .cells #[strV []] 9 (0, 0)) :: (To ++ (Ko ++ (Tt ++ (Kt ++ Ke))))) (hW39) ?_
                    refine lm (v := vt) rfl rfl ?_
                    refine lm (v := .slice (some ⟨g48, 0, none⟩) 1 1) rfl rfl ?_
                    refine wpL_new (fun g => .slice (some ⟨g, 0, none⟩) 1 1) (obi := .cells #[.slice (some ⟨g48, 0, none⟩) 1 1] 43 (0, 0)) rfl rfl (fun _ => by kernel_rfl) (fun _ => by simp only [List.setIfInBounds_toArray, List.set_cons_succ, List.set_cons_zero] <;> rfl) fun g50 Bg50 Fg50 => ?_
                    obtain ⟨dj51_0, dj51_1, dj51_2, dj51_3, dj51_4, dj51_5⟩ : g48 ≠ g50 ∧ Dk g50 To ∧ Dk g50 Ko ∧ Dk g50 Tt ∧ Dk g50 Kt ∧ Dk g50 Ke := by simpa only [dj_app_l, dj_app_r, dj_cons_l, dj_cons_r, dj_nil_l, dj_nil_r, dk_app, dk_cons, dk_nil, and_true, true_and, and_assoc] using (show Dk g50 ((g48, .cells #[strV []] 9 (0, 0)) :: (To ++ (Ko ++ (Tt ++ (Kt ++ Ke))))) from Fg50)
                    refine wpL_g (AppO (W0 : Base) 43 1 ((g48, .cells #[strV []] 9 (0, 0)) :: (To ++ (Ko ++ (Tt ++ Ke)))) (i + 1) (xt ++ [.slice (some ⟨g48, 0, none⟩) 1 1])) rfl rfl (app_own el_txt (m := 1) (c := 1) (news := [.slice (some ⟨g48, 0, none⟩) 1 1]) rfl (by kernel_rfl) (by kernel_rfl) (.head _) hOt (fun p hp => by simp only [List.mem_cons, List.mem_append, List.nil_append, List.not_mem_nil, or_assoc, or_false, false_or, hp, or_true, true_or]) (fun p hp => ⟨by simp only [List.mem_cons, List.mem_append, List.nil_append, List.not_mem_nil, or_assoc, or_false, false_or] at hp ⊢ <;> grind, (show Dj ((g48, .cells #[strV []] 9 (0, 0)) :: (To ++ (Ko ++ (Tt ++ Ke)))) Kt from (by (try simp only [dj_app_l, dj_app_r, dj_cons_l, dj_cons_r, dj_nil_l, dj_nil_r, dk_app, dk_cons, dk_nil, and_true, true_and, and_assoc]); repeat' (first | trivial | assumption | exact Dj.symm (by assumption) | exact Ne.symm (by assumption) | apply And.intro))) p hp⟩) rfl (by simp [strV, Value.oneCell']) (by omega) (by omega) (by omega)) (fun _ => by simp only [List.setIfInBounds_toArray, List.set_cons_succ, List.set_cons_zero] <;> rfl) ?_
                    rintro v52 K9 ⟨Kl52, O52, N52, rfl⟩
                    obtain ⟨dj53_0, dj53_1, dj53_2, dj53_3, dj53_4⟩ : Dk g48 Kl52 ∧ Dj To Kl52 ∧ Dj Ko Kl52 ∧ Dj Tt Kl52 ∧ Dj Ke Kl52 := by simpa only [dj_app_l, dj_app_r, dj_cons_l, dj_cons_r, dj_nil_l, dj_nil_r, dk_app, dk_cons, dk_nil, and_true, true_and, and_assoc] using (show Dj ((g48, .cells #[strV []] 9 (0, 0)) :: (To ++ (Ko ++ (Tt ++ Ke)))) Kl52 from N52)
                    refine lm (v := v52) rfl rfl ?_
                    refine wpL_done (fun W40 hW40 => ?_)
                    refine (show Code.wp _ _ _ _ _ from ?_)
                    refine wp_region_L (W0 := (W0 : Base)) ((g48, .cells #[strV []] 9 (0, 0)) :: ((To ++ (Ko ++ (Tt ++ Ke))) ++ Kl52)) (hW40) ?_
                    refine lm (v := .int .i64 ((i : Nat) : Int)) rfl rfl ?_
                    refine lp (v := .int .i64 (((i + 1) : Nat) : Int)) rfl rfl (run_bin rfl (vx := (.int .i64 ((i : Nat) : Int))) (vy := (.int .i64 ((1 : Nat) : Int))) (by kernel_rfl) (by kernel_rfl) fun w => bn_add (z := (i + 1)) rfl (wr_i64 (by omega)) w) ?_
                    refine lm (v := .int .i64 (((i + 1) : Nat) : Int)) rfl rfl ?_
                    refine wpL_done (fun W41 hW41 => ?_)
                    go_roundw
                    case rel =>
                      repeat apply Exists.intro
                      exact ⟨⟨i + 1, v52, (xt ++ [.slice (some ⟨g48, 0, none⟩) 1 1]), (Tt ++ [(g48, .cells #[strV []] 9 (0, 0))]), Kl52, (by omega), (by omega), O52, (mke_map (MkE.snoc hEt ((mkT_nil (e := y30) (by omega)).symm ▸ lv_block strv_empty)) hy30), (show Dj To (Tt ++ [(g48, .cells #[strV []] 9 (0, 0))]) from (by (try simp only [dj_app_l, dj_app_r, dj_cons_l, dj_cons_r, dj_nil_l, dj_nil_r, dk_app, dk_cons, dk_nil, and_true, true_and, and_assoc]); repeat' (first | trivial | assumption | exact Dj.symm (by assumption) | exact Ne.symm (by assumption) | apply And.intro))), (show Dj Ko (Tt ++ [(g48, .cells #[strV []] 9 (0, 0))]) from (by (try simp only [dj_app_l, dj_app_r, dj_cons_l, dj_cons_r, dj_nil_l, dj_nil_r, dk_app, dk_cons, dk_nil, and_true, true_and, and_assoc]); repeat' (first | trivial | assumption | exact Dj.symm (by assumption) | exact Ne.symm (by assumption) | apply And.intro))), (show Dj To Kl52 from (by (try simp only [dj_app_l, dj_app_r, dj_cons_l, dj_cons_r, dj_nil_l, dj_nil_r, dk_app, dk_cons, dk_nil, and_true, true_and, and_assoc]); repeat' (first | trivial | assumption | exact Dj.symm (by assumption) | exact Ne.symm (by assumption) | apply And.intro))), (show Dj Ko Kl52 from (by (try simp only [dj_app_l, dj_app_r, dj_cons_l, dj_cons_r, dj_nil_l, dj_nil_r, dk_app, dk_cons, dk_nil, and_true, true_and, and_assoc]); repeat' (first | trivial | assumption | exact Dj.symm (by assumption) | exact Ne.symm (by assumption) | apply And.intro))), (show Dj (Tt ++ [(g48, .cells #[strV []] 9 (0, 0))]) Kl52 from (by (try simp only [dj_app_l, dj_app_r, dj_cons_l, dj_cons_r, dj_nil_l, dj_nil_r, dk_app, dk_cons, dk_nil, and_true, true_and, and_assoc]); repeat' (first | trivial | assumption | exact Dj.symm (by assumption) | exact Ne.symm (by assumption) | apply And.intro))), rfl, rfl, (hW41.sub (fun p hp => by first | exact hp | (simp only [List.mem_cons, List.mem_append, List.nil_append, List.not_mem_nil, or_assoc, or_false, false_or] at hp ⊢ <;> grind)))⟩, rfl⟩
                    case measure => (show 30 - (intOf (.int .i64 (((i + 1) : Nat) : Int))).toNat < 30 - (intOf (.int .i64 ((i : Nat) : Int))).toNat); simp only [intOf]; omega
                | true =>
                  have h8 : k < 10 := of_decide_eq_true hd8
                  clear hd8
                  refine wp_cond_true rfl ?_
                  refine wp_skip ?_
                  refine (show Code.wp _ _ _ _ _ from ?_)
                  refine wp_seq ?_
                  refine wp_block ?_
                  refine wp_seq ?_
                  refine wp_region_L (W0 := (W0 : Base)) (To ++ (Ko ++ (Tt ++ (Kt ++ Ke)))) (hW35) ?_
                  refine lm (v := .slice none 0 0) rfl rfl ?_
                  refine wpL_done (fun W42 hW42 => ?_)
                  refine (show Code.wp _ _ _ _ _ from ?_)
                  refine wp_seq ?_
                  refine wp_seq ?_
                  refine wp_region_L (W0 := (W0 : Base)) (To ++ (Ko ++ (Tt ++ (Kt ++ Ke)))) (hW42) ?_
                  refine lm (v := .int .i64 0) rfl rfl ?_
                  refine wpL_done (fun W43 hW43 => ?_)
                  refine (show Code.wp _ _ _ _ _ from ?_)
                  refine wp_block ?_
                  obtain ⟨y54, b54, f54, hy54, hp54, lt54, hc54⟩ := lvp_str (k := k) HY30.out (by omega)
                  go_loopw [11, 10] (fun u11 u10 wr => ∃ (n : Nat) (vc : Value) (Kc : List (Nat × Obj)), (n ≤ y54.length) ∧ (n ≤ 100) ∧ (OwnL (W0 : Base) 5 1 vc n (u8s ((y54.take n).map mkB)) Kc) ∧ (Dj To Kc) ∧ (Dj Ko Kc) ∧ (Dj Tt Kc) ∧ (Dj Kt Kc) ∧ (Dj Ke Kc) ∧ u11 = .int .i64 ((n : Nat) : Int) ∧ vc = u10 ∧ KS (W0 : Base) (To ++ (Ko ++ (Tt ++ (Kt ++ (Ke ++ Kc))))) wr) (fun u11 _ _ => 100 - (intOf u11).toNat)
                  case atStart => exact ⟨0, (.slice none 0 0), [], (Nat.zero_le _), (Nat.zero_le _), (OwnL.nil _ _ _), (show Dj To [] from (by (try simp only [dj_app_l, dj_app_r, dj_cons_l, dj_cons_r, dj_nil_l, dj_nil_r, dk_app, dk_cons, dk_nil, and_true, true_and, and_assoc]); repeat' (first | trivial | assumption | exact Dj.symm (by assumption) | exact Ne.symm (by assumption) | apply And.intro))), (show Dj Ko [] from (by (try simp only [dj_app_l, dj_app_r, dj_cons_l, dj_cons_r, dj_nil_l, dj_nil_r, dk_app, dk_cons, dk_nil, and_true, true_and, and_assoc]); repeat' (first | trivial | assumption | exact Dj.symm (by assumption) | exact Ne.symm (by assumption) | apply And.intro))), (show Dj Tt [] from (by (try simp only [dj_app_l, dj_app_r, dj_cons_l, dj_cons_r, dj_nil_l, dj_nil_r, dk_app, dk_cons, dk_nil, and_true, true_and, and_assoc]); repeat' (first | trivial | assumption | exact Dj.symm (by assumption) | exact Ne.symm (by assumption) | apply And.intro))), (show Dj Kt [] from (by (try simp only [dj_app_l, dj_app_r, dj_cons_l, dj_cons_r, dj_nil_l, dj_nil_r, dk_app, dk_cons, dk_nil, and_true, true_and, and_assoc]); repeat' (first | trivial | assumption | exact Dj.symm (by assumption) | exact Ne.symm (by assumption) | apply And.intro))), (show Dj Ke [] from (by (try simp only [dj_app_l, dj_app_r, dj_cons_l, dj_cons_r, dj_nil_l, dj_nil_r, dk_app, dk_cons, dk_nil, and_true, true_and, and_assoc]); repeat' (first | trivial | assumption | exact Dj.symm (by assumption) | exact Ne.symm (by assumption) | apply And.intro))), rfl, rfl, (hW43.sub (fun p hp => by first | exact hp | (simp only [List.mem_cons, List.mem_append, List.nil_append, List.not_mem_nil, or_assoc, or_false, false_or] at hp ⊢ <;> grind)))⟩
                  case round =>
                    obtain ⟨n, vc, Kc, hn, hn2, hOc, dh55_0, dh55_1, dh55_2, dh55_3, dh55_4, rfl, rfl, hL44⟩ := hrel
                    refine wp_seq ?_
                    refine wp_seq ?_
                    refine wp_region_L (W0 := (W0 : Base)) (To ++ (Ko ++ (Tt ++ (Kt ++ (Ke ++ Kc))))) (hL44) ?_
                    refine lm (v := .int .i64 ((n : Nat) : Int)) rfl rfl ?_
                    refine lm (v := .slice p2 y2.length c2) rfl rfl ?_
                    refine lm (v := .int .i64 ((i : Nat) : Int)) rfl rfl ?_
                    refine lp (v := .pointer (some ⟨b30, f30 + i * 1, none⟩)) rfl rfl (run_idxQ (p := p2) (cap := c2) (n := y2.length) (j := .i64) (k := i) (sz := 1) rfl Try.underlying37 (by kernel_rfl) (by kernel_rfl) hp30 (by kernel_rfl) (by omega)) ?_
                    refine lv (v := .slice p30 y30.length c30) rfl rfl (yb_old (off := f30 + i * 1) rfl (by kernel_rfl) hc30 lt30 Try.underlying43 rfl) ?_
                    refine lm (v := .int .i64 ((k : Nat) : Int)) rfl rfl ?_
                    refine lp (v := .pointer (some ⟨b54, f54 + k * 1, none⟩)) rfl rfl (run_idxQ (p := p30) (cap := c30) (n := y30.length) (j := .i64) (k := k) (sz := 1) rfl Try.underlying43 (by kernel_rfl) (by kernel_rfl) hp54 (by kernel_rfl) (by omega)) ?_
                    refine lv (v := strV y54) rfl rfl (yb_old (off := f54 + k * 1) rfl (by kernel_rfl) hc54 lt54 Try.underlying9 rfl) ?_
                    refine lp (v := .int .i64 ((y54.length : Nat) : Int)) rfl rfl (run_lenS (l := y54) rfl Try.underlying9 (by kernel_rfl)) ?_
                    refine lp (v := .bool (decide (n < y54.length))) rfl rfl (run_bin rfl (vx := (.int .i64 ((n : Nat) : Int))) (vy := (.int .i64 ((y54.length : Nat) : Int))) (by kernel_rfl) (by kernel_rfl) fun w => bn_lss rfl w) ?_
                    refine lm (v := .bool (decide (n < y54.length))) rfl rfl ?_
                    cases hd10 : (decide (n < y54.length)) with
                    | false =>
                      have h10 : ¬ (n < y54.length) := of_decide_eq_false hd10
                      clear hd10
                      refine ln rfl ?_
                      refine ln rfl ?_
                      refine lm (v := .bool false) rfl rfl ?_
                      refine wpL_done (fun W45 hW45 => ?_)
                      refine (show Code.wp _ _ _ _ _ from ?_)
                      refine wp_cond_false rfl ?_
                      refine wp_exit ?_
                      refine (show Code.wp _ _ _ _ _ from ?_)
                      refine wp_region_L (W0 := (W0 : Base)) (To ++ (Ko ++ (Tt ++ (Kt ++ (Ke ++ Kc))))) (hW45) ?_
                      refine lm (v := ve) rfl rfl ?_
                      refine lm (v := vc) rfl rfl ?_
                      refine lv (v := strV ((y54.take n).map mkB)) rfl rfl (yb_strO (W0 := (W0 : Base)) (l := ((y54.take n).map mkB)) rfl Try.underlying26 Try.underlying5 Try.underlying9 (by kernel_rfl) hOc (fun p hp => by simp only [List.mem_cons, List.mem_append, List.nil_append, List.not_mem_nil, or_assoc, or_false, false_or, hp, or_true, true_or])) ?_
                      refine wpL_new (fun g => .slice (some ⟨g, 0, none⟩) 1 1) (obi := .cells #[strV ((y54.take n).map mkB)] 9 (0, 0)) rfl rfl (fun _ => by kernel_rfl) (fun _ => by simp only [List.setIfInBounds_toArray, List.set_cons_succ, List.set_cons_zero] <;> rfl) fun g56 Bg56 Fg56 => ?_
                      obtain ⟨dj57_0, dj57_1, dj57_2, dj57_3, dj57_4, dj57_5⟩ : Dk g56 To ∧ Dk g56 Ko ∧ Dk g56 Tt ∧ Dk g56 Kt ∧ Dk g56 Ke ∧ Dk g56 Kc := by simpa only [dj_app_l, dj_app_r, dj_cons_l, dj_cons_r, dj_nil_l, dj_nil_r, dk_app, dk_cons, dk_nil, and_true, true_and, and_assoc] using (show Dk g56 (To ++ (Ko ++ (Tt ++ (Kt ++ (Ke ++ Kc))))) from Fg56)
                      refine wpL_g (AppO (W0 : Base) 9 1 (To ++ (Ko ++ (Tt ++ (Kt ++ Kc)))) (k + 1) ((((y30.take k).map mkC).map strV) ++ [strV ((y54.take n).map mkB)])) rfl rfl (app_own el_str (m := 1) (c := 1) (news := [strV ((y54.take n).map mkB)]) rfl (by kernel_rfl) (by kernel_rfl) (.head _) hOe (fun p hp => by simp only [List.mem_cons, List.mem_append, List.nil_append, List.not_mem_nil, or_assoc, or_false, false_or, hp, or_true, true_or]) (fun p hp => ⟨by simp only [List.mem_cons, List.mem_append, List.nil_append, List.not_mem_nil, or_assoc, or_false, false_or] at hp ⊢ <;> grind, (show Dj (To ++ (Ko ++ (Tt ++ (Kt ++ Kc)))) Ke from (by (try simp only [dj_app_l, dj_app_r, dj_cons_l, dj_cons_r, dj_nil_l, dj_nil_r, dk_app, dk_cons, dk_nil, and_true, true_and, and_assoc]); repeat' (first | trivial | assumption | exact Dj.symm (by assumption) | exact Ne.symm (by assumption) | apply And.intro))) p hp⟩) rfl (by simp [strV, Value.oneCell']) (by omega) (by omega) (by omega)) (fun _ => by simp only [List.setIfInBounds_toArray, List.set_cons_succ, List.set_cons_zero] <;> rfl) ?_
                      rintro v58 K9 ⟨Kl58, O58, N58, rfl⟩
                      obtain ⟨dj59_0, dj59_1, dj59_2, dj59_3, dj59_4⟩ : Dj To Kl58 ∧ Dj Ko Kl58 ∧ Dj Tt Kl58 ∧ Dj Kt Kl58 ∧ Dj Kc Kl58 := by simpa only [dj_app_l, dj_app_r, dj_cons_l, dj_cons_r, dj_nil_l, dj_nil_r, dk_app, dk_cons, dk_nil, and_true, true_and, and_assoc] using (show Dj (To ++ (Ko ++ (Tt ++ (Kt ++ Kc)))) Kl58 from N58)
                      refine lm (v := v58) rfl rfl ?_
                      refine wpL_done (fun W46 hW46 => ?_)
                      refine (show Code.wp _ _ _ _ _ from ?_)
                      refine wp_region_L (W0 := (W0 : Base)) ((To ++ (Ko ++ (Tt ++ (Kt ++ Kc)))) ++ Kl58) (hW46) ?_
                      refine lm (v := .int .i64 ((k : Nat) : Int)) rfl rfl ?_
                      refine lp (v := .int .i64 (((k + 1) : Nat) : Int)) rfl rfl (run_bin rfl (vx := (.int .i64 ((k : Nat) : Int))) (vy := (.int .i64 ((1 : Nat) : Int))) (by kernel_rfl) (by kernel_rfl) fun w => bn_add (z := (k + 1)) rfl (wr_i64 (by omega)) w) ?_
                      refine lm (v := .int .i64 (((k + 1) : Nat) : Int)) rfl rfl ?_
                      refine wpL_done (fun W47 hW47 => ?_)
                      go_roundw
                      case rel =>
                        repeat apply Exists.intro
                        exact ⟨⟨k + 1, v58, Kl58, (by omega), (by omega), (str_step hy54 (end_map (by omega) (by omega) (by omega)) O58), (show Dj To Kl58 from (by (try simp only [dj_app_l, dj_app_r, dj_cons_l, dj_cons_r, dj_nil_l, dj_nil_r, dk_app, dk_cons, dk_nil, and_true, true_and, and_assoc]); repeat' (first | trivial | assumption | exact Dj.symm (by assumption) | exact Ne.symm (by assumption) | apply And.intro))), (show Dj Ko Kl58 from (by (try simp only [dj_app_l, dj_app_r, dj_cons_l, dj_cons_r, dj_nil_l, dj_nil_r, dk_app, dk_cons, dk_nil, and_true, true_and, and_assoc]); repeat' (first | trivial | assumption | exact Dj.symm (by assumption) | exact Ne.symm (by assumption) | apply And.intro))), (show Dj Tt Kl58 from (by (try simp only [dj_app_l, dj_app_r, dj_cons_l, dj_cons_r, dj_nil_l, dj_nil_r, dk_app, dk_cons, dk_nil, and_true, true_and, and_assoc]); repeat' (first | trivial | assumption | exact Dj.symm (by assumption) | exact Ne.symm (by assumption) | apply And.intro))), (show Dj Kt Kl58 from (by (try simp only [dj_app_l, dj_app_r, dj_cons_l, dj_cons_r, dj_nil_l, dj_nil_r, dk_app, dk_cons, dk_nil, and_true, true_and, and_assoc]); repeat' (first | trivial | assumption | exact Dj.symm (by assumption) | exact Ne.symm (by assumption) | apply And.intro))), rfl, rfl, (hW47.sub (fun p hp => by first | exact hp | (simp only [List.mem_cons, List.mem_append, List.nil_append, List.not_mem_nil, or_assoc, or_false, false_or] at hp ⊢ <;> grind)))⟩, rfl⟩
                      case measure => (show 10 - (intOf (.int .i64 (((k + 1) : Nat) : Int))).toNat < 10 - (intOf (.int .i64 ((k : Nat) : Int))).toNat); simp only [intOf]; omega
                    | true =>
                      have h10 : n < y54.length := of_decide_eq_true hd10
                      clear hd10
                      refine lm (v := .int .i64 ((n : Nat) : Int)) rfl rfl ?_
                      refine lp (v := .bool (decide (n < 100))) rfl rfl (run_bin rfl (vx := (.int .i64 ((n : Nat) : Int))) (vy := (.int .i64 ((100 : Nat) : Int))) (by kernel_rfl) (by kernel_rfl) fun w => bn_lss rfl w) ?_
                      refine lm (v := .bool (decide (n < 100))) rfl rfl ?_
                      refine wpL_done (fun W48 hW48 => ?_)
                      refine (show Code.wp _ _ _ _ _ from ?_)
                      cases hd11 : (decide (n < 100)) with
                      | false =>
                        have h11 : ¬ (n < 100) := of_decide_eq_false hd11
                        clear hd11
                        refine wp_cond_false rfl ?_
                        refine wp_exit ?_
                        refine (show Code.wp _ _ _ _ _ from ?_)
                        refine wp_region_L (W0 := (W0 : Base)) (To ++ (Ko ++ (Tt ++ (Kt ++ (Ke ++ Kc))))) (hW48) ?_
                        refine lm (v := ve) rfl rfl ?_
                        refine lm (v := vc) rfl rfl ?_
                        refine lv (v := strV ((y54.take n).map mkB)) rfl rfl (yb_strO (W0 := (W0 : Base)) (l := ((y54.take n).map mkB)) rfl Try.underlying26 Try.underlying5 Try.underlying9 (by kernel_rfl) hOc (fun p hp => by simp only [List.mem_cons, List.mem_append, List.nil_append, List.not_mem_nil, or_assoc, or_false, false_or, hp, or_true, true_or])) ?_
                        refine wpL_new (fun g => .slice (some ⟨g, 0, none⟩) 1 1) (obi := .cells #[strV ((y54.take n).map mkB)] 9 (0, 0)) rfl rfl (fun _ => by kernel_rfl) (fun _ => by simp only [List.setIfInBounds_toArray, List.set_cons_succ, List.set_cons_zero] <;> rfl) fun g60 Bg60 Fg60 => ?_
                        obtain ⟨dj61_0, dj61_1, dj61_2, dj61_3, dj61_4, dj61_5⟩ : Dk g60 To ∧ Dk g60 Ko ∧ Dk g60 Tt ∧ Dk g60 Kt ∧ Dk g60 Ke ∧ Dk g60 Kc := by simpa only [dj_app_l, dj_app_r, dj_cons_l, dj_cons_r, dj_nil_l, dj_nil_r, dk_app, dk_cons, dk_nil, and_true, true_and, and_assoc] using (show Dk g60 (To ++ (Ko ++ (Tt ++ (Kt ++ (Ke ++ Kc))))) from Fg60)
                        refine wpL_g (AppO (W0 : Base) 9 1 (To ++ (Ko ++ (Tt ++ (Kt ++ Kc)))) (k + 1) ((((y30.take k).map mkC).map strV) ++ [strV ((y54.take n).map mkB)])) rfl rfl (app_own el_str (m := 1) (c := 1) (news := [strV ((y54.take n).map mkB)]) rfl (by kernel_rfl) (by kernel_rfl) (.head _) hOe (fun p hp => by simp only [List.mem_cons, List.mem_append, List.nil_append, List.not_mem_nil, or_assoc, or_false, false_or, hp, or_true, true_or]) (fun p hp => ⟨by simp only [List.mem_cons, List.mem_append, List.nil_append, List.not_mem_nil, or_assoc, or_false, false_or] at hp ⊢ <;> grind, (show Dj (To ++ (Ko ++ (Tt ++ (Kt ++ Kc)))) Ke from (by (try simp only [dj_app_l, dj_app_r, dj_cons_l, dj_cons_r, dj_nil_l, dj_nil_r, dk_app, dk_cons, dk_nil, and_true, true_and, and_assoc]); repeat' (first | trivial | assumption | exact Dj.symm (by assumption) | exact Ne.symm (by assumption) | apply And.intro))) p hp⟩) rfl (by simp [strV, Value.oneCell']) (by omega) (by omega) (by omega)) (fun _ => by simp only [List.setIfInBounds_toArray, List.set_cons_succ, List.set_cons_zero] <;> rfl) ?_
                        rintro v62 K9 ⟨Kl62, O62, N62, rfl⟩
                        obtain ⟨dj63_0, dj63_1, dj63_2, dj63_3, dj63_4⟩ : Dj To Kl62 ∧ Dj Ko Kl62 ∧ Dj Tt Kl62 ∧ Dj Kt Kl62 ∧ Dj Kc Kl62 := by simpa only [dj_app_l, dj_app_r, dj_cons_l, dj_cons_r, dj_nil_l, dj_nil_r, dk_app, dk_cons, dk_nil, and_true, true_and, and_assoc] using (show Dj (To ++ (Ko ++ (Tt ++ (Kt ++ Kc)))) Kl62 from N62)
                        refine lm (v := v62) rfl rfl ?_
                        refine wpL_done (fun W49 hW49 => ?_)
                        refine (show Code.wp _ _ _ _ _ from ?_)
                        refine wp_region_L (W0 := (W0 : Base)) ((To ++ (Ko ++ (Tt ++ (Kt ++ Kc)))) ++ Kl62) (hW49) ?_
                        refine lm (v := .int .i64 ((k : Nat) : Int)) rfl rfl ?_
                        refine lp (v := .int .i64 (((k + 1) : Nat) : Int)) rfl rfl (run_bin rfl (vx := (.int .i64 ((k : Nat) : Int))) (vy := (.int .i64 ((1 : Nat) : Int))) (by kernel_rfl) (by kernel_rfl) fun w => bn_add (z := (k + 1)) rfl (wr_i64 (by omega)) w) ?_
                        refine lm (v := .int .i64 (((k + 1) : Nat) : Int)) rfl rfl ?_
                        refine wpL_done (fun W50 hW50 => ?_)
                        go_roundw
                        case rel =>
                          repeat apply Exists.intro
                          exact ⟨⟨k + 1, v62, Kl62, (by omega), (by omega), (str_step hy54 (end_map (by omega) (by omega) (by omega)) O62), (show Dj To Kl62 from (by (try simp only [dj_app_l, dj_app_r, dj_cons_l, dj_cons_r, dj_nil_l, dj_nil_r, dk_app, dk_cons, dk_nil, and_true, true_and, and_assoc]); repeat' (first | trivial | assumption | exact Dj.symm (by assumption) | exact Ne.symm (by assumption) | apply And.intro))), (show Dj Ko Kl62 from (by (try simp only [dj_app_l, dj_app_r, dj_cons_l, dj_cons_r, dj_nil_l, dj_nil_r, dk_app, dk_cons, dk_nil, and_true, true_and, and_assoc]); repeat' (first | trivial | assumption | exact Dj.symm (by assumption) | exact Ne.symm (by assumption) | apply And.intro))), (show Dj Tt Kl62 from (by (try simp only [dj_app_l, dj_app_r, dj_cons_l, dj_cons_r, dj_nil_l, dj_nil_r, dk_app, dk_cons, dk_nil, and_true, true_and, and_assoc]); repeat' (first | trivial | assumption | exact Dj.symm (by assumption) | exact Ne.symm (by assumption) | apply And.intro))), (show Dj Kt Kl62 from (by (try simp only [dj_app_l, dj_app_r, dj_cons_l, dj_cons_r, dj_nil_l, dj_nil_r, dk_app, dk_cons, dk_nil, and_true, true_and, and_assoc]); repeat' (first | trivial | assumption | exact Dj.symm (by assumption) | exact Ne.symm (by assumption) | apply And.intro))), rfl, rfl, (hW50.sub (fun p hp => by first | exact hp | (simp only [List.mem_cons, List.mem_append, List.nil_append, List.not_mem_nil, or_assoc, or_false, false_or] at hp ⊢ <;> grind)))⟩, rfl⟩
                        case measure => (show 10 - (intOf (.int .i64 (((k + 1) : Nat) : Int))).toNat < 10 - (intOf (.int .i64 ((k : Nat) : Int))).toNat); simp only [intOf]; omega
                      | true =>
                        have h11 : n < 100 := of_decide_eq_true hd11
                        clear hd11
                        refine wp_cond_true rfl ?_
                        refine wp_skip ?_
                        refine (show Code.wp _ _ _ _ _ from ?_)
                        refine wp_seq ?_
                        refine wp_block ?_
                        refine wp_region_L (W0 := (W0 : Base)) (To ++ (Ko ++ (Tt ++ (Kt ++ (Ke ++ Kc))))) (hW48) ?_
                        refine lm (v := vc) rfl rfl ?_
                        refine lm (v := .slice p2 y2.length c2) rfl rfl ?_
                        refine lm (v := .int .i64 ((i : Nat) : Int)) rfl rfl ?_
                        refine lp (v := .pointer (some ⟨b30, f30 + i * 1, none⟩)) rfl rfl (run_idxQ (p := p2) (cap := c2) (n := y2.length) (j := .i64) (k := i) (sz := 1) rfl Try.underlying37 (by kernel_rfl) (by kernel_rfl) hp30 (by kernel_rfl) (by omega)) ?_
                        refine lv (v := .slice p30 y30.length c30) rfl rfl (yb_old (off := f30 + i * 1) rfl (by kernel_rfl) hc30 lt30 Try.underlying43 rfl) ?_
                        refine lm (v := .int .i64 ((k : Nat) : Int)) rfl rfl ?_
                        refine lp (v := .pointer (some ⟨b54, f54 + k * 1, none⟩)) rfl rfl (run_idxQ (p := p30) (cap := c30) (n := y30.length) (j := .i64) (k := k) (sz := 1) rfl Try.underlying43 (by kernel_rfl) (by kernel_rfl) hp54 (by kernel_rfl) (by omega)) ?_
                        refine lv (v := strV y54) rfl rfl (yb_old (off := f54 + k * 1) rfl (by kernel_rfl) hc54 lt54 Try.underlying9 rfl) ?_
                        refine lm (v := .int .i64 ((n : Nat) : Int)) rfl rfl ?_
                        obtain ⟨b64, hb64⟩ : ∃ b, (y54 : List UInt8)[n]? = some b := ⟨_, List.getElem?_eq_getElem (by omega)⟩
                        have lb64 := b64.toNat_lt
                        refine lp (v := .int .u8 ((b64.toNat : Nat) : Int)) rfl rfl (run_idxS (j := .i64) (l := y54) (k := n) (b := b64) rfl Try.underlying9 (by kernel_rfl) (by kernel_rfl) hb64) ?_
                        refine lp (v := .int .u8 (((b64.toNat % 95) : Nat) : Int)) rfl rfl (run_bin rfl (vx := (.int .u8 ((b64.toNat : Nat) : Int))) (vy := (.int .u8 ((95 : Nat) : Int))) (by kernel_rfl) (by kernel_rfl) fun w => bn_rem (z := (b64.toNat % 95)) rfl (by omega) w) ?_
                        refine lp (v := .int .u8 (((32 + (b64.toNat % 95)) : Nat) : Int)) rfl rfl (run_bin rfl (vx := (.int .u8 ((32 : Nat) : Int))) (vy := (.int .u8 (((b64.toNat % 95) : Nat) : Int))) (by kernel_rfl) (by kernel_rfl) fun w => bn_add (z := (32 + (b64.toNat % 95))) rfl (wr_u8 (by omega)) w) ?_
                        refine wpL_new (fun g => .slice (some ⟨g, 0, none⟩) 1 1) (obi := .cells #[.int .u8 (((32 + (b64.toNat % 95)) : Nat) : Int)] 5 (0, 0)) rfl rfl (fun _ => by kernel_rfl) (fun _ => by simp only [List.setIfInBounds_toArray, List.set_cons_succ, List.set_cons_zero] <;> rfl) fun g65 Bg65 Fg65 => ?_
                        obtain ⟨dj66_0, dj66_1, dj66_2, dj66_3, dj66_4, dj66_5⟩ : Dk g65 To ∧ Dk g65 Ko ∧ Dk g65 Tt ∧ Dk g65 Kt ∧ Dk g65 Ke ∧ Dk g65 Kc := by simpa only [dj_app_l, dj_app_r, dj_cons_l, dj_cons_r, dj_nil_l, dj_nil_r, dk_app, dk_cons, dk_nil, and_true, true_and, and_assoc] using (show Dk g65 (To ++ (Ko ++ (Tt ++ (Kt ++ (Ke ++ Kc))))) from Fg65)
                        refine wpL_g (AppO (W0 : Base) 5 1 (To ++ (Ko ++ (Tt ++ (Kt ++ Ke)))) (n + 1) ((u8s ((y54.take n).map mkB)) ++ [.int .u8 (((32 + (b64.toNat % 95)) : Nat) : Int)])) rfl rfl (app_own el_byteM (m := 1) (c := 1) (news := [.int .u8 (((32 + (b64.toNat % 95)) : Nat) : Int)]) rfl (by kernel_rfl) (by kernel_rfl) (.head _) hOc (fun p hp => by simp only [List.mem_cons, List.mem_append, List.nil_append, List.not_mem_nil, or_assoc, or_false, false_or, hp, or_true, true_or]) (fun p hp => ⟨by simp only [List.mem_cons, List.mem_append, List.nil_append, List.not_mem_nil, or_assoc, or_false, false_or] at hp ⊢ <;> grind, (show Dj (To ++ (Ko ++ (Tt ++ (Kt ++ Ke)))) Kc from (by (try simp only [dj_app_l, dj_app_r, dj_cons_l, dj_cons_r, dj_nil_l, dj_nil_r, dk_app, dk_cons, dk_nil, and_true, true_and, and_assoc]); repeat' (first | trivial | assumption | exact Dj.symm (by assumption) | exact Ne.symm (by assumption) | apply And.intro))) p hp⟩) rfl (by simp [strV, Value.oneCell']) (by omega) (by omega) (by omega)) (fun _ => by simp only [List.setIfInBounds_toArray, List.set_cons_succ, List.set_cons_zero] <;> rfl) ?_
                        rintro v67 K9 ⟨Kl67, O67, N67, rfl⟩
                        obtain ⟨dj68_0, dj68_1, dj68_2, dj68_3, dj68_4⟩ : Dj To Kl67 ∧ Dj Ko Kl67 ∧ Dj Tt Kl67 ∧ Dj Kt Kl67 ∧ Dj Ke Kl67 := by simpa only [dj_app_l, dj_app_r, dj_cons_l, dj_cons_r, dj_nil_l, dj_nil_r, dk_app, dk_cons, dk_nil, and_true, true_and, and_assoc] using (show Dj (To ++ (Ko ++ (Tt ++ (Kt ++ Ke)))) Kl67 from N67)
                        refine lm (v := v67) rfl rfl ?_
                        refine wpL_done (fun W51 hW51 => ?_)
                        refine (show Code.wp _ _ _ _ _ from ?_)
                        refine wp_region_L (W0 := (W0 : Base)) ((To ++ (Ko ++ (Tt ++ (Kt ++ Ke)))) ++ Kl67) (hW51) ?_
                        refine lm (v := .int .i64 ((n : Nat) : Int)) rfl rfl ?_
                        refine lp (v := .int .i64 (((n + 1) : Nat) : Int)) rfl rfl (run_bin rfl (vx := (.int .i64 ((n : Nat) : Int))) (vy := (.int .i64 ((1 : Nat) : Int))) (by kernel_rfl) (by kernel_rfl) fun w => bn_add (z := (n + 1)) rfl (wr_i64 (by omega)) w) ?_
                        refine lm (v := .int .i64 (((n + 1) : Nat) : Int)) rfl rfl ?_
                        refine wpL_done (fun W52 hW52 => ?_)
                        go_roundw
                        case rel =>
                          repeat apply Exists.intro
                          exact ⟨⟨n + 1, v67, Kl67, (by omega), (by omega), (mk_step hb64 O67), (show Dj To Kl67 from (by (try simp only [dj_app_l, dj_app_r, dj_cons_l, dj_cons_r, dj_nil_l, dj_nil_r, dk_app, dk_cons, dk_nil, and_true, true_and, and_assoc]); repeat' (first | trivial | assumption | exact Dj.symm (by assumption) | exact Ne.symm (by assumption) | apply And.intro))), (show Dj Ko Kl67 from (by (try simp only [dj_app_l, dj_app_r, dj_cons_l, dj_cons_r, dj_nil_l, dj_nil_r, dk_app, dk_cons, dk_nil, and_true, true_and, and_assoc]); repeat' (first | trivial | assumption | exact Dj.symm (by assumption) | exact Ne.symm (by assumption) | apply And.intro))), (show Dj Tt Kl67 from (by (try simp only [dj_app_l, dj_app_r, dj_cons_l, dj_cons_r, dj_nil_l, dj_nil_r, dk_app, dk_cons, dk_nil, and_true, true_and, and_assoc]); repeat' (first | trivial | assumption | exact Dj.symm (by assumption) | exact Ne.symm (by assumption) | apply And.intro))), (show Dj Kt Kl67 from (by (try simp only [dj_app_l, dj_app_r, dj_cons_l, dj_cons_r, dj_nil_l, dj_nil_r, dk_app, dk_cons, dk_nil, and_true, true_and, and_assoc]); repeat' (first | trivial | assumption | exact Dj.symm (by assumption) | exact Ne.symm (by assumption) | apply And.intro))), (show Dj Ke Kl67 from (by (try simp only [dj_app_l, dj_app_r, dj_cons_l, dj_cons_r, dj_nil_l, dj_nil_r, dk_app, dk_cons, dk_nil, and_true, true_and, and_assoc]); repeat' (first | trivial | assumption | exact Dj.symm (by assumption) | exact Ne.symm (by assumption) | apply And.intro))), rfl, rfl, (hW52.sub (fun p hp => by first | exact hp | (simp only [List.mem_cons, List.mem_append, List.nil_append, List.not_mem_nil, or_assoc, or_false, false_or] at hp ⊢ <;> grind)))⟩, rfl⟩
                        case measure => (show 100 - (intOf (.int .i64 (((n + 1) : Nat) : Int))).toNat < 100 - (intOf (.int .i64 ((n : Nat) : Int))).toNat); simp only [intOf]; omega
end Go.Proofs.Ytppegdbelgobiaa

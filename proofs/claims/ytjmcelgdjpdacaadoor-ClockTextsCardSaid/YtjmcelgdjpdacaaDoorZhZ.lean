import Derived.Test.YtjmcelgdjpdacaaDoorG06
import Derived.Test.YtjmcelgdjpdacaaDoorG07
import Derived.Laws.BytesArg
import Derived.ChangeMaps5
/- ClockTexts: the law holds for every input; no condition but the row's own. -/
set_option linter.unusedVariables false
set_option linter.unusedSimpArgs false
set_option linter.unusedSectionVars false
namespace Go.Proofs.YtjmcelgdjpdacaaDoor
open Go.RowKit Tw
open Go
theorem yb_cvs {W0 : Base} {o : Oper} {a : Act} {K : List (Nat × Obj)} {x : Operand} {g n : Nat} (ns : List Nat) {t : TypeId} (ho : o.op = .convert 32 9 x) (hx : a.eval x = .slice (some ⟨g, 0, none⟩) n n) (hn : ns.length = n)
    (hm : (g, .cells (ns.map fun (k : Nat) => Value.int .u8 (k : Int)).toArray t (0, 0)) ∈ K) :
    ∀ w, KS W0 K w → ∀ K' : Act → World → Prop, (∀ w', Below w.heap.size w w' → K' (a.put o.dst (strV (ns.map UInt8.ofNat))) w') → Oper.wp Tryd.prog o a w K' (fun _ _ _ => False) := by
  intro w hw K' hk
  have hh := hw.2 _ hm
  have hc := run_convert_bytes_arg (P := Tryd.prog) w 32 5 Tryd.underlying32 Tryd.underlying5 g 0 n n (ns.map fun (k : Nat) => (k : Int)) (by simpa using hn) (fun i hi => by
    have hi' : i < ns.length := by omega
    rw [Nat.zero_add, cell_of_row w g i _ t (0, 0) hh]
    simp [List.getD, hi']) 9 Tryd.underlying9
  have he : strOfNums (ns.map fun (k : Nat) => (k : Int)) = ⟨(ns.map UInt8.ofNat).toArray⟩ := by
    unfold strOfNums
    rw [List.map_map]
    rfl
  rw [he] at hc
  unfold Oper.wp execOp
  simp only [ho, hx, Sem.run_bind, Sem.run_pure, Result.andThen_ok, hc]
  exact hk w (Below.refl _ _)
theorem run_cv8 {o : Oper} {a : Act} {n : Nat} {px : Operand} (ho : o.op = .convert 3 5 px) (hx : a.eval px = .int .i64 (n : Int)) (hr : n < 256) (w : World) : (execOp a.eval o).run Tryd.prog w = .ok (.value (.int .u8 (n : Int))) w := by
  unfold execOp
  rw [ho]
  simp only [hx]
  have hw : IntKind.u8.wrap (n : Int) = (n : Int) := by unfold IntKind.wrap; simp [IntKind.bits, IntKind.signed]; omega
  go_simp
theorem run_sliceT {o : Oper} {a : Act} {l r : List UInt8} {i j : Nat} {px p1 p2 : Operand} (ho : o.op = .slice 9 px (some p1) (some p2) none) (hx : a.eval px = strV l) (h1 : a.eval p1 = .int .i64 (i : Int)) (h2 : a.eval p2 = .int .i64 (j : Int)) (hij : i ≤ j) (hl : j ≤ l.length) (hr : (l.take j).drop i = r) (w : World) : (execOp a.eval o).run Tryd.prog w = .ok (.value (strV r)) w := by
  subst hr
  have he : (⟨l.toArray⟩ : ByteArray).extract i j = ⟨((l.take j).drop i).toArray⟩ := by
    apply ByteArray.ext
    rw [ByteArray.data_extract]
    apply Array.ext'
    simp [Array.toList_extract, List.extract_eq_drop_take']
  unfold execOp
  rw [ho]
  unfold strV at *
  have h0 : (i : Int) ≤ (j : Int) := by omega
  have h3 : (j : Int) ≤ (l.length : Int) := by omega
  have h4 := ba_size l
  simp only [hx, h1, h2, Option.map_some, Option.map_none]
  go_simp
def strSize : Value → Nat
  | .string b => b.size
  | _ => 0
theorem strSize_V (l : List UInt8) : strSize (strV l) = l.length := ba_size l
def namesL : List UInt8 := [77, 111, 110, 84, 117, 101, 87, 101, 100, 84, 104, 117, 70, 114, 105, 83, 97, 116, 83, 117, 110]
theorem names_day {d : Nat} (h : d < 7) : (namesL.take (3 * d + 3)).drop (3 * d) = dayL d := day_lt h (fun d => (namesL.take (3 * d + 3)).drop (3 * d) = dayL d) rfl rfl rfl rfl rfl rfl rfl
def digs (n : Nat) : List UInt8 := if n = 0 then [] else Lib.decDigits n
theorem digs_step {n : Nat} (h : 0 < n) : digs (n / 10) ++ [UInt8.ofNat (48 + n % 10)] = Lib.decDigits n := by
  unfold digs
  by_cases h10 : n < 10
  · rw [if_pos (by omega), dec_small h10, Nat.mod_eq_of_lt h10]
    rfl
  · rw [if_neg (by omega)]
    exact (dec_big (by omega)).symm
set_option maxRecDepth 100000 in
set_option maxHeartbeats 2000000 in
theorem rtime_any (n : Int) (w : World) : Calls Tryd.prog 75 #[.int .i64 n] w fun e w' => e = .returned (.bool (isT n)) ∧ Below w.heap.size w w' := by
  by_cases h0 : 0 ≤ n
  · by_cases h1 : n ≤ 100000000
    · have hr : isT n = true := by unfold isT; simp; omega
      rw [hr]
      go_enter Tryd.func75, Tryd.ntmps75
      refine wp_seq ?_
      refine wp_region_L (W0 := w) [] (KS.start w) ?_
      refine lm (v := .bool false) rfl rfl ?_
      refine wpL_done (fun W1 hW1 => ?_)
      refine (show Code.wp _ _ _ _ _ from ?_)
      refine wp_seq ?_
      refine wp_region_L (W0 := w) [] (hW1) ?_
      refine lm (v := .int .i64 n) rfl rfl ?_
      refine lp (v := .bool true) rfl rfl (run_bin rfl (vx := .int .i64 n) (vy := .int .i64 0) (by kernel_rfl) (by kernel_rfl) fun w => run_geqI (decide_eq_true h0) w) ?_
      refine lm (v := .bool true) rfl rfl ?_
      refine lm (v := .int .i64 n) rfl rfl ?_
      refine lp (v := .bool true) rfl rfl (run_bin rfl (vx := .int .i64 n) (vy := .int .i64 100000000) (by kernel_rfl) (by kernel_rfl) fun w => run_leqI (decide_eq_true h1) w) ?_
      refine lm (v := .bool true) rfl rfl ?_
      refine lm (v := .bool true) rfl rfl ?_
      refine wpL_done (fun W2 hW2 => ?_)
      clear hW1
      refine (show Code.wp _ _ _ _ _ from ?_)
      refine wp_ret ?_
      try simp only [inBlock_ret, then_ret]
      go_ret
      exact ⟨rfl, hW2.1⟩
    · have hr : isT n = false := by unfold isT; simp; omega
      rw [hr]
      go_enter Tryd.func75, Tryd.ntmps75
      refine wp_seq ?_
      refine wp_region_L (W0 := w) [] (KS.start w) ?_
      refine lm (v := .bool false) rfl rfl ?_
      refine wpL_done (fun W1 hW1 => ?_)
      refine (show Code.wp _ _ _ _ _ from ?_)
      refine wp_seq ?_
      refine wp_region_L (W0 := w) [] (hW1) ?_
      refine lm (v := .int .i64 n) rfl rfl ?_
      refine lp (v := .bool true) rfl rfl (run_bin rfl (vx := .int .i64 n) (vy := .int .i64 0) (by kernel_rfl) (by kernel_rfl) fun w => run_geqI (decide_eq_true h0) w) ?_
      refine lm (v := .bool true) rfl rfl ?_
      refine lm (v := .int .i64 n) rfl rfl ?_
      refine lp (v := .bool false) rfl rfl (run_bin rfl (vx := .int .i64 n) (vy := .int .i64 100000000) (by kernel_rfl) (by kernel_rfl) fun w => run_leqI (decide_eq_false h1) w) ?_
      refine lm (v := .bool false) rfl rfl ?_
      refine lm (v := .bool false) rfl rfl ?_
      refine wpL_done (fun W2 hW2 => ?_)
      clear hW1
      refine (show Code.wp _ _ _ _ _ from ?_)
      refine wp_ret ?_
      try simp only [inBlock_ret, then_ret]
      go_ret
      exact ⟨rfl, hW2.1⟩
  · have hr : isT n = false := by unfold isT; simp; omega
    rw [hr]
    go_enter Tryd.func75, Tryd.ntmps75
    refine wp_seq ?_
    refine wp_region_L (W0 := w) [] (KS.start w) ?_
    refine lm (v := .bool false) rfl rfl ?_
    refine wpL_done (fun W1 hW1 => ?_)
    refine (show Code.wp _ _ _ _ _ from ?_)
    refine wp_seq ?_
    refine wp_region_L (W0 := w) [] (hW1) ?_
    refine lm (v := .int .i64 n) rfl rfl ?_
    refine lp (v := .bool false) rfl rfl (run_bin rfl (vx := .int .i64 n) (vy := .int .i64 0) (by kernel_rfl) (by kernel_rfl) fun w => run_geqI (decide_eq_false h0) w) ?_
    refine lm (v := .bool false) rfl rfl ?_
    refine ln rfl ?_
    refine ln rfl ?_
    refine lm (v := .bool false) rfl rfl ?_
    refine lm (v := .bool false) rfl rfl ?_
    refine wpL_done (fun W2 hW2 => ?_)
    clear hW1
    refine (show Code.wp _ _ _ _ _ from ?_)
    refine wp_ret ?_
    try simp only [inBlock_ret, then_ret]
    go_ret
    exact ⟨rfl, hW2.1⟩
set_option maxRecDepth 100000 in
set_option maxHeartbeats 2000000 in
theorem rtwo_any (n : Nat) (hn : n < 100) (w : World) : Calls Tryd.prog 80 #[.int .i64 (n : Int)] w fun e w' => e = .returned (strV (two n)) ∧ Below w.heap.size w w' := by
  rw [show two n = [48 + n / 10, 48 + n % 10].map UInt8.ofNat from two_eq hn]
  go_enter Tryd.func80, Tryd.ntmps80
  refine wp_seq ?_
  refine wp_region_L (W0 := w) [] (KS.start w) ?_
  refine lm (v := strV []) rfl rfl ?_
  refine wpL_done (fun W1 hW1 => ?_)
  refine (show Code.wp _ _ _ _ _ from ?_)
  refine wp_seq ?_
  refine wp_region_L (W0 := w) [] (hW1) ?_
  refine lm (v := .int .i64 (n : Int)) rfl rfl ?_
  refine lp (v := .int .i64 ((n / 10 : Nat) : Int)) rfl rfl (run_bin rfl (vx := .int .i64 (n : Int)) (vy := .int .i64 10) (by kernel_rfl) (by kernel_rfl) fun w => run_quoI (z := ((n / 10 : Nat) : Int)) ((Int.tdiv_eq_ediv_of_nonneg (by omega)).trans (by omega)) (by omega) (by omega) w) ?_
  refine lp (v := .int .i64 ((48 + n / 10 : Nat) : Int)) rfl rfl (run_bin rfl (vx := .int .i64 48) (vy := .int .i64 ((n / 10 : Nat) : Int)) (by kernel_rfl) (by kernel_rfl) fun w => run_addI (z := ((48 + n / 10 : Nat) : Int)) (by omega) (by omega) w) ?_
  refine lp (v := .int .u8 (((48 + n / 10) : Nat) : Int)) rfl rfl (run_cv8 (n := (48 + n / 10)) rfl (by kernel_rfl) (by omega)) ?_
  refine lm (v := .int .i64 (n : Int)) rfl rfl ?_
  refine lp (v := .int .i64 ((n % 10 : Nat) : Int)) rfl rfl (run_bin rfl (vx := .int .i64 (n : Int)) (vy := .int .i64 10) (by kernel_rfl) (by kernel_rfl) fun w => run_remI (z := ((n % 10 : Nat) : Int)) (by omega) (by omega) (by omega) (by omega) w) ?_
  refine lp (v := .int .i64 ((48 + n % 10 : Nat) : Int)) rfl rfl (run_bin rfl (vx := .int .i64 48) (vy := .int .i64 ((n % 10 : Nat) : Int)) (by kernel_rfl) (by kernel_rfl) fun w => run_addI (z := ((48 + n % 10 : Nat) : Int)) (by omega) (by omega) w) ?_
  refine lp (v := .int .u8 (((48 + n % 10) : Nat) : Int)) rfl rfl (run_cv8 (n := (48 + n % 10)) rfl (by kernel_rfl) (by omega)) ?_
  refine wpL_new (fun g => .slice (some ⟨g, 0, none⟩) 2 2) (obi := .cells #[.int .u8 (((48 + n / 10) : Nat) : Int), .int .u8 (((48 + n % 10) : Nat) : Int)] 5 (0, 0)) rfl rfl (fun _ => by kernel_rfl) (fun _ => by simp only [List.setIfInBounds_toArray, List.set_cons_succ, List.set_cons_zero] <;> rfl) fun g1 Bg1 Fg1 => ?_
  try simp only [List.forall_mem_cons] at Fg1
  refine lv (v := strV ([(48 + n / 10), (48 + n % 10)].map UInt8.ofNat)) rfl rfl (yb_cvs [(48 + n / 10), (48 + n % 10)] rfl (by kernel_rfl) rfl (.head _)) ?_
  refine lm (v := strV ([(48 + n / 10), (48 + n % 10)].map UInt8.ofNat)) rfl rfl ?_
  refine wpL_done (fun W2 hW2 => ?_)
  clear hW1
  refine (show Code.wp _ _ _ _ _ from ?_)
  refine wp_ret ?_
  try simp only [inBlock_ret, then_ret]
  go_ret
  exact ⟨rfl, hW2.1⟩
end Go.Proofs.YtjmcelgdjpdacaaDoor
namespace Go.Proofs.YtjmcelgdjpdacaaDoor
open Go.RowKit Tw
open Go
set_option maxRecDepth 100000 in
set_option maxHeartbeats 8000000 in
theorem RText_ok (t : Nat) (ht : t ≤ 100000000) (w : World) : Calls Tryd.prog 55 #[.int .i64 (t : Int)] w fun e w' => e = .returned (.tuple #[strV (textS t), .int .i64 0]) ∧ Below w.heap.size w w' := by
  have hit := fun W => rtime_any (t : Int) W
  simp only [show isT (t : Int) = true from by simp [isT]; omega] at hit
  have h2 := dec_length 3 (t / 10080) (by omega)
  have h3 := day_len (t % 10080 / 1440)
  have h4 := two_len (n := t % 1440 / 60) (by omega)
  have h5 := two_len (n := t % 60) (by omega)
  have ht1 := fun W => rtwo_any (t % 1440 / 60) (by omega) W
  have ht2 := fun W => rtwo_any (t % 60) (by omega) W
  have hnd := names_day (d := t % 10080 / 1440) (by omega)
  have hS : textS t = Lib.decDigits (t / 10080) ++ [32] ++ dayL (t % 10080 / 1440) ++ [32] ++ two (t % 1440 / 60) ++ [58] ++ two (t % 60) := by rw [show t % 60 = t % 1440 % 60 from by omega]; rfl
  obtain ⟨la, hla⟩ : ∃ l, Lib.decDigits (t / 10080) = l := ⟨_, rfl⟩
  obtain ⟨ld, hld⟩ : ∃ l, dayL (t % 10080 / 1440) = l := ⟨_, rfl⟩
  obtain ⟨lh, hlh⟩ : ∃ l, two (t % 1440 / 60) = l := ⟨_, rfl⟩
  obtain ⟨lq, hlm⟩ : ∃ l, two (t % 60) = l := ⟨_, rfl⟩
  rw [hla, hld, hlh, hlm] at hS
  have hlp := dec_pos (t / 10080)
  rw [hla] at h2 hlp
  rw [hld] at h3 hnd
  rw [hlh] at h4 ht1
  rw [hlm] at h5 ht2
  obtain ⟨s1, E1⟩ : ∃ s, la ++ [32] = s := ⟨_, rfl⟩
  obtain ⟨s2, E2⟩ : ∃ s, s1 ++ ld = s := ⟨_, rfl⟩
  obtain ⟨s3, E3⟩ : ∃ s, s2 ++ [32] = s := ⟨_, rfl⟩
  obtain ⟨s4, E4⟩ : ∃ s, s3 ++ lh = s := ⟨_, rfl⟩
  obtain ⟨s5, E5⟩ : ∃ s, s4 ++ [58] = s := ⟨_, rfl⟩
  obtain ⟨s6, E6⟩ : ∃ s, s5 ++ lq = s := ⟨_, rfl⟩
  rw [E1, E2, E3, E4, E5, E6] at hS
  have q1 : s1.length ≤ 5 := by rw [← E1]; simp; omega
  have q2 : s2.length ≤ 8 := by rw [← E2]; simp; omega
  have q3 : s3.length ≤ 9 := by rw [← E3]; simp; omega
  have q4 : s4.length ≤ 11 := by rw [← E4]; simp; omega
  have q5 : s5.length ≤ 12 := by rw [← E5]; simp; omega
  rw [hS]
  go_enter Tryd.func55, Tryd.ntmps55
  refine wp_seq ?_
  refine wp_region_L (W0 := w) [] (KS.start w) ?_
  refine lm (v := strV []) rfl rfl ?_
  refine lm (v := .int .i64 0) rfl rfl ?_
  refine wpL_done (fun W1 hW1 => ?_)
  refine (show Code.wp _ _ _ _ _ from ?_)
  refine wp_seq ?_
  refine wp_seq ?_
  refine wp_region_L (W0 := w) [] (hW1) ?_
  refine lm (v := .int .i64 (t : Int)) rfl rfl ?_
  refine lv (v := .bool true) rfl rfl (yb_call (f := 75) (args := #[.int .i64 (t : Int)]) (fun _ => by kernel_rfl) fun W hW => hit W) ?_
  refine lm (v := .bool false) rfl rfl ?_
  refine wpL_done (fun W2 hW2 => ?_)
  clear hW1
  refine (show Code.wp _ _ _ _ _ from ?_)
  refine wp_cond_false rfl ?_
  refine wp_skip ?_
  refine (show Code.wp _ _ _ _ _ from ?_)
  refine wp_seq ?_
  refine wp_region_L (W0 := w) [] (hW2) ?_
  refine lm (v := strV []) rfl rfl ?_
  refine wpL_done (fun W3 hW3 => ?_)
  clear hW2
  refine (show Code.wp _ _ _ _ _ from ?_)
  refine wp_seq ?_
  refine wp_seq ?_
  refine wp_region_L (W0 := w) [] (hW3) ?_
  refine lm (v := .int .i64 (t : Int)) rfl rfl ?_
  refine lp (v := .int .i64 ((t / 10080 : Nat) : Int)) rfl rfl (run_bin rfl (vx := .int .i64 (t : Int)) (vy := .int .i64 10080) (by kernel_rfl) (by kernel_rfl) fun w => run_quoI (z := ((t / 10080 : Nat) : Int)) ((Int.tdiv_eq_ediv_of_nonneg (by omega)).trans (by omega)) (by omega) (by omega) w) ?_
  refine lm (v := .int .i64 ((t / 10080 : Nat) : Int)) rfl rfl ?_
  refine wpL_done (fun W4 hW4 => ?_)
  clear hW3
  refine (show Code.wp _ _ _ _ _ from ?_)
  refine wp_block ?_
  go_loopw [4, 5] (fun u v wr => ∃ (l : List UInt8) (n : Nat), u = strV l ∧ v = .int .i64 (n : Int) ∧ ((l = [] ∧ n = t / 10080) ∨ (l ≠ [] ∧ digs n ++ l = la)) ∧ n ≤ 10000 ∧ KS w [] wr) (fun u v _ => (if strSize u = 0 then 1 else 0) + (intOf v).toNat)
  case atStart => exact ⟨[], t / 10080, rfl, rfl, .inl ⟨rfl, rfl⟩, by omega, ks_none (hW4)⟩
  case round =>
    obtain ⟨l, n, rfl, rfl, hin, hn, hKS⟩ := hrel
    by_cases hn0 : 0 < n
    · have hll : (l : List UInt8).length ≤ 4 := by rcases hin with ⟨e, _⟩ | ⟨_, h⟩; rw [e]; simp; (rw [← h, List.length_append] at h2; omega)
      have hnx : digs (n / 10) ++ ([48 + n % 10].map UInt8.ofNat ++ l) = la := by
        rw [← List.append_assoc]
        show digs (n / 10) ++ [UInt8.ofNat (48 + n % 10)] ++ l = la
        rw [digs_step hn0]
        rcases hin with ⟨e, h⟩ | ⟨_, h⟩
        · rw [e, h, List.append_nil, hla]
        · rw [← h]; unfold digs; rw [if_neg (by omega)]
      refine wp_seq ?_
      refine wp_seq ?_
      refine wp_region_L (W0 := w) [] (hKS) ?_
      refine lm (v := .int .i64 (n : Int)) rfl rfl ?_
      refine lp (v := .bool true) rfl rfl (run_bin rfl (vx := .int .i64 (n : Int)) (vy := .int .i64 0) (by kernel_rfl) (by kernel_rfl) fun w => run_gtrI (decide_eq_true (by omega)) w) ?_
      refine lm (v := .bool true) rfl rfl ?_
      refine ln rfl ?_
      refine ln rfl ?_
      refine lm (v := .bool true) rfl rfl ?_
      refine wpL_done (fun W5 hW5 => ?_)
      refine (show Code.wp _ _ _ _ _ from ?_)
      refine wp_cond_true rfl ?_
      refine wp_skip ?_
      refine (show Code.wp _ _ _ _ _ from ?_)
      refine wp_seq ?_
      refine wp_block ?_
      refine wp_region_L (W0 := w) [] (hW5) ?_
      refine lm (v := .int .i64 (n : Int)) rfl rfl ?_
      refine lp (v := .int .i64 ((n % 10 : Nat) : Int)) rfl rfl (run_bin rfl (vx := .int .i64 (n : Int)) (vy := .int .i64 10) (by kernel_rfl) (by kernel_rfl) fun w => run_remI (z := ((n % 10 : Nat) : Int)) (by omega) (by omega) (by omega) (by omega) w) ?_
      refine lp (v := .int .i64 ((48 + n % 10 : Nat) : Int)) rfl rfl (run_bin rfl (vx := .int .i64 48) (vy := .int .i64 ((n % 10 : Nat) : Int)) (by kernel_rfl) (by kernel_rfl) fun w => run_addI (z := ((48 + n % 10 : Nat) : Int)) (by omega) (by omega) w) ?_
      refine lp (v := .int .u8 (((48 + n % 10) : Nat) : Int)) rfl rfl (run_cv8 (n := (48 + n % 10)) rfl (by kernel_rfl) (by omega)) ?_
      refine wpL_new (fun g => .slice (some ⟨g, 0, none⟩) 1 1) (obi := .cells #[.int .u8 (((48 + n % 10) : Nat) : Int)] 5 (0, 0)) rfl rfl (fun _ => by kernel_rfl) (fun _ => by simp only [List.setIfInBounds_toArray, List.set_cons_succ, List.set_cons_zero] <;> rfl) fun g1 Bg1 Fg1 => ?_
      try simp only [List.forall_mem_cons] at Fg1
      refine lv (v := strV ([(48 + n % 10)].map UInt8.ofNat)) rfl rfl (yb_cvs [(48 + n % 10)] rfl (by kernel_rfl) rfl (.head _)) ?_
      refine lm (v := strV l) rfl rfl ?_
      refine lp (v := strV ([(48 + n % 10)].map UInt8.ofNat ++ l)) rfl rfl (run_bin rfl (vx := strV ([(48 + n % 10)].map UInt8.ofNat)) (vy := strV l) (by kernel_rfl) (by kernel_rfl) fun w => run_catS rfl (by simp; omega) w) ?_
      refine lm (v := strV ([(48 + n % 10)].map UInt8.ofNat ++ l)) rfl rfl ?_
      refine wpL_done (fun W6 hW6 => ?_)
      clear hW5
      refine (show Code.wp _ _ _ _ _ from ?_)
      refine wp_region_L (W0 := w) [(g1, .cells #[.int .u8 (((48 + n % 10) : Nat) : Int)] 5 (0, 0))] (hW6) ?_
      refine lm (v := .int .i64 (n : Int)) rfl rfl ?_
      refine lp (v := .int .i64 ((n / 10 : Nat) : Int)) rfl rfl (run_bin rfl (vx := .int .i64 (n : Int)) (vy := .int .i64 10) (by kernel_rfl) (by kernel_rfl) fun w => run_quoI (z := ((n / 10 : Nat) : Int)) ((Int.tdiv_eq_ediv_of_nonneg (by omega)).trans (by omega)) (by omega) (by omega) w) ?_
      refine lm (v := .int .i64 ((n / 10 : Nat) : Int)) rfl rfl ?_
      refine wpL_done (fun W7 hW7 => ?_)
      clear hW6
      go_roundw
      case rel =>
        repeat apply Exists.intro
        exact ⟨⟨[(48 + n % 10)].map UInt8.ofNat ++ l, n / 10, rfl, rfl, .inr ⟨by simp, hnx⟩, by omega, ks_none hW7⟩, rfl⟩
      case measure => (show (if strSize (strV ([(48 + n % 10)].map UInt8.ofNat ++ l)) = 0 then 1 else 0) + (intOf (.int .i64 ((n / 10 : Nat) : Int))).toNat < (if strSize (strV l) = 0 then 1 else 0) + (intOf (.int .i64 (n : Int))).toNat); rw [strSize_V, strSize_V]; simp only [intOf, List.length_append, List.length_map, List.length_cons, List.length_nil]; (repeat' split) <;> omega
    · rcases hin with ⟨rfl, hz⟩ | ⟨hl, hd⟩
      · skip
        have hnx : digs (n / 10) ++ ([48 + n % 10].map UInt8.ofNat ++ []) = la := by
          show digs (n / 10) ++ [UInt8.ofNat (48 + n % 10)] = la
          rw [← hla, ← hz, show n = 0 from by omega, dec_small (by omega)]
          rfl
        refine wp_seq ?_
        refine wp_seq ?_
        refine wp_region_L (W0 := w) [] (hKS) ?_
        refine lm (v := .int .i64 (n : Int)) rfl rfl ?_
        refine lp (v := .bool false) rfl rfl (run_bin rfl (vx := .int .i64 (n : Int)) (vy := .int .i64 0) (by kernel_rfl) (by kernel_rfl) fun w => run_gtrI (decide_eq_false (by omega)) w) ?_
        refine lm (v := .bool false) rfl rfl ?_
        refine lm (v := strV []) rfl rfl ?_
        refine lp (v := .bool true) rfl rfl (run_bin rfl (vx := strV []) (vy := strV []) (by kernel_rfl) (by kernel_rfl) fun w => run_eqS (beq_self_eq_true _) w) ?_
        refine lm (v := .bool true) rfl rfl ?_
        refine wpL_done (fun W5 hW5 => ?_)
        refine (show Code.wp _ _ _ _ _ from ?_)
        refine wp_cond_true rfl ?_
        refine wp_skip ?_
        refine (show Code.wp _ _ _ _ _ from ?_)
        refine wp_seq ?_
        refine wp_block ?_
        refine wp_region_L (W0 := w) [] (hW5) ?_
        refine lm (v := .int .i64 (n : Int)) rfl rfl ?_
        refine lp (v := .int .i64 ((n % 10 : Nat) : Int)) rfl rfl (run_bin rfl (vx := .int .i64 (n : Int)) (vy := .int .i64 10) (by kernel_rfl) (by kernel_rfl) fun w => run_remI (z := ((n % 10 : Nat) : Int)) (by omega) (by omega) (by omega) (by omega) w) ?_
        refine lp (v := .int .i64 ((48 + n % 10 : Nat) : Int)) rfl rfl (run_bin rfl (vx := .int .i64 48) (vy := .int .i64 ((n % 10 : Nat) : Int)) (by kernel_rfl) (by kernel_rfl) fun w => run_addI (z := ((48 + n % 10 : Nat) : Int)) (by omega) (by omega) w) ?_
        refine lp (v := .int .u8 (((48 + n % 10) : Nat) : Int)) rfl rfl (run_cv8 (n := (48 + n % 10)) rfl (by kernel_rfl) (by omega)) ?_
        refine wpL_new (fun g => .slice (some ⟨g, 0, none⟩) 1 1) (obi := .cells #[.int .u8 (((48 + n % 10) : Nat) : Int)] 5 (0, 0)) rfl rfl (fun _ => by kernel_rfl) (fun _ => by simp only [List.setIfInBounds_toArray, List.set_cons_succ, List.set_cons_zero] <;> rfl) fun g1 Bg1 Fg1 => ?_
        try simp only [List.forall_mem_cons] at Fg1
        refine lv (v := strV ([(48 + n % 10)].map UInt8.ofNat)) rfl rfl (yb_cvs [(48 + n % 10)] rfl (by kernel_rfl) rfl (.head _)) ?_
        refine lm (v := strV []) rfl rfl ?_
        refine lp (v := strV ([(48 + n % 10)].map UInt8.ofNat ++ [])) rfl rfl (run_bin rfl (vx := strV ([(48 + n % 10)].map UInt8.ofNat)) (vy := strV []) (by kernel_rfl) (by kernel_rfl) fun w => run_catS rfl (by simp) w) ?_
        refine lm (v := strV ([(48 + n % 10)].map UInt8.ofNat ++ [])) rfl rfl ?_
        refine wpL_done (fun W6 hW6 => ?_)
        clear hW5
        refine (show Code.wp _ _ _ _ _ from ?_)
        refine wp_region_L (W0 := w) [(g1, .cells #[.int .u8 (((48 + n % 10) : Nat) : Int)] 5 (0, 0))] (hW6) ?_
        refine lm (v := .int .i64 (n : Int)) rfl rfl ?_
        refine lp (v := .int .i64 ((n / 10 : Nat) : Int)) rfl rfl (run_bin rfl (vx := .int .i64 (n : Int)) (vy := .int .i64 10) (by kernel_rfl) (by kernel_rfl) fun w => run_quoI (z := ((n / 10 : Nat) : Int)) ((Int.tdiv_eq_ediv_of_nonneg (by omega)).trans (by omega)) (by omega) (by omega) w) ?_
        refine lm (v := .int .i64 ((n / 10 : Nat) : Int)) rfl rfl ?_
        refine wpL_done (fun W7 hW7 => ?_)
        clear hW6
        go_roundw
        case rel =>
          repeat apply Exists.intro
          exact ⟨⟨[(48 + n % 10)].map UInt8.ofNat ++ [], n / 10, rfl, rfl, .inr ⟨by simp, hnx⟩, by omega, ks_none hW7⟩, rfl⟩
        case measure => (show (if strSize (strV ([(48 + n % 10)].map UInt8.ofNat ++ [])) = 0 then 1 else 0) + (intOf (.int .i64 ((n / 10 : Nat) : Int))).toNat < (if strSize (strV []) = 0 then 1 else 0) + (intOf (.int .i64 (n : Int))).toNat); rw [strSize_V, strSize_V]; rw [if_neg (by simp), if_pos (show ([] : List UInt8).length = 0 from rfl)]; simp only [intOf]; omega
      · have hl2 : la = l := by rw [← hd, show n = 0 from by omega]; rfl
        subst hl2
        refine wp_seq ?_
        refine wp_seq ?_
        refine wp_region_L (W0 := w) [] (hKS) ?_
        refine lm (v := .int .i64 (n : Int)) rfl rfl ?_
        refine lp (v := .bool false) rfl rfl (run_bin rfl (vx := .int .i64 (n : Int)) (vy := .int .i64 0) (by kernel_rfl) (by kernel_rfl) fun w => run_gtrI (decide_eq_false (by omega)) w) ?_
        refine lm (v := .bool false) rfl rfl ?_
        refine lm (v := strV la) rfl rfl ?_
        refine lp (v := .bool false) rfl rfl (run_bin rfl (vx := strV la) (vy := strV []) (by kernel_rfl) (by kernel_rfl) fun w => run_eqS (beq_eq_false_iff_ne.2 hl) w) ?_
        refine lm (v := .bool false) rfl rfl ?_
        refine wpL_done (fun W5 hW5 => ?_)
        refine (show Code.wp _ _ _ _ _ from ?_)
        refine wp_cond_false rfl ?_
        refine wp_exit ?_
        refine (show Code.wp _ _ _ _ _ from ?_)
        refine wp_seq ?_
        refine wp_region_L (W0 := w) [] (hW5) ?_
        refine lm (v := strV [77, 111, 110, 84, 117, 101, 87, 101, 100, 84, 104, 117, 70, 114, 105, 83, 97, 116, 83, 117, 110]) rfl rfl ?_
        refine wpL_done (fun W6 hW6 => ?_)
        clear hW5
        refine (show Code.wp _ _ _ _ _ from ?_)
        refine wp_seq ?_
        refine wp_region_L (W0 := w) [] (hW6) ?_
        refine lm (v := .int .i64 (t : Int)) rfl rfl ?_
        refine lp (v := .int .i64 ((t % 10080 : Nat) : Int)) rfl rfl (run_bin rfl (vx := .int .i64 (t : Int)) (vy := .int .i64 10080) (by kernel_rfl) (by kernel_rfl) fun w => run_remI (z := ((t % 10080 : Nat) : Int)) (by omega) (by omega) (by omega) (by omega) w) ?_
        refine lp (v := .int .i64 ((t % 10080 / 1440 : Nat) : Int)) rfl rfl (run_bin rfl (vx := .int .i64 ((t % 10080 : Nat) : Int)) (vy := .int .i64 1440) (by kernel_rfl) (by kernel_rfl) fun w => run_quoI (z := ((t % 10080 / 1440 : Nat) : Int)) ((Int.tdiv_eq_ediv_of_nonneg (by omega)).trans (by omega)) (by omega) (by omega) w) ?_
        refine lm (v := .int .i64 ((t % 10080 / 1440 : Nat) : Int)) rfl rfl ?_
        refine wpL_done (fun W7 hW7 => ?_)
        clear hW6
        refine (show Code.wp _ _ _ _ _ from ?_)
        refine wp_seq ?_
        refine wp_region_V (W0 := w) [] (by kernel_rfl) (hW7) ?_
        refine vm (i := 0) (v := strV la) rfl rfl rfl ?_
        refine vp (i := 1) (v := strV s1) rfl rfl rfl (run_bin rfl (vx := strV la) (vy := strV [32]) (by kernel_rfl) (by kernel_rfl) fun w => run_catS E1 (by first | omega | (simp; omega)) w) ?_
        refine vm (i := 2) (v := strV [77, 111, 110, 84, 117, 101, 87, 101, 100, 84, 104, 117, 70, 114, 105, 83, 97, 116, 83, 117, 110]) rfl rfl rfl ?_
        refine vm (i := 3) (v := .int .i64 ((t % 10080 / 1440 : Nat) : Int)) rfl rfl rfl ?_
        refine vp (i := 4) (v := .int .i64 ((3 * (t % 10080 / 1440) : Nat) : Int)) rfl rfl rfl (run_bin rfl (vx := .int .i64 3) (vy := .int .i64 ((t % 10080 / 1440 : Nat) : Int)) (by kernel_rfl) (by kernel_rfl) fun w => run_mulI (z := ((3 * (t % 10080 / 1440) : Nat) : Int)) (by omega) (by omega) w) ?_
        refine vm (i := 5) (v := .int .i64 ((t % 10080 / 1440 : Nat) : Int)) rfl rfl rfl ?_
        refine vp (i := 6) (v := .int .i64 ((3 * (t % 10080 / 1440) : Nat) : Int)) rfl rfl rfl (run_bin rfl (vx := .int .i64 3) (vy := .int .i64 ((t % 10080 / 1440 : Nat) : Int)) (by kernel_rfl) (by kernel_rfl) fun w => run_mulI (z := ((3 * (t % 10080 / 1440) : Nat) : Int)) (by omega) (by omega) w) ?_
        refine vp (i := 7) (v := .int .i64 ((3 * (t % 10080 / 1440) + 3 : Nat) : Int)) rfl rfl rfl (run_bin rfl (vx := .int .i64 ((3 * (t % 10080 / 1440) : Nat) : Int)) (vy := .int .i64 3) (by kernel_rfl) (by kernel_rfl) fun w => run_addI (z := ((3 * (t % 10080 / 1440) + 3 : Nat) : Int)) (by omega) (by omega) w) ?_
        refine vp (i := 8) (v := strV ld) rfl rfl rfl (run_sliceT (l := namesL) (i := 3 * (t % 10080 / 1440)) (j := 3 * (t % 10080 / 1440) + 3) rfl (by kernel_rfl) (by kernel_rfl) (by kernel_rfl) (by omega) (show 3 * (t % 10080 / 1440) + 3 ≤ 21 by omega) hnd) ?_
        refine vp (i := 9) (v := strV s2) rfl rfl rfl (run_bin rfl (vx := strV s1) (vy := strV ld) (by kernel_rfl) (by kernel_rfl) fun w => run_catS E2 (by first | omega | (simp; omega)) w) ?_
        refine vp (i := 10) (v := strV s3) rfl rfl rfl (run_bin rfl (vx := strV s2) (vy := strV [32]) (by kernel_rfl) (by kernel_rfl) fun w => run_catS E3 (by first | omega | (simp; omega)) w) ?_
        refine vm (i := 11) (v := .int .i64 (t : Int)) rfl rfl rfl ?_
        refine vp (i := 12) (v := .int .i64 ((t % 1440 : Nat) : Int)) rfl rfl rfl (run_bin rfl (vx := .int .i64 (t : Int)) (vy := .int .i64 1440) (by kernel_rfl) (by kernel_rfl) fun w => run_remI (z := ((t % 1440 : Nat) : Int)) (by omega) (by omega) (by omega) (by omega) w) ?_
        refine vp (i := 13) (v := .int .i64 ((t % 1440 / 60 : Nat) : Int)) rfl rfl rfl (run_bin rfl (vx := .int .i64 ((t % 1440 : Nat) : Int)) (vy := .int .i64 60) (by kernel_rfl) (by kernel_rfl) fun w => run_quoI (z := ((t % 1440 / 60 : Nat) : Int)) ((Int.tdiv_eq_ediv_of_nonneg (by omega)).trans (by omega)) (by omega) (by omega) w) ?_
        refine vv (i := 14) (v := strV lh) rfl rfl rfl (yb_call (f := 80) (args := #[.int .i64 ((t % 1440 / 60 : Nat) : Int)]) (fun _ => by kernel_rfl) fun W hW => ht1 W) ?_
        refine vp (i := 15) (v := strV s4) rfl rfl rfl (run_bin rfl (vx := strV s3) (vy := strV lh) (by kernel_rfl) (by kernel_rfl) fun w => run_catS E4 (by first | omega | (simp; omega)) w) ?_
        refine vp (i := 16) (v := strV s5) rfl rfl rfl (run_bin rfl (vx := strV s4) (vy := strV [58]) (by kernel_rfl) (by kernel_rfl) fun w => run_catS E5 (by first | omega | (simp; omega)) w) ?_
        refine vm (i := 17) (v := .int .i64 (t : Int)) rfl rfl rfl ?_
        refine vp (i := 18) (v := .int .i64 ((t % 60 : Nat) : Int)) rfl rfl rfl (run_bin rfl (vx := .int .i64 (t : Int)) (vy := .int .i64 60) (by kernel_rfl) (by kernel_rfl) fun w => run_remI (z := ((t % 60 : Nat) : Int)) (by omega) (by omega) (by omega) (by omega) w) ?_
        refine vv (i := 19) (v := strV lq) rfl rfl rfl (yb_call (f := 80) (args := #[.int .i64 ((t % 60 : Nat) : Int)]) (fun _ => by kernel_rfl) fun W hW => ht2 W) ?_
        refine vp (i := 20) (v := strV s6) rfl rfl rfl (run_bin rfl (vx := strV s5) (vy := strV lq) (by kernel_rfl) (by kernel_rfl) fun w => run_catS E6 (by first | omega | (simp; omega)) w) ?_
        refine vm (i := 21) (v := strV s6) rfl rfl rfl ?_
        refine vm (i := 22) (v := .int .i64 0) rfl rfl rfl ?_
        refine wpV_done (by kernel_rfl) (fun W8 hW8 => ?_) _
        clear hW7
        refine (show Code.wp _ _ _ _ _ from ?_)
        refine wp_ret ?_
        try simp only [inBlock_ret, then_ret]
        exact bodyPost_ret (results_tmp2 rfl _ _ _) rfl ⟨by first | rfl, hW8.1⟩
set_option maxRecDepth 100000 in
set_option maxHeartbeats 2000000 in
theorem RText_err (n : Int) (h : isT n = false) (w : World) : Calls Tryd.prog 55 #[.int .i64 n] w fun e w' => e = .returned (.tuple #[strV [], .int .i64 2]) ∧ Below w.heap.size w w' := by
  have hit := fun W => rtime_any n W
  simp only [h] at hit
  go_enter Tryd.func55, Tryd.ntmps55
  refine wp_seq ?_
  refine wp_region_L (W0 := w) [] (KS.start w) ?_
  refine lm (v := strV []) rfl rfl ?_
  refine lm (v := .int .i64 0) rfl rfl ?_
  refine wpL_done (fun W1 hW1 => ?_)
  refine (show Code.wp _ _ _ _ _ from ?_)
  refine wp_seq ?_
  refine wp_seq ?_
  refine wp_region_L (W0 := w) [] (hW1) ?_
  refine lm (v := .int .i64 n) rfl rfl ?_
  refine lv (v := .bool false) rfl rfl (yb_call (f := 75) (args := #[.int .i64 n]) (fun _ => by kernel_rfl) fun W hW => hit W) ?_
  refine lm (v := .bool true) rfl rfl ?_
  refine wpL_done (fun W2 hW2 => ?_)
  clear hW1
  refine (show Code.wp _ _ _ _ _ from ?_)
  refine wp_cond_true rfl ?_
  refine wp_seq ?_
  refine wp_region_L (W0 := w) [] (hW2) ?_
  refine lm (v := strV []) rfl rfl ?_
  refine lm (v := .int .i64 2) rfl rfl ?_
  refine wpL_done (fun W3 hW3 => ?_)
  clear hW2
  refine (show Code.wp _ _ _ _ _ from ?_)
  refine wp_ret ?_
  try simp only [inBlock_ret, then_ret]
  exact bodyPost_ret (results_tmp2 rfl _ _ _) rfl ⟨by first | rfl, hW3.1⟩
end Go.Proofs.YtjmcelgdjpdacaaDoor
namespace Go.Proofs.YtjmcelgdjpdacaaDoor
open Go.RowKit Tw
open Go
def accL (l : List UInt8) : Int := l.foldl (fun a b => 10 * a + (b.toNat : Int) - 48) 0
def bN (l : List UInt8) (k : Nat) : Int := ((l.getD k 0).toNat : Int)
theorem bN_range (l : List UInt8) (k : Nat) : 0 ≤ bN l k ∧ bN l k ≤ 255 := by
  unfold bN
  have := (l.getD k 0).toNat_lt
  omega
theorem acc_snoc (l : List UInt8) {i : Nat} (h : i < l.length) : accL (l.take (i + 1)) = 10 * accL (l.take i) + bN l i - 48 := by
  have e : l.take (i + 1) = l.take i ++ [l[i]] := by rw [List.take_add_one, List.getElem?_eq_getElem h]; rfl
  rw [e]
  unfold accL bN
  rw [List.foldl_append]
  simp [List.getD, List.getElem?_eq_getElem h]
theorem run_idxS {o : Oper} {a : Act} {l : List UInt8} {k : Nat} {px py : Operand} (ho : o.op = .index 9 px py) (hx : a.eval px = strV l) (hy : a.eval py = .int .i64 (k : Int)) (hk : k < l.length) (w : World) : (execOp a.eval o).run Tryd.prog w = .ok (.value (.int .u8 (bN l k))) w := by
  have hs := ba_size l
  unfold execOp
  rw [ho]
  unfold strV at *
  simp only [hx, hy]
  have h1 : (k : Int) < (l.length : Int) := by omega
  go_simp
  unfold bN
  congr 2
  simp [ByteArray.getElem_eq_getElem_data, List.getD, List.getElem?_eq_getElem hk]
theorem run_cvB {o : Oper} {a : Act} {x : Int} {px : Operand} (ho : o.op = .convert 5 3 px) (hx : a.eval px = .int .u8 x) (hr : 0 ≤ x ∧ x ≤ 255) (w : World) : (execOp a.eval o).run Tryd.prog w = .ok (.value (.int .i64 x)) w := by
  unfold execOp
  rw [ho]
  simp only [hx]
  have := wrap_in (z := x) (by omega)
  go_simp
end Go.Proofs.YtjmcelgdjpdacaaDoor
namespace Go.Proofs.YtjmcelgdjpdacaaDoor
open Go.RowKit Tw
open Go
set_option maxRecDepth 100000 in
set_option maxHeartbeats 8000000 in
theorem RRead_any (l : List UInt8) (hl : l.length ≤ 281474976710656) (w : World) : Calls Tryd.prog 56 #[strV l] w fun e w' => ((∃ x : Nat, x ≤ 100000000 ∧ textS x = l ∧ e = .returned (.tuple #[.int .i64 (x : Int), .int .i64 0])) ∨ (e = .returned (.tuple #[.int .i64 0, .int .i64 20]) ∧ ∀ n : Nat, l.length = n + 10 → 1 ≤ n → n ≤ 5 → 0 ≤ accL (l.take n) → accL (l.take n) ≤ 9920 → ∀ d : Nat, d < 7 → ∀ x : Nat, (x : Int) = accL (l.take n) * 10080 + d * 1440 + 60 * (10 * (bN l (n + 5) - 48) + bN l (n + 6) - 48) + 10 * (bN l (n + 8) - 48) + bN l (n + 9) - 48 → x ≤ 100000000 → textS x ≠ l)) ∧ Below w.heap.size w w' := by
  by_cases hn : 11 ≤ l.length ∧ l.length ≤ 15
  · obtain ⟨n, hln⟩ : ∃ n, l.length = n + 10 := ⟨l.length - 10, by omega⟩
    have hn5 : 1 ≤ n ∧ n ≤ 5 := by omega
    go_enter Tryd.func56, Tryd.ntmps56
    refine wp_seq ?_
    refine wp_region_L (W0 := w) [] (KS.start w) ?_
    refine lm (v := .int .i64 0) rfl rfl ?_
    refine lm (v := .int .i64 0) rfl rfl ?_
    refine wpL_done (fun W1 hW1 => ?_)
    refine (show Code.wp _ _ _ _ _ from ?_)
    refine wp_seq ?_
    refine wp_region_L (W0 := w) [] (hW1) ?_
    refine lm (v := strV l) rfl rfl ?_
    refine lp (v := .int .i64 (l.length : Int)) rfl rfl ((fun _ => by rw [← ba_size l]; kernel_rfl)) ?_
    refine lp (v := .int .i64 (n : Int)) rfl rfl (run_bin rfl (vx := .int .i64 (l.length : Int)) (vy := .int .i64 10) (by kernel_rfl) (by kernel_rfl) fun w => run_subI (z := (n : Int)) (by omega) (by omega) w) ?_
    refine lm (v := .int .i64 (n : Int)) rfl rfl ?_
    refine wpL_done (fun W2 hW2 => ?_)
    clear hW1
    refine (show Code.wp _ _ _ _ _ from ?_)
    refine wp_seq ?_
    refine wp_seq ?_
    refine wp_region_L (W0 := w) [] (hW2) ?_
    refine lm (v := .int .i64 (n : Int)) rfl rfl ?_
    refine lp (v := .bool false) rfl rfl (run_bin rfl (vx := .int .i64 (n : Int)) (vy := .int .i64 1) (by kernel_rfl) (by kernel_rfl) fun w => run_lssI (decide_eq_false (by omega)) w) ?_
    refine lm (v := .bool false) rfl rfl ?_
    refine lm (v := .int .i64 (n : Int)) rfl rfl ?_
    refine lp (v := .bool false) rfl rfl (run_bin rfl (vx := .int .i64 (n : Int)) (vy := .int .i64 5) (by kernel_rfl) (by kernel_rfl) fun w => run_gtrI (decide_eq_false (by omega)) w) ?_
    refine lm (v := .bool false) rfl rfl ?_
    refine wpL_done (fun W3 hW3 => ?_)
    clear hW2
    refine (show Code.wp _ _ _ _ _ from ?_)
    refine wp_cond_false rfl ?_
    refine wp_skip ?_
    refine (show Code.wp _ _ _ _ _ from ?_)
    refine wp_seq ?_
    refine wp_region_L (W0 := w) [] (hW3) ?_
    refine lm (v := .int .i64 0) rfl rfl ?_
    refine wpL_done (fun W4 hW4 => ?_)
    clear hW3
    refine (show Code.wp _ _ _ _ _ from ?_)
    refine wp_seq ?_
    refine wp_seq ?_
    refine wp_region_L (W0 := w) [] (hW4) ?_
    refine lm (v := .int .i64 0) rfl rfl ?_
    refine wpL_done (fun W5 hW5 => ?_)
    clear hW4
    refine (show Code.wp _ _ _ _ _ from ?_)
    refine wp_block ?_
    go_loopw [5, 6] (fun u v wr => ∃ (i p : Nat) (acc : Int), i ≤ n ∧ acc = accL (l.take i) ∧ p = 10 ^ i ∧ -(23 * ((p : Int) - 1)) ≤ acc ∧ acc ≤ 23 * ((p : Int) - 1) ∧ u = .int .i64 acc ∧ v = .int .i64 (i : Int) ∧ KS w [] wr) (fun _ v _ => (n - intOf v).toNat)
    case atStart => exact ⟨0, 1, 0, by omega, rfl, rfl, by omega, by omega, rfl, rfl, ks_none (hW5)⟩
    case round =>
      obtain ⟨i, p, acc, hi, hacc, hp, ha1, ha2, rfl, rfl, hKS⟩ := hrel
      have hpw : p ≤ 10 ^ 5 := by rw [hp]; exact Nat.pow_le_pow_right (by omega) (by omega)
      by_cases hin : i < n
      · have hb := bN_range l i
        have hpw2 : 10 * p ≤ 10 ^ 5 := by rw [hp, Nat.mul_comm, ← Nat.pow_succ]; exact Nat.pow_le_pow_right (by omega) (by omega)
        refine wp_seq ?_
        refine wp_seq ?_
        refine wp_region_L (W0 := w) [] (hKS) ?_
        refine lm (v := .int .i64 (i : Int)) rfl rfl ?_
        refine lm (v := .int .i64 (n : Int)) rfl rfl ?_
        refine lp (v := .bool true) rfl rfl (run_bin rfl (vx := .int .i64 (i : Int)) (vy := .int .i64 (n : Int)) (by kernel_rfl) (by kernel_rfl) fun w => run_lssI (decide_eq_true (by omega)) w) ?_
        refine wpL_done (fun W6 hW6 => ?_)
        refine (show Code.wp _ _ _ _ _ from ?_)
        refine wp_cond_true rfl ?_
        refine wp_skip ?_
        refine (show Code.wp _ _ _ _ _ from ?_)
        refine wp_seq ?_
        refine wp_block ?_
        refine wp_region_L (W0 := w) [] (hW6) ?_
        refine lm (v := .int .i64 acc) rfl rfl ?_
        refine lp (v := .int .i64 (10 * acc)) rfl rfl (run_bin rfl (vx := .int .i64 10) (vy := .int .i64 acc) (by kernel_rfl) (by kernel_rfl) fun w => run_mulI (z := (10 * acc)) rfl (by omega) w) ?_
        refine lm (v := strV l) rfl rfl ?_
        refine lm (v := .int .i64 (i : Int)) rfl rfl ?_
        refine lp (v := .int .u8 (bN l i)) rfl rfl (run_idxS (k := i) rfl (by kernel_rfl) (by kernel_rfl) (by omega)) ?_
        refine lp (v := .int .i64 (bN l i)) rfl rfl (run_cvB rfl (by kernel_rfl) (bN_range _ _)) ?_
        refine lp (v := .int .i64 (10 * acc + bN l i)) rfl rfl (run_bin rfl (vx := .int .i64 (10 * acc)) (vy := .int .i64 (bN l i)) (by kernel_rfl) (by kernel_rfl) fun w => run_addI (z := (10 * acc + bN l i)) rfl (by omega) w) ?_
        refine lp (v := .int .i64 (10 * acc + bN l i - 48)) rfl rfl (run_bin rfl (vx := .int .i64 (10 * acc + bN l i)) (vy := .int .i64 48) (by kernel_rfl) (by kernel_rfl) fun w => run_subI (z := (10 * acc + bN l i - 48)) rfl (by omega) w) ?_
        refine lm (v := .int .i64 (10 * acc + bN l i - 48)) rfl rfl ?_
        refine wpL_done (fun W7 hW7 => ?_)
        clear hW6
        refine (show Code.wp _ _ _ _ _ from ?_)
        refine wp_region_L (W0 := w) [] (hW7) ?_
        refine lm (v := .int .i64 (i : Int)) rfl rfl ?_
        refine lp (v := .int .i64 ((i + 1 : Nat) : Int)) rfl rfl (run_bin rfl (vx := .int .i64 (i : Int)) (vy := .int .i64 1) (by kernel_rfl) (by kernel_rfl) fun w => run_addI (z := ((i + 1 : Nat) : Int)) rfl (by omega) w) ?_
        refine lm (v := .int .i64 ((i + 1 : Nat) : Int)) rfl rfl ?_
        refine wpL_done (fun W8 hW8 => ?_)
        clear hW7
        go_roundw
        case rel =>
          repeat apply Exists.intro
          exact ⟨⟨i + 1, 10 * p, 10 * acc + bN l i - 48, by omega, by rw [acc_snoc l (by omega), ← hacc], by rw [hp, Nat.pow_succ, Nat.mul_comm], by omega, by omega, rfl, rfl, ks_none hW8⟩, rfl⟩
        case measure => (show ((n : Int) - intOf (.int .i64 ((i + 1 : Nat) : Int))).toNat < ((n : Int) - intOf (.int .i64 (i : Int))).toNat); simp only [intOf]; omega
      · obtain rfl : i = n := by omega
        by_cases hT0 : acc < 0
        · refine wp_seq ?_
          refine wp_seq ?_
          refine wp_region_L (W0 := w) [] (hKS) ?_
          refine lm (v := .int .i64 (i : Int)) rfl rfl ?_
          refine lm (v := .int .i64 (i : Int)) rfl rfl ?_
          refine lp (v := .bool false) rfl rfl (run_bin rfl (vx := .int .i64 (i : Int)) (vy := .int .i64 (i : Int)) (by kernel_rfl) (by kernel_rfl) fun w => run_lssI (decide_eq_false (by omega)) w) ?_
          refine wpL_done (fun W6 hW6 => ?_)
          refine (show Code.wp _ _ _ _ _ from ?_)
          refine wp_cond_false rfl ?_
          refine wp_exit ?_
          refine (show Code.wp _ _ _ _ _ from ?_)
          refine wp_seq ?_
          refine wp_seq ?_
          refine wp_region_L (W0 := w) [] (hW6) ?_
          refine lm (v := .int .i64 acc) rfl rfl ?_
          refine lp (v := .bool true) rfl rfl (run_bin rfl (vx := .int .i64 acc) (vy := .int .i64 0) (by kernel_rfl) (by kernel_rfl) fun w => run_lssI (decide_eq_true hT0) w) ?_
          refine lm (v := .bool true) rfl rfl ?_
          refine ln rfl ?_
          refine ln rfl ?_
          refine lm (v := .bool true) rfl rfl ?_
          refine wpL_done (fun W7 hW7 => ?_)
          clear hW6
          refine (show Code.wp _ _ _ _ _ from ?_)
          refine wp_cond_true rfl ?_
          refine wp_seq ?_
          refine wp_region_L (W0 := w) [] (hW7) ?_
          refine lm (v := .int .i64 0) rfl rfl ?_
          refine lm (v := .int .i64 20) rfl rfl ?_
          refine wpL_done (fun W8 hW8 => ?_)
          clear hW7
          refine (show Code.wp _ _ _ _ _ from ?_)
          refine wp_ret ?_
          try simp only [inBlock_ret, then_ret]
          exact bodyPost_ret (results_tmp2 rfl _ _ _) rfl ⟨.inr ⟨rfl, fun n2 h1 h2 h3 h4 => by rw [show n2 = i from by omega] at h4; omega⟩, hW8.1⟩
        · by_cases hT1 : 9920 < acc
          · refine wp_seq ?_
            refine wp_seq ?_
            refine wp_region_L (W0 := w) [] (hKS) ?_
            refine lm (v := .int .i64 (i : Int)) rfl rfl ?_
            refine lm (v := .int .i64 (i : Int)) rfl rfl ?_
            refine lp (v := .bool false) rfl rfl (run_bin rfl (vx := .int .i64 (i : Int)) (vy := .int .i64 (i : Int)) (by kernel_rfl) (by kernel_rfl) fun w => run_lssI (decide_eq_false (by omega)) w) ?_
            refine wpL_done (fun W6 hW6 => ?_)
            refine (show Code.wp _ _ _ _ _ from ?_)
            refine wp_cond_false rfl ?_
            refine wp_exit ?_
            refine (show Code.wp _ _ _ _ _ from ?_)
            refine wp_seq ?_
            refine wp_seq ?_
            refine wp_region_L (W0 := w) [] (hW6) ?_
            refine lm (v := .int .i64 acc) rfl rfl ?_
            refine lp (v := .bool false) rfl rfl (run_bin rfl (vx := .int .i64 acc) (vy := .int .i64 0) (by kernel_rfl) (by kernel_rfl) fun w => run_lssI (decide_eq_false hT0) w) ?_
            refine lm (v := .bool false) rfl rfl ?_
            refine lm (v := .int .i64 acc) rfl rfl ?_
            refine lp (v := .bool true) rfl rfl (run_bin rfl (vx := .int .i64 acc) (vy := .int .i64 9920) (by kernel_rfl) (by kernel_rfl) fun w => run_gtrI (decide_eq_true (by omega)) w) ?_
            refine lm (v := .bool true) rfl rfl ?_
            refine wpL_done (fun W7 hW7 => ?_)
            clear hW6
            refine (show Code.wp _ _ _ _ _ from ?_)
            refine wp_cond_true rfl ?_
            refine wp_seq ?_
            refine wp_region_L (W0 := w) [] (hW7) ?_
            refine lm (v := .int .i64 0) rfl rfl ?_
            refine lm (v := .int .i64 20) rfl rfl ?_
            refine wpL_done (fun W8 hW8 => ?_)
            clear hW7
            refine (show Code.wp _ _ _ _ _ from ?_)
            refine wp_ret ?_
            try simp only [inBlock_ret, then_ret]
            exact bodyPost_ret (results_tmp2 rfl _ _ _) rfl ⟨.inr ⟨rfl, fun n2 h1 h2 h3 h4 h5 => by rw [show n2 = i from by omega] at h5; omega⟩, hW8.1⟩
          · refine wp_seq ?_
            refine wp_seq ?_
            refine wp_region_L (W0 := w) [] (hKS) ?_
            refine lm (v := .int .i64 (i : Int)) rfl rfl ?_
            refine lm (v := .int .i64 (i : Int)) rfl rfl ?_
            refine lp (v := .bool false) rfl rfl (run_bin rfl (vx := .int .i64 (i : Int)) (vy := .int .i64 (i : Int)) (by kernel_rfl) (by kernel_rfl) fun w => run_lssI (decide_eq_false (by omega)) w) ?_
            refine wpL_done (fun W6 hW6 => ?_)
            refine (show Code.wp _ _ _ _ _ from ?_)
            refine wp_cond_false rfl ?_
            refine wp_exit ?_
            refine (show Code.wp _ _ _ _ _ from ?_)
            refine wp_seq ?_
            refine wp_seq ?_
            refine wp_region_L (W0 := w) [] (hW6) ?_
            refine lm (v := .int .i64 acc) rfl rfl ?_
            refine lp (v := .bool false) rfl rfl (run_bin rfl (vx := .int .i64 acc) (vy := .int .i64 0) (by kernel_rfl) (by kernel_rfl) fun w => run_lssI (decide_eq_false hT0) w) ?_
            refine lm (v := .bool false) rfl rfl ?_
            refine lm (v := .int .i64 acc) rfl rfl ?_
            refine lp (v := .bool false) rfl rfl (run_bin rfl (vx := .int .i64 acc) (vy := .int .i64 9920) (by kernel_rfl) (by kernel_rfl) fun w => run_gtrI (decide_eq_false (by omega)) w) ?_
            refine lm (v := .bool false) rfl rfl ?_
            refine wpL_done (fun W7 hW7 => ?_)
            clear hW6
            refine (show Code.wp _ _ _ _ _ from ?_)
            refine wp_cond_false rfl ?_
            refine wp_skip ?_
            refine (show Code.wp _ _ _ _ _ from ?_)
            refine wp_seq ?_
            refine wp_region_L (W0 := w) [] (hW7) ?_
            refine lm (v := .int .i64 acc) rfl rfl ?_
            refine lp (v := .int .i64 (acc * 10080)) rfl rfl (run_bin rfl (vx := .int .i64 acc) (vy := .int .i64 10080) (by kernel_rfl) (by kernel_rfl) fun w => run_mulI (z := (acc * 10080)) rfl (by omega) w) ?_
            refine lm (v := .int .i64 (acc * 10080)) rfl rfl ?_
            refine wpL_done (fun W8 hW8 => ?_)
            clear hW7
            refine (show Code.wp _ _ _ _ _ from ?_)
            refine wp_seq ?_
            refine wp_seq ?_
            refine wp_region_L (W0 := w) [] (hW8) ?_
            refine lm (v := .int .i64 0) rfl rfl ?_
            refine wpL_done (fun W9 hW9 => ?_)
            clear hW8
            refine (show Code.wp _ _ _ _ _ from ?_)
            refine wp_block ?_
            go_loopw [7] (fun u wr => ∃ d : Nat, d ≤ 7 ∧ (∀ e : Nat, e < d → ∀ x : Nat, (x : Int) = acc * 10080 + (e : Int) * 1440 + 60 * (10 * (bN l (i + 5) - 48) + bN l (i + 6) - 48) + 10 * (bN l (i + 8) - 48) + bN l (i + 9) - 48 → x ≤ 100000000 → textS x ≠ l) ∧ u = .int .i64 (d : Int) ∧ KS w [] wr) (fun u _ => (7 - intOf u).toNat)
            case atStart => exact ⟨0, by omega, (fun e he => by omega), rfl, ks_none (hW9)⟩
            case round =>
              obtain ⟨d, hd, hdn, rfl, hKS⟩ := hrel
              by_cases hd7 : d < 7
              · have hb5 := bN_range l (i + 5)
                have hb6 := bN_range l (i + 6)
                have hb8 := bN_range l (i + 8)
                have hb9 := bN_range l (i + 9)
                obtain ⟨x, hx⟩ : ∃ x : Int, acc * 10080 + (d : Int) * 1440 + 60 * (10 * (bN l (i + 5) - 48) + bN l (i + 6) - 48) + 10 * (bN l (i + 8) - 48) + bN l (i + 9) - 48 = x := ⟨_, rfl⟩
                obtain ⟨y1, hy1⟩ : ∃ y : Int, acc * 10080 + (d : Int) * 1440 = y := ⟨_, rfl⟩
                obtain ⟨y2, hy2⟩ : ∃ y : Int, 10 * ((bN l (i + 5)) - 48) = y := ⟨_, rfl⟩
                obtain ⟨y3, hy3⟩ : ∃ y : Int, 60 * (y2 + (bN l (i + 6)) - 48) = y := ⟨_, rfl⟩
                obtain ⟨y4, hy4⟩ : ∃ y : Int, 10 * ((bN l (i + 8)) - 48) = y := ⟨_, rfl⟩
                by_cases hxr : 0 ≤ x ∧ x ≤ 100000000
                · obtain ⟨xn, hxe⟩ : ∃ xn : Nat, x = (xn : Int) := ⟨x.toNat, by omega⟩
                  subst hxe
                  have hxn : xn ≤ 100000000 := by omega
                  by_cases hq : textS xn = l
                  · refine wp_seq ?_
                    refine wp_seq ?_
                    refine wp_region_L (W0 := w) [] (hKS) ?_
                    refine lm (v := .int .i64 (d : Int)) rfl rfl ?_
                    refine lp (v := .bool true) rfl rfl (run_bin rfl (vx := .int .i64 (d : Int)) (vy := .int .i64 7) (by kernel_rfl) (by kernel_rfl) fun w => run_lssI (decide_eq_true (by omega)) w) ?_
                    refine wpL_done (fun W10 hW10 => ?_)
                    refine (show Code.wp _ _ _ _ _ from ?_)
                    refine wp_cond_true rfl ?_
                    refine wp_skip ?_
                    refine (show Code.wp _ _ _ _ _ from ?_)
                    refine wp_seq ?_
                    refine wp_block ?_
                    refine wp_seq ?_
                    refine wp_region_V (W0 := w) [] (by kernel_rfl) (hW10) ?_
                    refine vm (i := 0) (v := .int .i64 (acc * 10080)) rfl rfl rfl ?_
                    refine vm (i := 1) (v := .int .i64 (d : Int)) rfl rfl rfl ?_
                    refine vp (i := 2) (v := .int .i64 ((d : Int) * 1440)) rfl rfl rfl (run_bin rfl (vx := .int .i64 (d : Int)) (vy := .int .i64 1440) (by kernel_rfl) (by kernel_rfl) fun w => run_mulI (z := ((d : Int) * 1440)) rfl (by omega) w) ?_
                    refine vp (i := 3) (v := .int .i64 y1) rfl rfl rfl (run_bin rfl (vx := .int .i64 (acc * 10080)) (vy := .int .i64 ((d : Int) * 1440)) (by kernel_rfl) (by kernel_rfl) fun w => run_addI (z := y1) hy1 (by omega) w) ?_
                    refine vm (i := 4) (v := strV l) rfl rfl rfl ?_
                    refine vm (i := 5) (v := .int .i64 (i : Int)) rfl rfl rfl ?_
                    refine vp (i := 6) (v := .int .i64 ((i + 5 : Nat) : Int)) rfl rfl rfl (run_bin rfl (vx := .int .i64 (i : Int)) (vy := .int .i64 5) (by kernel_rfl) (by kernel_rfl) fun w => run_addI (z := ((i + 5 : Nat) : Int)) (by omega) (by omega) w) ?_
                    refine vp (i := 7) (v := .int .u8 (bN l (i + 5))) rfl rfl rfl (run_idxS (k := i + 5) rfl (by kernel_rfl) (by kernel_rfl) (by omega)) ?_
                    refine vp (i := 8) (v := .int .i64 (bN l (i + 5))) rfl rfl rfl (run_cvB rfl (by kernel_rfl) (bN_range _ _)) ?_
                    refine vp (i := 9) (v := .int .i64 ((bN l (i + 5)) - 48)) rfl rfl rfl (run_bin rfl (vx := .int .i64 (bN l (i + 5))) (vy := .int .i64 48) (by kernel_rfl) (by kernel_rfl) fun w => run_subI (z := ((bN l (i + 5)) - 48)) rfl (by omega) w) ?_
                    refine vp (i := 10) (v := .int .i64 y2) rfl rfl rfl (run_bin rfl (vx := .int .i64 10) (vy := .int .i64 ((bN l (i + 5)) - 48)) (by kernel_rfl) (by kernel_rfl) fun w => run_mulI (z := y2) hy2 (by omega) w) ?_
                    refine vm (i := 11) (v := strV l) rfl rfl rfl ?_
                    refine vm (i := 12) (v := .int .i64 (i : Int)) rfl rfl rfl ?_
                    refine vp (i := 13) (v := .int .i64 ((i + 6 : Nat) : Int)) rfl rfl rfl (run_bin rfl (vx := .int .i64 (i : Int)) (vy := .int .i64 6) (by kernel_rfl) (by kernel_rfl) fun w => run_addI (z := ((i + 6 : Nat) : Int)) (by omega) (by omega) w) ?_
                    refine vp (i := 14) (v := .int .u8 (bN l (i + 6))) rfl rfl rfl (run_idxS (k := i + 6) rfl (by kernel_rfl) (by kernel_rfl) (by omega)) ?_
                    refine vp (i := 15) (v := .int .i64 (bN l (i + 6))) rfl rfl rfl (run_cvB rfl (by kernel_rfl) (bN_range _ _)) ?_
                    refine vp (i := 16) (v := .int .i64 (y2 + (bN l (i + 6)))) rfl rfl rfl (run_bin rfl (vx := .int .i64 y2) (vy := .int .i64 (bN l (i + 6))) (by kernel_rfl) (by kernel_rfl) fun w => run_addI (z := (y2 + (bN l (i + 6)))) rfl (by omega) w) ?_
                    refine vp (i := 17) (v := .int .i64 (y2 + (bN l (i + 6)) - 48)) rfl rfl rfl (run_bin rfl (vx := .int .i64 (y2 + (bN l (i + 6)))) (vy := .int .i64 48) (by kernel_rfl) (by kernel_rfl) fun w => run_subI (z := (y2 + (bN l (i + 6)) - 48)) rfl (by omega) w) ?_
                    refine vp (i := 18) (v := .int .i64 y3) rfl rfl rfl (run_bin rfl (vx := .int .i64 60) (vy := .int .i64 (y2 + (bN l (i + 6)) - 48)) (by kernel_rfl) (by kernel_rfl) fun w => run_mulI (z := y3) hy3 (by omega) w) ?_
                    refine vp (i := 19) (v := .int .i64 (y1 + y3)) rfl rfl rfl (run_bin rfl (vx := .int .i64 y1) (vy := .int .i64 y3) (by kernel_rfl) (by kernel_rfl) fun w => run_addI (z := (y1 + y3)) rfl (by omega) w) ?_
                    refine vm (i := 20) (v := strV l) rfl rfl rfl ?_
                    refine vm (i := 21) (v := .int .i64 (i : Int)) rfl rfl rfl ?_
                    refine vp (i := 22) (v := .int .i64 ((i + 8 : Nat) : Int)) rfl rfl rfl (run_bin rfl (vx := .int .i64 (i : Int)) (vy := .int .i64 8) (by kernel_rfl) (by kernel_rfl) fun w => run_addI (z := ((i + 8 : Nat) : Int)) (by omega) (by omega) w) ?_
                    refine vp (i := 23) (v := .int .u8 (bN l (i + 8))) rfl rfl rfl (run_idxS (k := i + 8) rfl (by kernel_rfl) (by kernel_rfl) (by omega)) ?_
                    refine vp (i := 24) (v := .int .i64 (bN l (i + 8))) rfl rfl rfl (run_cvB rfl (by kernel_rfl) (bN_range _ _)) ?_
                    refine vp (i := 25) (v := .int .i64 ((bN l (i + 8)) - 48)) rfl rfl rfl (run_bin rfl (vx := .int .i64 (bN l (i + 8))) (vy := .int .i64 48) (by kernel_rfl) (by kernel_rfl) fun w => run_subI (z := ((bN l (i + 8)) - 48)) rfl (by omega) w) ?_
                    refine vp (i := 26) (v := .int .i64 y4) rfl rfl rfl (run_bin rfl (vx := .int .i64 10) (vy := .int .i64 ((bN l (i + 8)) - 48)) (by kernel_rfl) (by kernel_rfl) fun w => run_mulI (z := y4) hy4 (by omega) w) ?_
                    refine vp (i := 27) (v := .int .i64 (y1 + y3 + y4)) rfl rfl rfl (run_bin rfl (vx := .int .i64 (y1 + y3)) (vy := .int .i64 y4) (by kernel_rfl) (by kernel_rfl) fun w => run_addI (z := (y1 + y3 + y4)) rfl (by omega) w) ?_
                    refine vm (i := 28) (v := strV l) rfl rfl rfl ?_
                    refine vm (i := 29) (v := .int .i64 (i : Int)) rfl rfl rfl ?_
                    refine vp (i := 30) (v := .int .i64 ((i + 9 : Nat) : Int)) rfl rfl rfl (run_bin rfl (vx := .int .i64 (i : Int)) (vy := .int .i64 9) (by kernel_rfl) (by kernel_rfl) fun w => run_addI (z := ((i + 9 : Nat) : Int)) (by omega) (by omega) w) ?_
                    refine vp (i := 31) (v := .int .u8 (bN l (i + 9))) rfl rfl rfl (run_idxS (k := i + 9) rfl (by kernel_rfl) (by kernel_rfl) (by omega)) ?_
                    refine vp (i := 32) (v := .int .i64 (bN l (i + 9))) rfl rfl rfl (run_cvB rfl (by kernel_rfl) (bN_range _ _)) ?_
                    refine vp (i := 33) (v := .int .i64 (y1 + y3 + y4 + (bN l (i + 9)))) rfl rfl rfl (run_bin rfl (vx := .int .i64 (y1 + y3 + y4)) (vy := .int .i64 (bN l (i + 9))) (by kernel_rfl) (by kernel_rfl) fun w => run_addI (z := (y1 + y3 + y4 + (bN l (i + 9)))) rfl (by omega) w) ?_
                    refine vp (i := 34) (v := .int .i64 (xn : Int)) rfl rfl rfl (run_bin rfl (vx := .int .i64 (y1 + y3 + y4 + (bN l (i + 9)))) (vy := .int .i64 48) (by kernel_rfl) (by kernel_rfl) fun w => run_subI (z := (xn : Int)) (by omega) (by omega) w) ?_
                    refine vm (i := 35) (v := .int .i64 (xn : Int)) rfl rfl rfl ?_
                    refine wpV_done (by kernel_rfl) (fun W11 hW11 => ?_) _
                    clear hW10
                    refine (show Code.wp _ _ _ _ _ from ?_)
                    refine wp_seq ?_
                    refine wp_region_L (W0 := w) [] (hW11) ?_
                    refine lm (v := .int .i64 (xn : Int)) rfl rfl ?_
                    refine lv (v := .tuple #[strV (textS xn), .int .i64 0]) rfl rfl (yb_call (f := 55) (args := #[.int .i64 (xn : Int)]) (fun _ => by kernel_rfl) fun W hW => RText_ok xn hxn W) ?_
                    refine lm (v := .tuple #[strV (textS xn), .int .i64 0]) rfl rfl ?_
                    refine lm (v := strV (textS xn)) rfl rfl ?_
                    refine lm (v := .int .i64 0) rfl rfl ?_
                    refine lm (v := strV (textS xn)) rfl rfl ?_
                    refine lm (v := .int .i64 0) rfl rfl ?_
                    refine wpL_done (fun W12 hW12 => ?_)
                    clear hW11
                    refine (show Code.wp _ _ _ _ _ from ?_)
                    refine wp_seq ?_
                    refine wp_region_L (W0 := w) [] (hW12) ?_
                    refine lm (v := .int .i64 0) rfl rfl ?_
                    refine lm (v := .bool true) rfl rfl ?_
                    refine lm (v := .bool true) rfl rfl ?_
                    refine lm (v := strV (textS xn)) rfl rfl ?_
                    refine lm (v := strV l) rfl rfl ?_
                    refine lp (v := .bool true) rfl rfl (run_bin rfl (vx := strV (textS xn)) (vy := strV l) (by kernel_rfl) (by kernel_rfl) fun w => run_eqS (beq_iff_eq.2 hq) w) ?_
                    refine lm (v := .bool true) rfl rfl ?_
                    refine wpL_done (fun W13 hW13 => ?_)
                    clear hW12
                    refine (show Code.wp _ _ _ _ _ from ?_)
                    refine wp_cond_true rfl ?_
                    refine wp_seq ?_
                    refine wp_region_L (W0 := w) [] (hW13) ?_
                    refine lm (v := .int .i64 (xn : Int)) rfl rfl ?_
                    refine lm (v := .int .i64 (xn : Int)) rfl rfl ?_
                    refine lm (v := .int .i64 0) rfl rfl ?_
                    refine wpL_done (fun W14 hW14 => ?_)
                    clear hW13
                    refine (show Code.wp _ _ _ _ _ from ?_)
                    refine wp_ret ?_
                    try simp only [inBlock_ret, then_ret]
                    exact bodyPost_ret (results_tmp2 rfl _ _ _) rfl ⟨.inl ⟨xn, hxn, hq, rfl⟩, hW14.1⟩
                  · refine wp_seq ?_
                    refine wp_seq ?_
                    refine wp_region_L (W0 := w) [] (hKS) ?_
                    refine lm (v := .int .i64 (d : Int)) rfl rfl ?_
                    refine lp (v := .bool true) rfl rfl (run_bin rfl (vx := .int .i64 (d : Int)) (vy := .int .i64 7) (by kernel_rfl) (by kernel_rfl) fun w => run_lssI (decide_eq_true (by omega)) w) ?_
                    refine wpL_done (fun W10 hW10 => ?_)
                    refine (show Code.wp _ _ _ _ _ from ?_)
                    refine wp_cond_true rfl ?_
                    refine wp_skip ?_
                    refine (show Code.wp _ _ _ _ _ from ?_)
                    refine wp_seq ?_
                    refine wp_block ?_
                    refine wp_seq ?_
                    refine wp_region_V (W0 := w) [] (by kernel_rfl) (hW10) ?_
                    refine vm (i := 0) (v := .int .i64 (acc * 10080)) rfl rfl rfl ?_
                    refine vm (i := 1) (v := .int .i64 (d : Int)) rfl rfl rfl ?_
                    refine vp (i := 2) (v := .int .i64 ((d : Int) * 1440)) rfl rfl rfl (run_bin rfl (vx := .int .i64 (d : Int)) (vy := .int .i64 1440) (by kernel_rfl) (by kernel_rfl) fun w => run_mulI (z := ((d : Int) * 1440)) rfl (by omega) w) ?_
                    refine vp (i := 3) (v := .int .i64 y1) rfl rfl rfl (run_bin rfl (vx := .int .i64 (acc * 10080)) (vy := .int .i64 ((d : Int) * 1440)) (by kernel_rfl) (by kernel_rfl) fun w => run_addI (z := y1) hy1 (by omega) w) ?_
                    refine vm (i := 4) (v := strV l) rfl rfl rfl ?_
                    refine vm (i := 5) (v := .int .i64 (i : Int)) rfl rfl rfl ?_
                    refine vp (i := 6) (v := .int .i64 ((i + 5 : Nat) : Int)) rfl rfl rfl (run_bin rfl (vx := .int .i64 (i : Int)) (vy := .int .i64 5) (by kernel_rfl) (by kernel_rfl) fun w => run_addI (z := ((i + 5 : Nat) : Int)) (by omega) (by omega) w) ?_
                    refine vp (i := 7) (v := .int .u8 (bN l (i + 5))) rfl rfl rfl (run_idxS (k := i + 5) rfl (by kernel_rfl) (by kernel_rfl) (by omega)) ?_
                    refine vp (i := 8) (v := .int .i64 (bN l (i + 5))) rfl rfl rfl (run_cvB rfl (by kernel_rfl) (bN_range _ _)) ?_
                    refine vp (i := 9) (v := .int .i64 ((bN l (i + 5)) - 48)) rfl rfl rfl (run_bin rfl (vx := .int .i64 (bN l (i + 5))) (vy := .int .i64 48) (by kernel_rfl) (by kernel_rfl) fun w => run_subI (z := ((bN l (i + 5)) - 48)) rfl (by omega) w) ?_
                    refine vp (i := 10) (v := .int .i64 y2) rfl rfl rfl (run_bin rfl (vx := .int .i64 10) (vy := .int .i64 ((bN l (i + 5)) - 48)) (by kernel_rfl) (by kernel_rfl) fun w => run_mulI (z := y2) hy2 (by omega) w) ?_
                    refine vm (i := 11) (v := strV l) rfl rfl rfl ?_
                    refine vm (i := 12) (v := .int .i64 (i : Int)) rfl rfl rfl ?_
                    refine vp (i := 13) (v := .int .i64 ((i + 6 : Nat) : Int)) rfl rfl rfl (run_bin rfl (vx := .int .i64 (i : Int)) (vy := .int .i64 6) (by kernel_rfl) (by kernel_rfl) fun w => run_addI (z := ((i + 6 : Nat) : Int)) (by omega) (by omega) w) ?_
                    refine vp (i := 14) (v := .int .u8 (bN l (i + 6))) rfl rfl rfl (run_idxS (k := i + 6) rfl (by kernel_rfl) (by kernel_rfl) (by omega)) ?_
                    refine vp (i := 15) (v := .int .i64 (bN l (i + 6))) rfl rfl rfl (run_cvB rfl (by kernel_rfl) (bN_range _ _)) ?_
                    refine vp (i := 16) (v := .int .i64 (y2 + (bN l (i + 6)))) rfl rfl rfl (run_bin rfl (vx := .int .i64 y2) (vy := .int .i64 (bN l (i + 6))) (by kernel_rfl) (by kernel_rfl) fun w => run_addI (z := (y2 + (bN l (i + 6)))) rfl (by omega) w) ?_
                    refine vp (i := 17) (v := .int .i64 (y2 + (bN l (i + 6)) - 48)) rfl rfl rfl (run_bin rfl (vx := .int .i64 (y2 + (bN l (i + 6)))) (vy := .int .i64 48) (by kernel_rfl) (by kernel_rfl) fun w => run_subI (z := (y2 + (bN l (i + 6)) - 48)) rfl (by omega) w) ?_
                    refine vp (i := 18) (v := .int .i64 y3) rfl rfl rfl (run_bin rfl (vx := .int .i64 60) (vy := .int .i64 (y2 + (bN l (i + 6)) - 48)) (by kernel_rfl) (by kernel_rfl) fun w => run_mulI (z := y3) hy3 (by omega) w) ?_
                    refine vp (i := 19) (v := .int .i64 (y1 + y3)) rfl rfl rfl (run_bin rfl (vx := .int .i64 y1) (vy := .int .i64 y3) (by kernel_rfl) (by kernel_rfl) fun w => run_addI (z := (y1 + y3)) rfl (by omega) w) ?_
                    refine vm (i := 20) (v := strV l) rfl rfl rfl ?_
                    refine vm (i := 21) (v := .int .i64 (i : Int)) rfl rfl rfl ?_
                    refine vp (i := 22) (v := .int .i64 ((i + 8 : Nat) : Int)) rfl rfl rfl (run_bin rfl (vx := .int .i64 (i : Int)) (vy := .int .i64 8) (by kernel_rfl) (by kernel_rfl) fun w => run_addI (z := ((i + 8 : Nat) : Int)) (by omega) (by omega) w) ?_
                    refine vp (i := 23) (v := .int .u8 (bN l (i + 8))) rfl rfl rfl (run_idxS (k := i + 8) rfl (by kernel_rfl) (by kernel_rfl) (by omega)) ?_
                    refine vp (i := 24) (v := .int .i64 (bN l (i + 8))) rfl rfl rfl (run_cvB rfl (by kernel_rfl) (bN_range _ _)) ?_
                    refine vp (i := 25) (v := .int .i64 ((bN l (i + 8)) - 48)) rfl rfl rfl (run_bin rfl (vx := .int .i64 (bN l (i + 8))) (vy := .int .i64 48) (by kernel_rfl) (by kernel_rfl) fun w => run_subI (z := ((bN l (i + 8)) - 48)) rfl (by omega) w) ?_
                    refine vp (i := 26) (v := .int .i64 y4) rfl rfl rfl (run_bin rfl (vx := .int .i64 10) (vy := .int .i64 ((bN l (i + 8)) - 48)) (by kernel_rfl) (by kernel_rfl) fun w => run_mulI (z := y4) hy4 (by omega) w) ?_
                    refine vp (i := 27) (v := .int .i64 (y1 + y3 + y4)) rfl rfl rfl (run_bin rfl (vx := .int .i64 (y1 + y3)) (vy := .int .i64 y4) (by kernel_rfl) (by kernel_rfl) fun w => run_addI (z := (y1 + y3 + y4)) rfl (by omega) w) ?_
                    refine vm (i := 28) (v := strV l) rfl rfl rfl ?_
                    refine vm (i := 29) (v := .int .i64 (i : Int)) rfl rfl rfl ?_
                    refine vp (i := 30) (v := .int .i64 ((i + 9 : Nat) : Int)) rfl rfl rfl (run_bin rfl (vx := .int .i64 (i : Int)) (vy := .int .i64 9) (by kernel_rfl) (by kernel_rfl) fun w => run_addI (z := ((i + 9 : Nat) : Int)) (by omega) (by omega) w) ?_
                    refine vp (i := 31) (v := .int .u8 (bN l (i + 9))) rfl rfl rfl (run_idxS (k := i + 9) rfl (by kernel_rfl) (by kernel_rfl) (by omega)) ?_
                    refine vp (i := 32) (v := .int .i64 (bN l (i + 9))) rfl rfl rfl (run_cvB rfl (by kernel_rfl) (bN_range _ _)) ?_
                    refine vp (i := 33) (v := .int .i64 (y1 + y3 + y4 + (bN l (i + 9)))) rfl rfl rfl (run_bin rfl (vx := .int .i64 (y1 + y3 + y4)) (vy := .int .i64 (bN l (i + 9))) (by kernel_rfl) (by kernel_rfl) fun w => run_addI (z := (y1 + y3 + y4 + (bN l (i + 9)))) rfl (by omega) w) ?_
                    refine vp (i := 34) (v := .int .i64 (xn : Int)) rfl rfl rfl (run_bin rfl (vx := .int .i64 (y1 + y3 + y4 + (bN l (i + 9)))) (vy := .int .i64 48) (by kernel_rfl) (by kernel_rfl) fun w => run_subI (z := (xn : Int)) (by omega) (by omega) w) ?_
                    refine vm (i := 35) (v := .int .i64 (xn : Int)) rfl rfl rfl ?_
                    refine wpV_done (by kernel_rfl) (fun W11 hW11 => ?_) _
                    clear hW10
                    refine (show Code.wp _ _ _ _ _ from ?_)
                    refine wp_seq ?_
                    refine wp_region_L (W0 := w) [] (hW11) ?_
                    refine lm (v := .int .i64 (xn : Int)) rfl rfl ?_
                    refine lv (v := .tuple #[strV (textS xn), .int .i64 0]) rfl rfl (yb_call (f := 55) (args := #[.int .i64 (xn : Int)]) (fun _ => by kernel_rfl) fun W hW => RText_ok xn hxn W) ?_
                    refine lm (v := .tuple #[strV (textS xn), .int .i64 0]) rfl rfl ?_
                    refine lm (v := strV (textS xn)) rfl rfl ?_
                    refine lm (v := .int .i64 0) rfl rfl ?_
                    refine lm (v := strV (textS xn)) rfl rfl ?_
                    refine lm (v := .int .i64 0) rfl rfl ?_
                    refine wpL_done (fun W12 hW12 => ?_)
                    clear hW11
                    refine (show Code.wp _ _ _ _ _ from ?_)
                    refine wp_seq ?_
                    refine wp_region_L (W0 := w) [] (hW12) ?_
                    refine lm (v := .int .i64 0) rfl rfl ?_
                    refine lm (v := .bool true) rfl rfl ?_
                    refine lm (v := .bool true) rfl rfl ?_
                    refine lm (v := strV (textS xn)) rfl rfl ?_
                    refine lm (v := strV l) rfl rfl ?_
                    refine lp (v := .bool false) rfl rfl (run_bin rfl (vx := strV (textS xn)) (vy := strV l) (by kernel_rfl) (by kernel_rfl) fun w => run_eqS (beq_eq_false_iff_ne.2 hq) w) ?_
                    refine lm (v := .bool false) rfl rfl ?_
                    refine wpL_done (fun W13 hW13 => ?_)
                    clear hW12
                    refine (show Code.wp _ _ _ _ _ from ?_)
                    refine wp_cond_false rfl ?_
                    refine wp_skip ?_
                    refine (show Code.wp _ _ _ _ _ from ?_)
                    refine wp_region_L (W0 := w) [] (hW13) ?_
                    refine lm (v := .int .i64 (d : Int)) rfl rfl ?_
                    refine lp (v := .int .i64 ((d + 1 : Nat) : Int)) rfl rfl (run_bin rfl (vx := .int .i64 (d : Int)) (vy := .int .i64 1) (by kernel_rfl) (by kernel_rfl) fun w => run_addI (z := ((d + 1 : Nat) : Int)) rfl (by omega) w) ?_
                    refine lm (v := .int .i64 ((d + 1 : Nat) : Int)) rfl rfl ?_
                    refine wpL_done (fun W14 hW14 => ?_)
                    clear hW13
                    go_roundw
                    case rel =>
                      repeat apply Exists.intro
                      exact ⟨⟨d + 1, by omega, (fun e he x2 hx2 hle => by rcases Nat.lt_or_ge e d with h | h; exact hdn e h x2 hx2 hle; rw [show e = d from by omega] at hx2; rw [show x2 = xn from by omega]; exact hq), rfl, ks_none hW14⟩, rfl⟩
                    case measure => (show (7 - intOf (.int .i64 ((d + 1 : Nat) : Int))).toNat < (7 - intOf (.int .i64 (d : Int))).toNat); simp only [intOf]; omega
                · have hxf : isT x = false := by simp [isT]; omega
                  refine wp_seq ?_
                  refine wp_seq ?_
                  refine wp_region_L (W0 := w) [] (hKS) ?_
                  refine lm (v := .int .i64 (d : Int)) rfl rfl ?_
                  refine lp (v := .bool true) rfl rfl (run_bin rfl (vx := .int .i64 (d : Int)) (vy := .int .i64 7) (by kernel_rfl) (by kernel_rfl) fun w => run_lssI (decide_eq_true (by omega)) w) ?_
                  refine wpL_done (fun W10 hW10 => ?_)
                  refine (show Code.wp _ _ _ _ _ from ?_)
                  refine wp_cond_true rfl ?_
                  refine wp_skip ?_
                  refine (show Code.wp _ _ _ _ _ from ?_)
                  refine wp_seq ?_
                  refine wp_block ?_
                  refine wp_seq ?_
                  refine wp_region_V (W0 := w) [] (by kernel_rfl) (hW10) ?_
                  refine vm (i := 0) (v := .int .i64 (acc * 10080)) rfl rfl rfl ?_
                  refine vm (i := 1) (v := .int .i64 (d : Int)) rfl rfl rfl ?_
                  refine vp (i := 2) (v := .int .i64 ((d : Int) * 1440)) rfl rfl rfl (run_bin rfl (vx := .int .i64 (d : Int)) (vy := .int .i64 1440) (by kernel_rfl) (by kernel_rfl) fun w => run_mulI (z := ((d : Int) * 1440)) rfl (by omega) w) ?_
                  refine vp (i := 3) (v := .int .i64 y1) rfl rfl rfl (run_bin rfl (vx := .int .i64 (acc * 10080)) (vy := .int .i64 ((d : Int) * 1440)) (by kernel_rfl) (by kernel_rfl) fun w => run_addI (z := y1) hy1 (by omega) w) ?_
                  refine vm (i := 4) (v := strV l) rfl rfl rfl ?_
                  refine vm (i := 5) (v := .int .i64 (i : Int)) rfl rfl rfl ?_
                  refine vp (i := 6) (v := .int .i64 ((i + 5 : Nat) : Int)) rfl rfl rfl (run_bin rfl (vx := .int .i64 (i : Int)) (vy := .int .i64 5) (by kernel_rfl) (by kernel_rfl) fun w => run_addI (z := ((i + 5 : Nat) : Int)) (by omega) (by omega) w) ?_
                  refine vp (i := 7) (v := .int .u8 (bN l (i + 5))) rfl rfl rfl (run_idxS (k := i + 5) rfl (by kernel_rfl) (by kernel_rfl) (by omega)) ?_
                  refine vp (i := 8) (v := .int .i64 (bN l (i + 5))) rfl rfl rfl (run_cvB rfl (by kernel_rfl) (bN_range _ _)) ?_
                  refine vp (i := 9) (v := .int .i64 ((bN l (i + 5)) - 48)) rfl rfl rfl (run_bin rfl (vx := .int .i64 (bN l (i + 5))) (vy := .int .i64 48) (by kernel_rfl) (by kernel_rfl) fun w => run_subI (z := ((bN l (i + 5)) - 48)) rfl (by omega) w) ?_
                  refine vp (i := 10) (v := .int .i64 y2) rfl rfl rfl (run_bin rfl (vx := .int .i64 10) (vy := .int .i64 ((bN l (i + 5)) - 48)) (by kernel_rfl) (by kernel_rfl) fun w => run_mulI (z := y2) hy2 (by omega) w) ?_
                  refine vm (i := 11) (v := strV l) rfl rfl rfl ?_
                  refine vm (i := 12) (v := .int .i64 (i : Int)) rfl rfl rfl ?_
                  refine vp (i := 13) (v := .int .i64 ((i + 6 : Nat) : Int)) rfl rfl rfl (run_bin rfl (vx := .int .i64 (i : Int)) (vy := .int .i64 6) (by kernel_rfl) (by kernel_rfl) fun w => run_addI (z := ((i + 6 : Nat) : Int)) (by omega) (by omega) w) ?_
                  refine vp (i := 14) (v := .int .u8 (bN l (i + 6))) rfl rfl rfl (run_idxS (k := i + 6) rfl (by kernel_rfl) (by kernel_rfl) (by omega)) ?_
                  refine vp (i := 15) (v := .int .i64 (bN l (i + 6))) rfl rfl rfl (run_cvB rfl (by kernel_rfl) (bN_range _ _)) ?_
                  refine vp (i := 16) (v := .int .i64 (y2 + (bN l (i + 6)))) rfl rfl rfl (run_bin rfl (vx := .int .i64 y2) (vy := .int .i64 (bN l (i + 6))) (by kernel_rfl) (by kernel_rfl) fun w => run_addI (z := (y2 + (bN l (i + 6)))) rfl (by omega) w) ?_
                  refine vp (i := 17) (v := .int .i64 (y2 + (bN l (i + 6)) - 48)) rfl rfl rfl (run_bin rfl (vx := .int .i64 (y2 + (bN l (i + 6)))) (vy := .int .i64 48) (by kernel_rfl) (by kernel_rfl) fun w => run_subI (z := (y2 + (bN l (i + 6)) - 48)) rfl (by omega) w) ?_
                  refine vp (i := 18) (v := .int .i64 y3) rfl rfl rfl (run_bin rfl (vx := .int .i64 60) (vy := .int .i64 (y2 + (bN l (i + 6)) - 48)) (by kernel_rfl) (by kernel_rfl) fun w => run_mulI (z := y3) hy3 (by omega) w) ?_
                  refine vp (i := 19) (v := .int .i64 (y1 + y3)) rfl rfl rfl (run_bin rfl (vx := .int .i64 y1) (vy := .int .i64 y3) (by kernel_rfl) (by kernel_rfl) fun w => run_addI (z := (y1 + y3)) rfl (by omega) w) ?_
                  refine vm (i := 20) (v := strV l) rfl rfl rfl ?_
                  refine vm (i := 21) (v := .int .i64 (i : Int)) rfl rfl rfl ?_
                  refine vp (i := 22) (v := .int .i64 ((i + 8 : Nat) : Int)) rfl rfl rfl (run_bin rfl (vx := .int .i64 (i : Int)) (vy := .int .i64 8) (by kernel_rfl) (by kernel_rfl) fun w => run_addI (z := ((i + 8 : Nat) : Int)) (by omega) (by omega) w) ?_
                  refine vp (i := 23) (v := .int .u8 (bN l (i + 8))) rfl rfl rfl (run_idxS (k := i + 8) rfl (by kernel_rfl) (by kernel_rfl) (by omega)) ?_
                  refine vp (i := 24) (v := .int .i64 (bN l (i + 8))) rfl rfl rfl (run_cvB rfl (by kernel_rfl) (bN_range _ _)) ?_
                  refine vp (i := 25) (v := .int .i64 ((bN l (i + 8)) - 48)) rfl rfl rfl (run_bin rfl (vx := .int .i64 (bN l (i + 8))) (vy := .int .i64 48) (by kernel_rfl) (by kernel_rfl) fun w => run_subI (z := ((bN l (i + 8)) - 48)) rfl (by omega) w) ?_
                  refine vp (i := 26) (v := .int .i64 y4) rfl rfl rfl (run_bin rfl (vx := .int .i64 10) (vy := .int .i64 ((bN l (i + 8)) - 48)) (by kernel_rfl) (by kernel_rfl) fun w => run_mulI (z := y4) hy4 (by omega) w) ?_
                  refine vp (i := 27) (v := .int .i64 (y1 + y3 + y4)) rfl rfl rfl (run_bin rfl (vx := .int .i64 (y1 + y3)) (vy := .int .i64 y4) (by kernel_rfl) (by kernel_rfl) fun w => run_addI (z := (y1 + y3 + y4)) rfl (by omega) w) ?_
                  refine vm (i := 28) (v := strV l) rfl rfl rfl ?_
                  refine vm (i := 29) (v := .int .i64 (i : Int)) rfl rfl rfl ?_
                  refine vp (i := 30) (v := .int .i64 ((i + 9 : Nat) : Int)) rfl rfl rfl (run_bin rfl (vx := .int .i64 (i : Int)) (vy := .int .i64 9) (by kernel_rfl) (by kernel_rfl) fun w => run_addI (z := ((i + 9 : Nat) : Int)) (by omega) (by omega) w) ?_
                  refine vp (i := 31) (v := .int .u8 (bN l (i + 9))) rfl rfl rfl (run_idxS (k := i + 9) rfl (by kernel_rfl) (by kernel_rfl) (by omega)) ?_
                  refine vp (i := 32) (v := .int .i64 (bN l (i + 9))) rfl rfl rfl (run_cvB rfl (by kernel_rfl) (bN_range _ _)) ?_
                  refine vp (i := 33) (v := .int .i64 (y1 + y3 + y4 + (bN l (i + 9)))) rfl rfl rfl (run_bin rfl (vx := .int .i64 (y1 + y3 + y4)) (vy := .int .i64 (bN l (i + 9))) (by kernel_rfl) (by kernel_rfl) fun w => run_addI (z := (y1 + y3 + y4 + (bN l (i + 9)))) rfl (by omega) w) ?_
                  refine vp (i := 34) (v := .int .i64 x) rfl rfl rfl (run_bin rfl (vx := .int .i64 (y1 + y3 + y4 + (bN l (i + 9)))) (vy := .int .i64 48) (by kernel_rfl) (by kernel_rfl) fun w => run_subI (z := x) (by omega) (by omega) w) ?_
                  refine vm (i := 35) (v := .int .i64 x) rfl rfl rfl ?_
                  refine wpV_done (by kernel_rfl) (fun W11 hW11 => ?_) _
                  clear hW10
                  refine (show Code.wp _ _ _ _ _ from ?_)
                  refine wp_seq ?_
                  refine wp_region_L (W0 := w) [] (hW11) ?_
                  refine lm (v := .int .i64 x) rfl rfl ?_
                  refine lv (v := .tuple #[strV [], .int .i64 2]) rfl rfl (yb_call (f := 55) (args := #[.int .i64 x]) (fun _ => by kernel_rfl) fun W hW => RText_err x hxf W) ?_
                  refine lm (v := .tuple #[strV [], .int .i64 2]) rfl rfl ?_
                  refine lm (v := strV []) rfl rfl ?_
                  refine lm (v := .int .i64 2) rfl rfl ?_
                  refine lm (v := strV []) rfl rfl ?_
                  refine lm (v := .int .i64 2) rfl rfl ?_
                  refine wpL_done (fun W12 hW12 => ?_)
                  clear hW11
                  refine (show Code.wp _ _ _ _ _ from ?_)
                  refine wp_seq ?_
                  refine wp_region_L (W0 := w) [] (hW12) ?_
                  refine lm (v := .int .i64 2) rfl rfl ?_
                  refine lm (v := .bool false) rfl rfl ?_
                  refine lm (v := .bool false) rfl rfl ?_
                  refine ln rfl ?_
                  refine ln rfl ?_
                  refine ln rfl ?_
                  refine lm (v := .bool false) rfl rfl ?_
                  refine wpL_done (fun W13 hW13 => ?_)
                  clear hW12
                  refine (show Code.wp _ _ _ _ _ from ?_)
                  refine wp_cond_false rfl ?_
                  refine wp_skip ?_
                  refine (show Code.wp _ _ _ _ _ from ?_)
                  refine wp_region_L (W0 := w) [] (hW13) ?_
                  refine lm (v := .int .i64 (d : Int)) rfl rfl ?_
                  refine lp (v := .int .i64 ((d + 1 : Nat) : Int)) rfl rfl (run_bin rfl (vx := .int .i64 (d : Int)) (vy := .int .i64 1) (by kernel_rfl) (by kernel_rfl) fun w => run_addI (z := ((d + 1 : Nat) : Int)) rfl (by omega) w) ?_
                  refine lm (v := .int .i64 ((d + 1 : Nat) : Int)) rfl rfl ?_
                  refine wpL_done (fun W14 hW14 => ?_)
                  clear hW13
                  go_roundw
                  case rel =>
                    repeat apply Exists.intro
                    exact ⟨⟨d + 1, by omega, (fun e he x2 hx2 hle => by rcases Nat.lt_or_ge e d with h | h; exact hdn e h x2 hx2 hle; rw [show e = d from by omega] at hx2; omega), rfl, ks_none hW14⟩, rfl⟩
                  case measure => (show (7 - intOf (.int .i64 ((d + 1 : Nat) : Int))).toNat < (7 - intOf (.int .i64 (d : Int))).toNat); simp only [intOf]; omega
              · refine wp_seq ?_
                refine wp_seq ?_
                refine wp_region_L (W0 := w) [] (hKS) ?_
                refine lm (v := .int .i64 (d : Int)) rfl rfl ?_
                refine lp (v := .bool false) rfl rfl (run_bin rfl (vx := .int .i64 (d : Int)) (vy := .int .i64 7) (by kernel_rfl) (by kernel_rfl) fun w => run_lssI (decide_eq_false (by omega)) w) ?_
                refine wpL_done (fun W10 hW10 => ?_)
                refine (show Code.wp _ _ _ _ _ from ?_)
                refine wp_cond_false rfl ?_
                refine wp_exit ?_
                refine (show Code.wp _ _ _ _ _ from ?_)
                refine wp_seq ?_
                refine wp_region_L (W0 := w) [] (hW10) ?_
                refine lm (v := .int .i64 0) rfl rfl ?_
                refine lm (v := .int .i64 20) rfl rfl ?_
                refine wpL_done (fun W11 hW11 => ?_)
                clear hW10
                refine (show Code.wp _ _ _ _ _ from ?_)
                refine wp_ret ?_
                try simp only [inBlock_ret, then_ret]
                exact bodyPost_ret (results_tmp2 rfl _ _ _) rfl ⟨.inr ⟨rfl, fun n2 h1 h2 h3 h4 h5 e he x hx => by rw [show n2 = i from by omega, ← hacc] at hx; exact hdn e (by omega) x hx⟩, hW11.1⟩
  · by_cases hs : l.length ≤ 10
    · go_enter Tryd.func56, Tryd.ntmps56
      refine wp_seq ?_
      refine wp_region_L (W0 := w) [] (KS.start w) ?_
      refine lm (v := .int .i64 0) rfl rfl ?_
      refine lm (v := .int .i64 0) rfl rfl ?_
      refine wpL_done (fun W1 hW1 => ?_)
      refine (show Code.wp _ _ _ _ _ from ?_)
      refine wp_seq ?_
      refine wp_region_L (W0 := w) [] (hW1) ?_
      refine lm (v := strV l) rfl rfl ?_
      refine lp (v := .int .i64 (l.length : Int)) rfl rfl ((fun _ => by rw [← ba_size l]; kernel_rfl)) ?_
      refine lp (v := .int .i64 ((l.length : Int) - 10)) rfl rfl (run_bin rfl (vx := .int .i64 (l.length : Int)) (vy := .int .i64 10) (by kernel_rfl) (by kernel_rfl) fun w => run_subI (z := ((l.length : Int) - 10)) rfl (by omega) w) ?_
      refine lm (v := .int .i64 ((l.length : Int) - 10)) rfl rfl ?_
      refine wpL_done (fun W2 hW2 => ?_)
      clear hW1
      refine (show Code.wp _ _ _ _ _ from ?_)
      refine wp_seq ?_
      refine wp_seq ?_
      refine wp_region_L (W0 := w) [] (hW2) ?_
      refine lm (v := .int .i64 ((l.length : Int) - 10)) rfl rfl ?_
      refine lp (v := .bool true) rfl rfl (run_bin rfl (vx := .int .i64 ((l.length : Int) - 10)) (vy := .int .i64 1) (by kernel_rfl) (by kernel_rfl) fun w => run_lssI (decide_eq_true (by omega)) w) ?_
      refine lm (v := .bool true) rfl rfl ?_
      refine ln rfl ?_
      refine ln rfl ?_
      refine lm (v := .bool true) rfl rfl ?_
      refine wpL_done (fun W3 hW3 => ?_)
      clear hW2
      refine (show Code.wp _ _ _ _ _ from ?_)
      refine wp_cond_true rfl ?_
      refine wp_seq ?_
      refine wp_region_L (W0 := w) [] (hW3) ?_
      refine lm (v := .int .i64 0) rfl rfl ?_
      refine lm (v := .int .i64 20) rfl rfl ?_
      refine wpL_done (fun W4 hW4 => ?_)
      clear hW3
      refine (show Code.wp _ _ _ _ _ from ?_)
      refine wp_ret ?_
      try simp only [inBlock_ret, then_ret]
      exact bodyPost_ret (results_tmp2 rfl _ _ _) rfl ⟨.inr ⟨rfl, fun n h1 h2 h3 => by omega⟩, hW4.1⟩
    · go_enter Tryd.func56, Tryd.ntmps56
      refine wp_seq ?_
      refine wp_region_L (W0 := w) [] (KS.start w) ?_
      refine lm (v := .int .i64 0) rfl rfl ?_
      refine lm (v := .int .i64 0) rfl rfl ?_
      refine wpL_done (fun W1 hW1 => ?_)
      refine (show Code.wp _ _ _ _ _ from ?_)
      refine wp_seq ?_
      refine wp_region_L (W0 := w) [] (hW1) ?_
      refine lm (v := strV l) rfl rfl ?_
      refine lp (v := .int .i64 (l.length : Int)) rfl rfl ((fun _ => by rw [← ba_size l]; kernel_rfl)) ?_
      refine lp (v := .int .i64 ((l.length : Int) - 10)) rfl rfl (run_bin rfl (vx := .int .i64 (l.length : Int)) (vy := .int .i64 10) (by kernel_rfl) (by kernel_rfl) fun w => run_subI (z := ((l.length : Int) - 10)) rfl (by omega) w) ?_
      refine lm (v := .int .i64 ((l.length : Int) - 10)) rfl rfl ?_
      refine wpL_done (fun W2 hW2 => ?_)
      clear hW1
      refine (show Code.wp _ _ _ _ _ from ?_)
      refine wp_seq ?_
      refine wp_seq ?_
      refine wp_region_L (W0 := w) [] (hW2) ?_
      refine lm (v := .int .i64 ((l.length : Int) - 10)) rfl rfl ?_
      refine lp (v := .bool false) rfl rfl (run_bin rfl (vx := .int .i64 ((l.length : Int) - 10)) (vy := .int .i64 1) (by kernel_rfl) (by kernel_rfl) fun w => run_lssI (decide_eq_false (by omega)) w) ?_
      refine lm (v := .bool false) rfl rfl ?_
      refine lm (v := .int .i64 ((l.length : Int) - 10)) rfl rfl ?_
      refine lp (v := .bool true) rfl rfl (run_bin rfl (vx := .int .i64 ((l.length : Int) - 10)) (vy := .int .i64 5) (by kernel_rfl) (by kernel_rfl) fun w => run_gtrI (decide_eq_true (by omega)) w) ?_
      refine lm (v := .bool true) rfl rfl ?_
      refine wpL_done (fun W3 hW3 => ?_)
      clear hW2
      refine (show Code.wp _ _ _ _ _ from ?_)
      refine wp_cond_true rfl ?_
      refine wp_seq ?_
      refine wp_region_L (W0 := w) [] (hW3) ?_
      refine lm (v := .int .i64 0) rfl rfl ?_
      refine lm (v := .int .i64 20) rfl rfl ?_
      refine wpL_done (fun W4 hW4 => ?_)
      clear hW3
      refine (show Code.wp _ _ _ _ _ from ?_)
      refine wp_ret ?_
      try simp only [inBlock_ret, then_ret]
      exact bodyPost_ret (results_tmp2 rfl _ _ _) rfl ⟨.inr ⟨rfl, fun n h1 h2 h3 => by omega⟩, hW4.1⟩
end Go.Proofs.YtjmcelgdjpdacaaDoor
/- What the reference answers of a text. -/
namespace Go.Proofs.YtjmcelgdjpdacaaDoor
open Go.RowKit Tw
open Go
theorem RRead_err (l : List UInt8) (hl : l.length ≤ 281474976710656) (h : ∀ t, t ≤ 100000000 → textS t ≠ l) (w : World) : Calls Tryd.prog 56 #[strV l] w fun e w' => e = .returned (.tuple #[.int .i64 0, .int .i64 20]) ∧ Below w.heap.size w w' :=
  (RRead_any l hl w).mono fun e w' ⟨he, hb⟩ => ⟨he.elim (fun ⟨x, hx, ht, _⟩ => (h x hx ht).elim) And.left, hb⟩
theorem acc_fold : ∀ (l : List UInt8) (a : Nat), (∀ b ∈ l, 48 ≤ b.toNat ∧ b.toNat ≤ 57) → l.foldl (fun (a : Int) b => 10 * a + (b.toNat : Int) - 48) (a : Int) = ((l.foldl (fun a b => a * 10 + (b.toNat - 48)) a : Nat) : Int)
  | [], _, _ => rfl
  | b :: l, a, h => by
    have hb := h b (List.mem_cons_self ..)
    rw [List.foldl_cons, List.foldl_cons, show (10 * (a : Int) + (b.toNat : Int) - 48) = ((a * 10 + (b.toNat - 48) : Nat) : Int) from by omega]
    exact acc_fold l _ (fun x hx => h x (List.mem_cons_of_mem _ hx))
theorem acc_dec (n : Nat) : accL (Lib.decDigits n) = (n : Int) := by
  have := acc_fold (Lib.decDigits n) 0 (dec_dig n)
  rw [dec_value n] at this
  exact this
theorem bN_at {u : List UInt8} {v : List UInt8} {n k : Nat} (h : u.length = n) : bN (u ++ v) (n + k) = bN v k := by
  subst h
  unfold bN
  rw [List.getD_eq_getElem?_getD, List.getD_eq_getElem?_getD, List.getElem?_append_right (by omega), Nat.add_sub_cancel_left]
theorem RRead_ok (t : Nat) (ht : t ≤ 100000000) (w : World) : Calls Tryd.prog 56 #[strV (textS t)] w fun e w' => e = .returned (.tuple #[.int .i64 (t : Int), .int .i64 0]) ∧ Below w.heap.size w w' := by
  have hlen := text_len ht
  refine (RRead_any (textS t) (by omega) w).mono fun e w' ⟨he, hb⟩ => ⟨?_, hb⟩
  rcases he with ⟨x, hx, hxt, rfl⟩ | ⟨_, h⟩
  · rw [text_inj hx ht hxt]
  · exfalso
    have h2 := dec_length 3 (t / 10080) (by omega)
    have h1 := dec_pos (t / 10080)
    obtain ⟨n, hn⟩ : ∃ n, (Lib.decDigits (t / 10080)).length = n := ⟨_, rfl⟩
    have e3 := day_len (t % 10080 / 1440)
    have e4 := two_len (n := t % 1440 / 60) (by omega)
    have e5 := two_len (n := t % 1440 % 60) (by omega)
    have hT := text_eq t
    have hl : (textS t).length = n + 10 := by
      rw [hT]
      simp only [List.length_append, List.length_cons, hn, e3, e4, e5]
    have hacc : accL ((textS t).take n) = ((t / 10080 : Nat) : Int) := by
      rw [hT, ← hn, List.take_left, acc_dec]
    have hd3 : ∃ a b c, dayL (t % 10080 / 1440) = [a, b, c] := by
      match h : dayL (t % 10080 / 1440), e3 with
      | [a, b, c], _ => exact ⟨a, b, c, rfl⟩
    obtain ⟨a, b, c, hd3⟩ := hd3
    have bb : ∀ k, bN (textS t) (n + k) = bN (32 :: (dayL (t % 10080 / 1440) ++ 32 :: (two (t % 1440 / 60) ++ 58 :: two (t % 1440 % 60)))) k := fun k => by rw [hT]; exact bN_at hn
    have t1 := two_eq (n := t % 1440 / 60) (by omega)
    have t2 := two_eq (n := t % 1440 % 60) (by omega)
    rw [hd3, t1, t2] at bb
    have q5 : bN (textS t) (n + 5) = ((48 + t % 1440 / 60 / 10 : Nat) : Int) := by rw [bb 5]; exact congrArg Nat.cast (digit_nat (by omega))
    have q6 : bN (textS t) (n + 6) = ((48 + t % 1440 / 60 % 10 : Nat) : Int) := by rw [bb 6]; exact congrArg Nat.cast (digit_nat (by omega))
    have q8 : bN (textS t) (n + 8) = ((48 + t % 1440 % 60 / 10 : Nat) : Int) := by rw [bb 8]; exact congrArg Nat.cast (digit_nat (by omega))
    have q9 : bN (textS t) (n + 9) = ((48 + t % 1440 % 60 % 10 : Nat) : Int) := by rw [bb 9]; exact congrArg Nat.cast (digit_nat (by omega))
    exact h n hl (by omega) (by omega) (by rw [hacc]; omega) (by rw [hacc]; omega) (t % 10080 / 1440) (by omega) t (by rw [hacc, q5, q6, q8, q9]; omega) ht rfl
end Go.Proofs.YtjmcelgdjpdacaaDoor
namespace Go.Proofs.YtjmcelgdjpdacaaDoor
open Go.RowKit Tw
open Go
theorem run_sliceH {o : Oper} {a : Act} {l : List UInt8} {j : Nat} {px p2 : Operand} (ho : o.op = .slice 9 px none (some p2) none) (hx : a.eval px = strV l) (h2 : a.eval p2 = .int .i64 (j : Int)) (hl : j ≤ l.length) (w : World) : (execOp a.eval o).run Tryd.prog w = .ok (.value (strV (l.take j))) w := by
  have he : (⟨l.toArray⟩ : ByteArray).extract 0 j = ⟨(l.take j).toArray⟩ := by
    apply ByteArray.ext
    rw [ByteArray.data_extract]
    apply Array.ext'
    simp [List.extract_eq_drop_take']
  unfold execOp
  rw [ho]
  unfold strV at *
  have h3 : (j : Int) ≤ (l.length : Int) := by omega
  have h4 := ba_size l
  simp only [hx, h2, Option.map_some, Option.map_none]
  go_simp
theorem index_range (c : UInt8) : ∀ l : List UInt8, -1 ≤ Lib.indexByte l c ∧ Lib.indexByte l c < l.length
  | [] => by simp [Lib.indexByte]
  | b :: l => by
    have := index_range c l
    simp only [Lib.indexByte, List.length_cons]
    split
    · omega
    · split <;> omega
set_option maxRecDepth 100000 in
set_option maxHeartbeats 2000000 in
theorem cut_in (l : List UInt8) (c : UInt8) (hl : l.length ≤ 281474976710656) (w : World) : Calls Tryd.prog 86 #[strV l, strV [c]] w fun e w' => e = .returned (.tuple #[strV (Lib.cut l [c]).1, strV (Lib.cut l [c]).2.1, .bool (Lib.cut l [c]).2.2]) ∧ Below w.heap.size w w' := by
  have hr := index_range c l
  obtain ⟨x, hx⟩ : ∃ x, Lib.indexByte l c = x := ⟨_, rfl⟩
  have hI : ∀ W, Calls Tryd.prog 89 #[strV l, strV [c]] W fun e w' => e = .returned (.int .i64 x) ∧ Below W.heap.size W w' := fun W => (Tryd.stringslite_Index_one ⟨l.toArray⟩ c W).mono fun e w' ⟨he, hw⟩ => ⟨by rw [he]; show Ending.returned (.int .i64 (Lib.indexByte l c)) = _; rw [hx], hw ▸ Below.refl _ _⟩
  have hc : Lib.cut l [c] = if 0 ≤ x then (l.take x.toNat, l.drop (x.toNat + 1), true) else (l, [], false) := by unfold Lib.cut; rw [Lib.index_one, hx]; rfl
  rw [hx] at hr
  by_cases h0 : 0 ≤ x
  · obtain ⟨j, rfl⟩ : ∃ j : Nat, x = (j : Int) := ⟨x.toNat, by omega⟩
    rw [hc, if_pos h0, Int.toNat_natCast]
    go_enter Tryd.func86, Tryd.ntmps86
    refine wp_seq ?_
    refine wp_region_L (W0 := w) [] (KS.start w) ?_
    refine lm (v := strV []) rfl rfl ?_
    refine lm (v := strV []) rfl rfl ?_
    refine lm (v := .bool false) rfl rfl ?_
    refine wpL_done (fun W1 hW1 => ?_)
    refine (show Code.wp _ _ _ _ _ from ?_)
    refine wp_seq ?_
    refine wp_seq ?_
    refine wp_region_L (W0 := w) [] (hW1) ?_
    refine lm (v := strV l) rfl rfl ?_
    refine lm (v := strV [c]) rfl rfl ?_
    refine lv (v := .int .i64 (j : Int)) rfl rfl (yb_call (f := 89) (args := #[strV l, strV [c]]) (fun _ => by kernel_rfl) fun W hW => hI W) ?_
    refine lm (v := .int .i64 (j : Int)) rfl rfl ?_
    refine wpL_done (fun W2 hW2 => ?_)
    clear hW1
    refine (show Code.wp _ _ _ _ _ from ?_)
    refine wp_seq ?_
    refine wp_region_L (W0 := w) [] (hW2) ?_
    refine lm (v := .int .i64 (j : Int)) rfl rfl ?_
    refine lp (v := .bool true) rfl rfl (run_bin rfl (vx := .int .i64 (j : Int)) (vy := .int .i64 0) (by kernel_rfl) (by kernel_rfl) fun w => run_geqI (decide_eq_true (by omega)) w) ?_
    refine wpL_done (fun W3 hW3 => ?_)
    clear hW2
    refine (show Code.wp _ _ _ _ _ from ?_)
    refine wp_cond_true rfl ?_
    refine wp_seq ?_
    refine wp_region_V (W0 := w) [] (by kernel_rfl) (hW3) ?_
    refine vm (i := 0) (v := strV l) rfl rfl rfl ?_
    refine vm (i := 1) (v := .int .i64 (j : Int)) rfl rfl rfl ?_
    refine vp (i := 2) (v := strV (l.take j)) rfl rfl rfl (run_sliceH (l := l) (j := j) rfl (by kernel_rfl) (by kernel_rfl) (by omega)) ?_
    refine vm (i := 3) (v := strV l) rfl rfl rfl ?_
    refine vm (i := 4) (v := .int .i64 (j : Int)) rfl rfl rfl ?_
    refine vm (i := 5) (v := strV [c]) rfl rfl rfl ?_
    refine vp (i := 6) (v := .int .i64 1) rfl rfl rfl ((fun _ => by kernel_rfl)) ?_
    refine vp (i := 7) (v := .int .i64 ((j + 1 : Nat) : Int)) rfl rfl rfl (run_bin rfl (vx := .int .i64 (j : Int)) (vy := .int .i64 1) (by kernel_rfl) (by kernel_rfl) fun w => run_addI (z := ((j + 1 : Nat) : Int)) rfl (by omega) w) ?_
    refine vp (i := 8) (v := strV (l.drop (j + 1))) rfl rfl rfl (run_sliceS (l := l) (k := j + 1) rfl (by kernel_rfl) (by kernel_rfl) (by omega)) ?_
    refine vm (i := 9) (v := strV (l.take j)) rfl rfl rfl ?_
    refine vm (i := 10) (v := strV (l.drop (j + 1))) rfl rfl rfl ?_
    refine vm (i := 11) (v := .bool true) rfl rfl rfl ?_
    refine wpV_done (by kernel_rfl) (fun W4 hW4 => ?_) _
    clear hW3
    refine (show Code.wp _ _ _ _ _ from ?_)
    refine wp_ret ?_
    try simp only [inBlock_ret, then_ret]
    exact bodyPost_ret (by kernel_rfl) rfl ⟨rfl, hW4.1⟩
  · rw [hc, if_neg h0]
    go_enter Tryd.func86, Tryd.ntmps86
    refine wp_seq ?_
    refine wp_region_L (W0 := w) [] (KS.start w) ?_
    refine lm (v := strV []) rfl rfl ?_
    refine lm (v := strV []) rfl rfl ?_
    refine lm (v := .bool false) rfl rfl ?_
    refine wpL_done (fun W1 hW1 => ?_)
    refine (show Code.wp _ _ _ _ _ from ?_)
    refine wp_seq ?_
    refine wp_seq ?_
    refine wp_region_L (W0 := w) [] (hW1) ?_
    refine lm (v := strV l) rfl rfl ?_
    refine lm (v := strV [c]) rfl rfl ?_
    refine lv (v := .int .i64 x) rfl rfl (yb_call (f := 89) (args := #[strV l, strV [c]]) (fun _ => by kernel_rfl) fun W hW => hI W) ?_
    refine lm (v := .int .i64 x) rfl rfl ?_
    refine wpL_done (fun W2 hW2 => ?_)
    clear hW1
    refine (show Code.wp _ _ _ _ _ from ?_)
    refine wp_seq ?_
    refine wp_region_L (W0 := w) [] (hW2) ?_
    refine lm (v := .int .i64 x) rfl rfl ?_
    refine lp (v := .bool false) rfl rfl (run_bin rfl (vx := .int .i64 x) (vy := .int .i64 0) (by kernel_rfl) (by kernel_rfl) fun w => run_geqI (decide_eq_false h0) w) ?_
    refine wpL_done (fun W3 hW3 => ?_)
    clear hW2
    refine (show Code.wp _ _ _ _ _ from ?_)
    refine wp_cond_false rfl ?_
    refine wp_skip ?_
    refine (show Code.wp _ _ _ _ _ from ?_)
    refine wp_seq ?_
    refine wp_region_L (W0 := w) [] (hW3) ?_
    refine lm (v := strV l) rfl rfl ?_
    refine lm (v := strV l) rfl rfl ?_
    refine lm (v := strV []) rfl rfl ?_
    refine lm (v := .bool false) rfl rfl ?_
    refine wpL_done (fun W4 hW4 => ?_)
    clear hW3
    refine (show Code.wp _ _ _ _ _ from ?_)
    refine wp_ret ?_
    try simp only [inBlock_ret, then_ret]
    exact bodyPost_ret (by kernel_rfl) rfl ⟨rfl, hW4.1⟩
set_option maxRecDepth 100000 in
set_option maxHeartbeats 2000000 in
theorem cut_one (l : List UInt8) (c : UInt8) (hl : l.length ≤ 281474976710656) (w : World) : Calls Tryd.prog 72 #[strV l, strV [c]] w fun e w' => e = .returned (.tuple #[strV (Lib.cut l [c]).1, strV (Lib.cut l [c]).2.1, .bool (Lib.cut l [c]).2.2]) ∧ Below w.heap.size w w' := by
  have hci := fun W => cut_in l c hl W
  obtain ⟨u, hu⟩ : ∃ u, (Lib.cut l [c]).1 = u := ⟨_, rfl⟩
  obtain ⟨v, hv⟩ : ∃ u, (Lib.cut l [c]).2.1 = u := ⟨_, rfl⟩
  obtain ⟨b, hb⟩ : ∃ u, (Lib.cut l [c]).2.2 = u := ⟨_, rfl⟩
  rw [hu, hv, hb] at hci ⊢
  go_enter Tryd.func72, Tryd.ntmps72
  refine wp_seq ?_
  refine wp_region_L (W0 := w) [] (KS.start w) ?_
  refine lm (v := strV []) rfl rfl ?_
  refine lm (v := strV []) rfl rfl ?_
  refine lm (v := .bool false) rfl rfl ?_
  refine wpL_done (fun W1 hW1 => ?_)
  refine (show Code.wp _ _ _ _ _ from ?_)
  refine wp_seq ?_
  refine wp_region_L (W0 := w) [] (hW1) ?_
  refine lm (v := strV l) rfl rfl ?_
  refine lm (v := strV [c]) rfl rfl ?_
  refine lv (v := .tuple #[strV u, strV v, .bool b]) rfl rfl (yb_call (f := 86) (args := #[strV l, strV [c]]) (fun _ => by kernel_rfl) fun W hW => hci W) ?_
  refine lm (v := strV u) rfl rfl ?_
  refine lm (v := strV v) rfl rfl ?_
  refine lm (v := .bool b) rfl rfl ?_
  refine lm (v := strV u) rfl rfl ?_
  refine lm (v := strV v) rfl rfl ?_
  refine lm (v := .bool b) rfl rfl ?_
  refine wpL_done (fun W2 hW2 => ?_)
  clear hW1
  refine (show Code.wp _ _ _ _ _ from ?_)
  refine wp_ret ?_
  try simp only [inBlock_ret, then_ret]
  exact bodyPost_ret (by kernel_rfl) rfl ⟨rfl, hW2.1⟩
end Go.Proofs.YtjmcelgdjpdacaaDoor
namespace Go.Proofs.YtjmcelgdjpdacaaDoor
open Go.RowKit Tw
open Go
theorem atoi_long (l : List UInt8) (hl : l.length ≤ 281474976710656) (W : World) (hW : Env W) : Calls Tryd.prog 87 #[strV l] W fun e w' => ∃ ev, e = .returned (.tuple #[.int .i64 (numV l), ev]) ∧ Below W.heap.size W w' := by
  have hz := ba_size l
  have hd : (⟨l.toArray⟩ : ByteArray).data.toList = l := rfl
  unfold numV
  match ha : Lib.atoiAll l with
  | .ok v =>
    refine (Tryd.strconv_Atoi_ok ⟨l.toArray⟩ (by omega) v ha W).mono fun e w' ⟨he, hw⟩ => ⟨_, he, ?_⟩
    rcases hw with rfl | ⟨t, rfl⟩
    · exact Below.refl _ _
    · exact Lib.bytesWorld_below _ _ _
  | .syntax =>
    obtain ⟨tp, p, hv⟩ := hW.syn
    exact (Tryd.strconv_Atoi_syntax ⟨l.toArray⟩ (by omega) ha (.iface tp p) W (by have h0 := World.var?_cell gSyn hv 0; simpa using h0) (.inr ⟨tp, p, rfl⟩)).mono fun e w' ⟨N, he, _, _, hb⟩ => ⟨_, he, hb⟩
  | .range =>
    obtain ⟨tp, p, hv⟩ := hW.rng
    exact (Tryd.strconv_Atoi_range ⟨l.toArray⟩ (by omega) ha (.iface tp p) W (by have h0 := World.var?_cell gRng hv 0; simpa using h0) (.inr ⟨tp, p, rfl⟩)).mono fun e w' ⟨N, he, _, _, hb⟩ => ⟨_, he, hb⟩
set_option maxRecDepth 100000 in
set_option maxHeartbeats 2000000 in
theorem number_long (l : List UInt8) (hl : l.length ≤ 281474976710656) (w : World) (hE : Env w) : Calls Tryd.prog 73 #[strV l] w fun e w' => e = .returned (.int .i64 (numV l)) ∧ Below w.heap.size w w' := by
  have HE := Lib.hid hE
  clear hE
  go_enter Tryd.func73, Tryd.ntmps73
  refine wp_seq ?_
  refine wp_region_L (W0 := w) [] (KS.start w) ?_
  refine lm (v := .int .i64 0) rfl rfl ?_
  refine wpL_done (fun W1 hW1 => ?_)
  refine (show Code.wp _ _ _ _ _ from ?_)
  refine wp_seq ?_
  refine wp_region_L (W0 := w) [] (hW1) ?_
  refine lm (v := strV l) rfl rfl ?_
  refine wpL_c (fun v K9 => ∃ ev, v = .tuple #[.int .i64 (numV l), ev] ∧ K9 = []) rfl (by kernel_rfl) (fun _ => (by kernel_rfl)) (fun W hW => (atoi_long l hl W (HE.out.keep hW.1)).mono fun e w' ⟨ev, he, hb⟩ => ⟨_, _, he, hW.below hb, ev, rfl, rfl⟩) (fun _ => by simp only [List.setIfInBounds_toArray, List.set_cons_succ, List.set_cons_zero] <;> rfl) ?_
  rintro v K9 ⟨ev, rfl, rfl⟩
  refine lm (v := .tuple #[.int .i64 (numV l), ev]) rfl rfl ?_
  refine lm (v := .int .i64 (numV l)) rfl rfl ?_
  refine lm (v := ev) rfl rfl ?_
  refine lm (v := .int .i64 (numV l)) rfl rfl ?_
  refine lm (v := ev) rfl rfl ?_
  refine wpL_done (fun W2 hW2 => ?_)
  clear hW1
  refine (show Code.wp _ _ _ _ _ from ?_)
  refine wp_seq ?_
  refine wp_region_L (W0 := w) [] (hW2) ?_
  refine lm (v := .int .i64 (numV l)) rfl rfl ?_
  refine lm (v := .int .i64 (numV l)) rfl rfl ?_
  refine wpL_done (fun W3 hW3 => ?_)
  clear hW2
  refine (show Code.wp _ _ _ _ _ from ?_)
  refine wp_ret ?_
  try simp only [inBlock_ret, then_ret]
  go_ret
  exact ⟨rfl, hW3.1⟩
set_option maxRecDepth 100000 in
set_option maxHeartbeats 8000000 in
theorem Read_long (l : List UInt8) (hl : l.length ≤ 281474976710656) (w : World) (hE : Env w) : ∃ a te lt, (isT a = true → te = 0 ∧ lt = textS a.toNat) ∧ (isT a = false → te = 2 ∧ lt = []) ∧
    (∀ m1 a1 m2 a2, IntKind.i64.wrap (numV (wkL l) * 10080) = m1 → IntKind.i64.wrap (m1 + ((dayV (dyL l) : Nat) : Int) * 1440) = a1 → IntKind.i64.wrap (numV (hrL l) * 60) = m2 → IntKind.i64.wrap (a1 + m2) = a2 → a = IntKind.i64.wrap (a2 + numV (mnL l))) ∧
    Calls Tryd.prog 36 #[strV l] w fun e w' => e = .returned (if te = (0 : Int) ∧ lt = l then .tuple #[.int .i64 a, .int .i64 0] else .tuple #[.int .i64 0, .int .i64 20]) ∧ Below w.heap.size w w' := by
  have k1 := cut_le l [32]
  have k2 := cut_le (r1L l) [32]
  have k3 := cut_le (r2L l) [58]
  have e1 : (wkL l).length ≤ 281474976710656 := by unfold wkL; omega
  have e2 : (r1L l).length ≤ 281474976710656 := by unfold r1L; omega
  have e3 : (r2L l).length ≤ 281474976710656 := by have h : (r2L l).length ≤ (r1L l).length := k2.2; omega
  have e4 : (hrL l).length ≤ 281474976710656 := by have h : (hrL l).length ≤ (r2L l).length := k3.1; omega
  have e5 : (mnL l).length ≤ 281474976710656 := by have h : (mnL l).length ≤ (r2L l).length := k3.2; omega
  obtain ⟨a, ha⟩ : ∃ a, IntKind.i64.wrap (IntKind.i64.wrap (IntKind.i64.wrap (IntKind.i64.wrap (numV (wkL l) * 10080) + ((dayV (dyL l) : Nat) : Int) * 1440) + IntKind.i64.wrap (numV (hrL l) * 60)) + numV (mnL l)) = a := ⟨_, rfl⟩
  have run : ∀ (te : Int) (lt : List UInt8), (te = 0 ∨ te = 2) → (∀ W, Env W → Calls Tryd.prog 35 #[.int .i64 a] W fun e w' => e = .returned (.tuple #[strV lt, .int .i64 te]) ∧ Below W.heap.size W w') →
      Calls Tryd.prog 36 #[strV l] w fun e w' => e = .returned (if te = (0 : Int) ∧ lt = l then .tuple #[.int .i64 a, .int .i64 0] else .tuple #[.int .i64 0, .int .i64 20]) ∧ Below w.heap.size w w' := fun te lt hte hT =>
    Read_walk l (wkL l) (r1L l) (dyL l) (r2L l) (hrL l) (mnL l) lt _ _ _ (numV (wkL l)) (numV (hrL l)) (numV (mnL l)) _ _ 0 _ _ a te (dayV (dyL l)) (dayV_le _) w hE
      (fun W hW => cut_one l 32 hl W) (fun W hW => cut_one (r1L l) 32 e2 W) (fun W hW => cut_one (r2L l) 58 e3 W) (fun W hW => number_long _ e1 W hW) (fun W hW => weekday_any _ W hW) (fun W hW => number_long _ e4 W hW) (fun W hW => number_long _ e5 W hW) rfl rfl rfl rfl ha hT hte
  have hdet : ∀ m1 a1 m2 a2, IntKind.i64.wrap (numV (wkL l) * 10080) = m1 → IntKind.i64.wrap (m1 + ((dayV (dyL l) : Nat) : Int) * 1440) = a1 → IntKind.i64.wrap (numV (hrL l) * 60) = m2 → IntKind.i64.wrap (a1 + m2) = a2 → a = IntKind.i64.wrap (a2 + numV (mnL l)) := by
    rintro m1 a1 m2 a2 rfl rfl rfl rfl
    exact ha.symm
  cases hi : isT a with
  | true =>
    have hr := isT_range hi
    refine ⟨a, 0, textS a.toNat, fun _ => ⟨rfl, rfl⟩, (fun h => absurd (hi.symm.trans h) (by decide)), hdet, run 0 _ (.inl rfl) fun W hW => ?_⟩
    have := Text_ok a.toNat (by omega) W hW
    rw [Int.toNat_of_nonneg hr.1] at this
    exact this
  | false => exact ⟨a, 2, [], (fun h => absurd (hi.symm.trans h) (by decide)), fun _ => ⟨rfl, rfl⟩, hdet, run 2 _ (.inr rfl) fun W hW => Text_err a hi W⟩
theorem Read_errL (l : List UInt8) (hl : l.length ≤ 281474976710656) (h : ∀ t, t ≤ 100000000 → textS t ≠ l) (w : World) (hE : Env w) : Calls Tryd.prog 36 #[strV l] w fun e w' => e = .returned (.tuple #[.int .i64 0, .int .i64 20]) ∧ Below w.heap.size w w' := by
  obtain ⟨a, te, lt, h1, h2, _, h4⟩ := Read_long l hl w hE
  rw [if_neg] at h4
  · exact h4
  · rintro ⟨rfl, rfl⟩
    cases hi : isT a with
    | true =>
      have hr := isT_range hi
      exact h a.toNat (by omega) (h1 hi).2.symm
    | false => exact absurd (h2 hi).1 (by omega)
end Go.Proofs.YtjmcelgdjpdacaaDoor
namespace Go.Proofs.YtjmcelgdjpdacaaDoor
open Go.RowKit Tw
open Go
set_option maxRecDepth 100000 in
set_option maxHeartbeats 8000000 in
theorem texts_any (n : Int) (l : List UInt8) (hl : l.length ≤ 281474976710656) (w : World) (hE : Env w) : Calls Tryd.prog 18 #[.int .i64 n, strV l] w fun e w' => e = .returned (.bool true) ∧ Below w.heap.size w w' := by
  have HE := Lib.hid hE
  clear hE
  by_cases hn : 0 ≤ n ∧ n ≤ 100000000
  · obtain ⟨tn, rfl⟩ : ∃ tn : Nat, n = (tn : Int) := ⟨n.toNat, by omega⟩
    by_cases hx : ∃ u, u ≤ 100000000 ∧ textS u = l
    · obtain ⟨u, hu, rfl⟩ := hx
      go_enter Tryd.func18, Tryd.ntmps18
      refine wp_seq ?_
      refine wp_region_L (W0 := w) [] (KS.start w) ?_
      refine lm (v := .bool false) rfl rfl ?_
      refine wpL_done (fun W1 hW1 => ?_)
      refine (show Code.wp _ _ _ _ _ from ?_)
      refine wp_seq ?_
      refine wp_region_L (W0 := w) [] (hW1) ?_
      refine lm (v := .int .i64 (tn : Int)) rfl rfl ?_
      refine lv (v := .tuple #[strV (textS tn), .int .i64 0]) rfl rfl (yb_call (f := 35) (args := #[.int .i64 (tn : Int)]) (fun _ => by kernel_rfl) fun W hW => Text_ok tn (by omega) W (HE.out.keep hW.1)) ?_
      refine lm (v := .tuple #[strV (textS tn), .int .i64 0]) rfl rfl ?_
      refine lm (v := strV (textS tn)) rfl rfl ?_
      refine lm (v := .int .i64 0) rfl rfl ?_
      refine lm (v := strV (textS tn)) rfl rfl ?_
      refine lm (v := .int .i64 0) rfl rfl ?_
      refine wpL_done (fun W2 hW2 => ?_)
      clear hW1
      refine (show Code.wp _ _ _ _ _ from ?_)
      refine wp_seq ?_
      refine wp_region_L (W0 := w) [] (hW2) ?_
      refine lm (v := .int .i64 (tn : Int)) rfl rfl ?_
      refine lv (v := .tuple #[strV (textS tn), .int .i64 0]) rfl rfl (yb_call (f := 55) (args := #[.int .i64 (tn : Int)]) (fun _ => by kernel_rfl) fun W hW => RText_ok tn (by omega) W) ?_
      refine lm (v := .tuple #[strV (textS tn), .int .i64 0]) rfl rfl ?_
      refine lm (v := strV (textS tn)) rfl rfl ?_
      refine lm (v := .int .i64 0) rfl rfl ?_
      refine lm (v := strV (textS tn)) rfl rfl ?_
      refine lm (v := .int .i64 0) rfl rfl ?_
      refine wpL_done (fun W3 hW3 => ?_)
      clear hW2
      refine (show Code.wp _ _ _ _ _ from ?_)
      refine wp_seq ?_
      refine wp_region_L (W0 := w) [] (hW3) ?_
      refine lm (v := strV (textS u)) rfl rfl ?_
      refine lv (v := .tuple #[.int .i64 (u : Int), .int .i64 0]) rfl rfl (yb_call (f := 36) (args := #[strV (textS u)]) (fun _ => by kernel_rfl) fun W hW => Read_ok u hu W (HE.out.keep hW.1)) ?_
      refine lm (v := .tuple #[.int .i64 (u : Int), .int .i64 0]) rfl rfl ?_
      refine lm (v := .int .i64 (u : Int)) rfl rfl ?_
      refine lm (v := .int .i64 0) rfl rfl ?_
      refine lm (v := .int .i64 (u : Int)) rfl rfl ?_
      refine lm (v := .int .i64 0) rfl rfl ?_
      refine wpL_done (fun W4 hW4 => ?_)
      clear hW3
      refine (show Code.wp _ _ _ _ _ from ?_)
      refine wp_seq ?_
      refine wp_region_L (W0 := w) [] (hW4) ?_
      refine lm (v := strV (textS u)) rfl rfl ?_
      refine lv (v := .tuple #[.int .i64 (u : Int), .int .i64 0]) rfl rfl (yb_call (f := 56) (args := #[strV (textS u)]) (fun _ => by kernel_rfl) fun W hW => RRead_ok u hu W) ?_
      refine lm (v := .tuple #[.int .i64 (u : Int), .int .i64 0]) rfl rfl ?_
      refine lm (v := .int .i64 (u : Int)) rfl rfl ?_
      refine lm (v := .int .i64 0) rfl rfl ?_
      refine lm (v := .int .i64 (u : Int)) rfl rfl ?_
      refine lm (v := .int .i64 0) rfl rfl ?_
      refine wpL_done (fun W5 hW5 => ?_)
      clear hW4
      refine (show Code.wp _ _ _ _ _ from ?_)
      refine wp_seq ?_
      refine wp_region_L (W0 := w) [] (hW5) ?_
      refine lm (v := strV (textS tn)) rfl rfl ?_
      refine lm (v := strV (textS tn)) rfl rfl ?_
      refine lp (v := .bool true) rfl rfl (run_bin rfl (vx := strV (textS tn)) (vy := strV (textS tn)) (by kernel_rfl) (by kernel_rfl) fun w => run_eqS (beq_self_eq_true _) w) ?_
      refine lm (v := .bool true) rfl rfl ?_
      refine lm (v := .int .i64 0) rfl rfl ?_
      refine lm (v := .int .i64 0) rfl rfl ?_
      refine lm (v := .bool true) rfl rfl ?_
      refine lm (v := .bool true) rfl rfl ?_
      refine lm (v := .bool true) rfl rfl ?_
      refine lm (v := .int .i64 (u : Int)) rfl rfl ?_
      refine lm (v := .int .i64 (u : Int)) rfl rfl ?_
      refine lp (v := .bool true) rfl rfl (run_bin rfl (vx := .int .i64 (u : Int)) (vy := .int .i64 (u : Int)) (by kernel_rfl) (by kernel_rfl) fun w => run_eqlI (decide_eq_true rfl) w) ?_
      refine lm (v := .bool true) rfl rfl ?_
      refine lm (v := .bool true) rfl rfl ?_
      refine lm (v := .int .i64 0) rfl rfl ?_
      refine lm (v := .int .i64 0) rfl rfl ?_
      refine lm (v := .bool true) rfl rfl ?_
      refine lm (v := .bool true) rfl rfl ?_
      refine lm (v := .bool true) rfl rfl ?_
      refine wpL_done (fun W6 hW6 => ?_)
      clear hW5
      refine (show Code.wp _ _ _ _ _ from ?_)
      refine wp_ret ?_
      try simp only [inBlock_ret, then_ret]
      go_ret
      exact ⟨rfl, hW6.1⟩
    · have hr : ∀ t, t ≤ 100000000 → textS t ≠ l := fun t h1 h2 => hx ⟨t, h1, h2⟩
      go_enter Tryd.func18, Tryd.ntmps18
      refine wp_seq ?_
      refine wp_region_L (W0 := w) [] (KS.start w) ?_
      refine lm (v := .bool false) rfl rfl ?_
      refine wpL_done (fun W1 hW1 => ?_)
      refine (show Code.wp _ _ _ _ _ from ?_)
      refine wp_seq ?_
      refine wp_region_L (W0 := w) [] (hW1) ?_
      refine lm (v := .int .i64 (tn : Int)) rfl rfl ?_
      refine lv (v := .tuple #[strV (textS tn), .int .i64 0]) rfl rfl (yb_call (f := 35) (args := #[.int .i64 (tn : Int)]) (fun _ => by kernel_rfl) fun W hW => Text_ok tn (by omega) W (HE.out.keep hW.1)) ?_
      refine lm (v := .tuple #[strV (textS tn), .int .i64 0]) rfl rfl ?_
      refine lm (v := strV (textS tn)) rfl rfl ?_
      refine lm (v := .int .i64 0) rfl rfl ?_
      refine lm (v := strV (textS tn)) rfl rfl ?_
      refine lm (v := .int .i64 0) rfl rfl ?_
      refine wpL_done (fun W2 hW2 => ?_)
      clear hW1
      refine (show Code.wp _ _ _ _ _ from ?_)
      refine wp_seq ?_
      refine wp_region_L (W0 := w) [] (hW2) ?_
      refine lm (v := .int .i64 (tn : Int)) rfl rfl ?_
      refine lv (v := .tuple #[strV (textS tn), .int .i64 0]) rfl rfl (yb_call (f := 55) (args := #[.int .i64 (tn : Int)]) (fun _ => by kernel_rfl) fun W hW => RText_ok tn (by omega) W) ?_
      refine lm (v := .tuple #[strV (textS tn), .int .i64 0]) rfl rfl ?_
      refine lm (v := strV (textS tn)) rfl rfl ?_
      refine lm (v := .int .i64 0) rfl rfl ?_
      refine lm (v := strV (textS tn)) rfl rfl ?_
      refine lm (v := .int .i64 0) rfl rfl ?_
      refine wpL_done (fun W3 hW3 => ?_)
      clear hW2
      refine (show Code.wp _ _ _ _ _ from ?_)
      refine wp_seq ?_
      refine wp_region_L (W0 := w) [] (hW3) ?_
      refine lm (v := strV l) rfl rfl ?_
      refine lv (v := .tuple #[.int .i64 0, .int .i64 20]) rfl rfl (yb_call (f := 36) (args := #[strV l]) (fun _ => by kernel_rfl) fun W hW => Read_errL l hl hr W (HE.out.keep hW.1)) ?_
      refine lm (v := .tuple #[.int .i64 0, .int .i64 20]) rfl rfl ?_
      refine lm (v := .int .i64 0) rfl rfl ?_
      refine lm (v := .int .i64 20) rfl rfl ?_
      refine lm (v := .int .i64 0) rfl rfl ?_
      refine lm (v := .int .i64 20) rfl rfl ?_
      refine wpL_done (fun W4 hW4 => ?_)
      clear hW3
      refine (show Code.wp _ _ _ _ _ from ?_)
      refine wp_seq ?_
      refine wp_region_L (W0 := w) [] (hW4) ?_
      refine lm (v := strV l) rfl rfl ?_
      refine lv (v := .tuple #[.int .i64 0, .int .i64 20]) rfl rfl (yb_call (f := 56) (args := #[strV l]) (fun _ => by kernel_rfl) fun W hW => RRead_err l hl hr W) ?_
      refine lm (v := .tuple #[.int .i64 0, .int .i64 20]) rfl rfl ?_
      refine lm (v := .int .i64 0) rfl rfl ?_
      refine lm (v := .int .i64 20) rfl rfl ?_
      refine lm (v := .int .i64 0) rfl rfl ?_
      refine lm (v := .int .i64 20) rfl rfl ?_
      refine wpL_done (fun W5 hW5 => ?_)
      clear hW4
      refine (show Code.wp _ _ _ _ _ from ?_)
      refine wp_seq ?_
      refine wp_region_L (W0 := w) [] (hW5) ?_
      refine lm (v := strV (textS tn)) rfl rfl ?_
      refine lm (v := strV (textS tn)) rfl rfl ?_
      refine lp (v := .bool true) rfl rfl (run_bin rfl (vx := strV (textS tn)) (vy := strV (textS tn)) (by kernel_rfl) (by kernel_rfl) fun w => run_eqS (beq_self_eq_true _) w) ?_
      refine lm (v := .bool true) rfl rfl ?_
      refine lm (v := .int .i64 0) rfl rfl ?_
      refine lm (v := .int .i64 0) rfl rfl ?_
      refine lm (v := .bool true) rfl rfl ?_
      refine lm (v := .bool true) rfl rfl ?_
      refine lm (v := .bool true) rfl rfl ?_
      refine lm (v := .int .i64 0) rfl rfl ?_
      refine lm (v := .int .i64 0) rfl rfl ?_
      refine lm (v := .bool true) rfl rfl ?_
      refine lm (v := .bool true) rfl rfl ?_
      refine lm (v := .bool true) rfl rfl ?_
      refine lm (v := .int .i64 20) rfl rfl ?_
      refine lm (v := .int .i64 20) rfl rfl ?_
      refine lm (v := .bool true) rfl rfl ?_
      refine lm (v := .bool true) rfl rfl ?_
      refine lm (v := .bool true) rfl rfl ?_
      refine wpL_done (fun W6 hW6 => ?_)
      clear hW5
      refine (show Code.wp _ _ _ _ _ from ?_)
      refine wp_ret ?_
      try simp only [inBlock_ret, then_ret]
      go_ret
      exact ⟨rfl, hW6.1⟩
  · have ht : isT n = false := by simp [isT]; omega
    by_cases hx : ∃ u, u ≤ 100000000 ∧ textS u = l
    · obtain ⟨u, hu, rfl⟩ := hx
      go_enter Tryd.func18, Tryd.ntmps18
      refine wp_seq ?_
      refine wp_region_L (W0 := w) [] (KS.start w) ?_
      refine lm (v := .bool false) rfl rfl ?_
      refine wpL_done (fun W1 hW1 => ?_)
      refine (show Code.wp _ _ _ _ _ from ?_)
      refine wp_seq ?_
      refine wp_region_L (W0 := w) [] (hW1) ?_
      refine lm (v := .int .i64 n) rfl rfl ?_
      refine lv (v := .tuple #[strV [], .int .i64 2]) rfl rfl (yb_call (f := 35) (args := #[.int .i64 n]) (fun _ => by kernel_rfl) fun W hW => Text_err n ht W) ?_
      refine lm (v := .tuple #[strV [], .int .i64 2]) rfl rfl ?_
      refine lm (v := strV []) rfl rfl ?_
      refine lm (v := .int .i64 2) rfl rfl ?_
      refine lm (v := strV []) rfl rfl ?_
      refine lm (v := .int .i64 2) rfl rfl ?_
      refine wpL_done (fun W2 hW2 => ?_)
      clear hW1
      refine (show Code.wp _ _ _ _ _ from ?_)
      refine wp_seq ?_
      refine wp_region_L (W0 := w) [] (hW2) ?_
      refine lm (v := .int .i64 n) rfl rfl ?_
      refine lv (v := .tuple #[strV [], .int .i64 2]) rfl rfl (yb_call (f := 55) (args := #[.int .i64 n]) (fun _ => by kernel_rfl) fun W hW => RText_err n ht W) ?_
      refine lm (v := .tuple #[strV [], .int .i64 2]) rfl rfl ?_
      refine lm (v := strV []) rfl rfl ?_
      refine lm (v := .int .i64 2) rfl rfl ?_
      refine lm (v := strV []) rfl rfl ?_
      refine lm (v := .int .i64 2) rfl rfl ?_
      refine wpL_done (fun W3 hW3 => ?_)
      clear hW2
      refine (show Code.wp _ _ _ _ _ from ?_)
      refine wp_seq ?_
      refine wp_region_L (W0 := w) [] (hW3) ?_
      refine lm (v := strV (textS u)) rfl rfl ?_
      refine lv (v := .tuple #[.int .i64 (u : Int), .int .i64 0]) rfl rfl (yb_call (f := 36) (args := #[strV (textS u)]) (fun _ => by kernel_rfl) fun W hW => Read_ok u hu W (HE.out.keep hW.1)) ?_
      refine lm (v := .tuple #[.int .i64 (u : Int), .int .i64 0]) rfl rfl ?_
      refine lm (v := .int .i64 (u : Int)) rfl rfl ?_
      refine lm (v := .int .i64 0) rfl rfl ?_
      refine lm (v := .int .i64 (u : Int)) rfl rfl ?_
      refine lm (v := .int .i64 0) rfl rfl ?_
      refine wpL_done (fun W4 hW4 => ?_)
      clear hW3
      refine (show Code.wp _ _ _ _ _ from ?_)
      refine wp_seq ?_
      refine wp_region_L (W0 := w) [] (hW4) ?_
      refine lm (v := strV (textS u)) rfl rfl ?_
      refine lv (v := .tuple #[.int .i64 (u : Int), .int .i64 0]) rfl rfl (yb_call (f := 56) (args := #[strV (textS u)]) (fun _ => by kernel_rfl) fun W hW => RRead_ok u hu W) ?_
      refine lm (v := .tuple #[.int .i64 (u : Int), .int .i64 0]) rfl rfl ?_
      refine lm (v := .int .i64 (u : Int)) rfl rfl ?_
      refine lm (v := .int .i64 0) rfl rfl ?_
      refine lm (v := .int .i64 (u : Int)) rfl rfl ?_
      refine lm (v := .int .i64 0) rfl rfl ?_
      refine wpL_done (fun W5 hW5 => ?_)
      clear hW4
      refine (show Code.wp _ _ _ _ _ from ?_)
      refine wp_seq ?_
      refine wp_region_L (W0 := w) [] (hW5) ?_
      refine lm (v := strV []) rfl rfl ?_
      refine lm (v := strV []) rfl rfl ?_
      refine lp (v := .bool true) rfl rfl (run_bin rfl (vx := strV []) (vy := strV []) (by kernel_rfl) (by kernel_rfl) fun w => run_eqS (beq_self_eq_true _) w) ?_
      refine lm (v := .bool true) rfl rfl ?_
      refine lm (v := .int .i64 2) rfl rfl ?_
      refine lm (v := .int .i64 2) rfl rfl ?_
      refine lm (v := .bool true) rfl rfl ?_
      refine lm (v := .bool true) rfl rfl ?_
      refine lm (v := .bool true) rfl rfl ?_
      refine lm (v := .int .i64 (u : Int)) rfl rfl ?_
      refine lm (v := .int .i64 (u : Int)) rfl rfl ?_
      refine lp (v := .bool true) rfl rfl (run_bin rfl (vx := .int .i64 (u : Int)) (vy := .int .i64 (u : Int)) (by kernel_rfl) (by kernel_rfl) fun w => run_eqlI (decide_eq_true rfl) w) ?_
      refine lm (v := .bool true) rfl rfl ?_
      refine lm (v := .bool true) rfl rfl ?_
      refine lm (v := .int .i64 0) rfl rfl ?_
      refine lm (v := .int .i64 0) rfl rfl ?_
      refine lm (v := .bool true) rfl rfl ?_
      refine lm (v := .bool true) rfl rfl ?_
      refine lm (v := .bool true) rfl rfl ?_
      refine wpL_done (fun W6 hW6 => ?_)
      clear hW5
      refine (show Code.wp _ _ _ _ _ from ?_)
      refine wp_ret ?_
      try simp only [inBlock_ret, then_ret]
      go_ret
      exact ⟨rfl, hW6.1⟩
    · have hr : ∀ t, t ≤ 100000000 → textS t ≠ l := fun t h1 h2 => hx ⟨t, h1, h2⟩
      go_enter Tryd.func18, Tryd.ntmps18
      refine wp_seq ?_
      refine wp_region_L (W0 := w) [] (KS.start w) ?_
      refine lm (v := .bool false) rfl rfl ?_
      refine wpL_done (fun W1 hW1 => ?_)
      refine (show Code.wp _ _ _ _ _ from ?_)
      refine wp_seq ?_
      refine wp_region_L (W0 := w) [] (hW1) ?_
      refine lm (v := .int .i64 n) rfl rfl ?_
      refine lv (v := .tuple #[strV [], .int .i64 2]) rfl rfl (yb_call (f := 35) (args := #[.int .i64 n]) (fun _ => by kernel_rfl) fun W hW => Text_err n ht W) ?_
      refine lm (v := .tuple #[strV [], .int .i64 2]) rfl rfl ?_
      refine lm (v := strV []) rfl rfl ?_
      refine lm (v := .int .i64 2) rfl rfl ?_
      refine lm (v := strV []) rfl rfl ?_
      refine lm (v := .int .i64 2) rfl rfl ?_
      refine wpL_done (fun W2 hW2 => ?_)
      clear hW1
      refine (show Code.wp _ _ _ _ _ from ?_)
      refine wp_seq ?_
      refine wp_region_L (W0 := w) [] (hW2) ?_
      refine lm (v := .int .i64 n) rfl rfl ?_
      refine lv (v := .tuple #[strV [], .int .i64 2]) rfl rfl (yb_call (f := 55) (args := #[.int .i64 n]) (fun _ => by kernel_rfl) fun W hW => RText_err n ht W) ?_
      refine lm (v := .tuple #[strV [], .int .i64 2]) rfl rfl ?_
      refine lm (v := strV []) rfl rfl ?_
      refine lm (v := .int .i64 2) rfl rfl ?_
      refine lm (v := strV []) rfl rfl ?_
      refine lm (v := .int .i64 2) rfl rfl ?_
      refine wpL_done (fun W3 hW3 => ?_)
      clear hW2
      refine (show Code.wp _ _ _ _ _ from ?_)
      refine wp_seq ?_
      refine wp_region_L (W0 := w) [] (hW3) ?_
      refine lm (v := strV l) rfl rfl ?_
      refine lv (v := .tuple #[.int .i64 0, .int .i64 20]) rfl rfl (yb_call (f := 36) (args := #[strV l]) (fun _ => by kernel_rfl) fun W hW => Read_errL l hl hr W (HE.out.keep hW.1)) ?_
      refine lm (v := .tuple #[.int .i64 0, .int .i64 20]) rfl rfl ?_
      refine lm (v := .int .i64 0) rfl rfl ?_
      refine lm (v := .int .i64 20) rfl rfl ?_
      refine lm (v := .int .i64 0) rfl rfl ?_
      refine lm (v := .int .i64 20) rfl rfl ?_
      refine wpL_done (fun W4 hW4 => ?_)
      clear hW3
      refine (show Code.wp _ _ _ _ _ from ?_)
      refine wp_seq ?_
      refine wp_region_L (W0 := w) [] (hW4) ?_
      refine lm (v := strV l) rfl rfl ?_
      refine lv (v := .tuple #[.int .i64 0, .int .i64 20]) rfl rfl (yb_call (f := 56) (args := #[strV l]) (fun _ => by kernel_rfl) fun W hW => RRead_err l hl hr W) ?_
      refine lm (v := .tuple #[.int .i64 0, .int .i64 20]) rfl rfl ?_
      refine lm (v := .int .i64 0) rfl rfl ?_
      refine lm (v := .int .i64 20) rfl rfl ?_
      refine lm (v := .int .i64 0) rfl rfl ?_
      refine lm (v := .int .i64 20) rfl rfl ?_
      refine wpL_done (fun W5 hW5 => ?_)
      clear hW4
      refine (show Code.wp _ _ _ _ _ from ?_)
      refine wp_seq ?_
      refine wp_region_L (W0 := w) [] (hW5) ?_
      refine lm (v := strV []) rfl rfl ?_
      refine lm (v := strV []) rfl rfl ?_
      refine lp (v := .bool true) rfl rfl (run_bin rfl (vx := strV []) (vy := strV []) (by kernel_rfl) (by kernel_rfl) fun w => run_eqS (beq_self_eq_true _) w) ?_
      refine lm (v := .bool true) rfl rfl ?_
      refine lm (v := .int .i64 2) rfl rfl ?_
      refine lm (v := .int .i64 2) rfl rfl ?_
      refine lm (v := .bool true) rfl rfl ?_
      refine lm (v := .bool true) rfl rfl ?_
      refine lm (v := .bool true) rfl rfl ?_
      refine lm (v := .int .i64 0) rfl rfl ?_
      refine lm (v := .int .i64 0) rfl rfl ?_
      refine lm (v := .bool true) rfl rfl ?_
      refine lm (v := .bool true) rfl rfl ?_
      refine lm (v := .bool true) rfl rfl ?_
      refine lm (v := .int .i64 20) rfl rfl ?_
      refine lm (v := .int .i64 20) rfl rfl ?_
      refine lm (v := .bool true) rfl rfl ?_
      refine lm (v := .bool true) rfl rfl ?_
      refine lm (v := .bool true) rfl rfl ?_
      refine wpL_done (fun W6 hW6 => ?_)
      clear hW5
      refine (show Code.wp _ _ _ _ _ from ?_)
      refine wp_ret ?_
      try simp only [inBlock_ret, then_ret]
      go_ret
      exact ⟨rfl, hW6.1⟩
set_option maxRecDepth 100000 in
set_option maxHeartbeats 2000000 in
theorem ClockTexts_law (w : World) (hE : Env w) (n : Int) (_ : -9223372036854775808 ≤ n ∧ n ≤ 9223372036854775807) (l : List UInt8) (hl : l.length ≤ 281474976710656) : Calls Tryd.prog 6 #[.int .i64 n, strV l] w fun e w' => e = .returned (.bool true) ∧ Below w.heap.size w w' := by
  have HE := Lib.hid hE
  clear hE
  go_enter Tryd.func6, Tryd.ntmps6
  refine wp_seq ?_
  refine wp_region_L (W0 := w) [] (KS.start w) ?_
  refine lm (v := .bool false) rfl rfl ?_
  refine wpL_done (fun W1 hW1 => ?_)
  refine (show Code.wp _ _ _ _ _ from ?_)
  refine wp_seq ?_
  refine wp_region_L (W0 := w) [] (hW1) ?_
  refine lm (v := .int .i64 n) rfl rfl ?_
  refine lm (v := strV l) rfl rfl ?_
  refine lv (v := .bool true) rfl rfl (yb_call (f := 18) (args := #[.int .i64 n, strV l]) (fun _ => by kernel_rfl) fun W hW => texts_any n l hl W (HE.out.keep hW.1)) ?_
  refine lm (v := .bool true) rfl rfl ?_
  refine lv (v := .bool true) rfl rfl (yb_call (f := 15) (args := #[]) (fun _ => by kernel_rfl) fun W hW => awake_any W (HE.out.keep hW.1)) ?_
  refine lm (v := .bool true) rfl rfl ?_
  refine lm (v := .bool true) rfl rfl ?_
  refine wpL_done (fun W2 hW2 => ?_)
  clear hW1
  refine (show Code.wp _ _ _ _ _ from ?_)
  refine wp_ret ?_
  try simp only [inBlock_ret, then_ret]
  go_ret
  exact ⟨rfl, hW2.1⟩
end Go.Proofs.YtjmcelgdjpdacaaDoor
/- Rows whose texts are of a size. -/
namespace Go.Proofs.YtjmcelgdjpdacaaDoor
open Go.ChangeShapes Go.WideShapes Go.ChangeAt Go.RowKit Tw
open Go
theorem handed_and_sized {H : Type} {enc : TypeId × Value → H} {a : Assume} {C : Checked} {os : Os} {f : FuncId} {fn : Func} {s : ChangeSpec} {conds : List PathCond} {apart fresh handsOn again : Bool} {X : World → Prop}
    (hX : ∀ (w w' : World), w.heap = w'.heap → X w → X w')
    (own : ownKnob C.prog.godebug = none) (started : os.Started) (noInit : C.prog.inits.idxOf? f = none) (hfn : C.prog.funcs[f]? = some fn)
    (witness : ∃ (w : World) (tape : Tape) (i : Input), w.os = os ∧ (w.forCall tape i).Shaped C.prog ∧ i.vars = [] ∧ Input.okWide C.prog (w.forCall tape i) .any w.heap.size f i ∧
      ((s.pre enc C.prog fn conds apart (w.forCall tape i).memory i.args ∧ X (w.forCall tape i).memory) ∧ sizedMet enc C.prog fn (OpenSpec.ofChange s) apart (w.forCall tape i).memory i.args) ∧ a.holds C.prog (lone (Frame.enter C.prog f i.args .normal) [] (w.forCall tape i)))
    (contract : ∀ (W : World) (base : Nat) (args : Array Value) (ds gs : List (DataW H)) (before : List MemPlace),
      (∀ (j : Nat) t v, fn.params[j]? = some t → args[j]? = some v → Value.okWide C.prog W .any base t v) →
      DataW.Whole enc C.prog fn.params.toList s.vars apart W args.toList ds gs before → X W → W.ShapedOpen C.prog →
      (DataW.weightsEach C.prog (fn.params.toList ++ s.plain.varTypes C.prog) (ds ++ gs)).all (· ≤ reachBytes) = true →
      Calls C.prog f args W fun e W' => ∃ v, e = .returned v ∧ s.post enc C.prog fn apart fresh handsOn again W args v W') :
    ReturnsInHanded a C os f .any (fun w args => (s.pre enc C.prog fn conds apart w args ∧ X w) ∧ sizedMet enc C.prog fn (OpenSpec.ofChange s) apart w args) (s.post enc C.prog fn apart fresh handsOn again) := by
  refine returnsInHanded_of_calls own started noInit witness fun w tape i _ hsh _ hok hpre _ => ?_
  obtain ⟨_, _, _, fn', hfn', _, _, _, _, hval⟩ := hok
  obtain rfl : fn' = fn := Option.some.inj (hfn'.symm.trans hfn)
  obtain ⟨⟨_, hx⟩, _, ds, gs, before, hw, hz⟩ := hpre
  refine (contract (w.forCall tape i) w.heap.size i.args ds gs before hval (DataW.Whole.of_heap (w' := w.forCall tape i) (by rfl) hw) (hX _ _ (by rfl) hx) hsh hz).mono fun e W' ⟨v, he, hp⟩ => ?_
  subst he
  exact ChangeSpec.post_blind hp
end Go.Proofs.YtjmcelgdjpdacaaDoor
/- ClockTexts holds for every input: the program's own answer is true, wherever the listed variables are as the program's text lays them; each argument reads afterwards as it read before. -/
namespace Go.Proofs.YtjmcelgdjpdacaaDoor
open Go.ChangeShapes Go.WideShapes Go.ChangeAt Go.RowKit Tw
set_option maxRecDepth 100000 in
theorem clockTexts_lifted (os : Os) (started : os.Started) (H : Type) (enc : TypeId × Value → H) :
    ReturnsInHanded {} Tryd.checked os 6 .any (fun w args => (Rows.clockTextsSpec.pre enc Tryd.prog Tryd.f6 Rows.clockTextsRow.domain false w args ∧ laidMetH Tryd.prog laid6 w) ∧ sizedMet enc Tryd.prog Tryd.f6 (OpenSpec.ofChange Rows.clockTextsSpec) false w args) (Rows.clockTextsSpec.post enc Tryd.prog Tryd.f6 false true false false) := by
  refine handed_and_sized (C := Tryd.checked) (X := fun w => laidMetH Tryd.prog laid6 w) (fun _ _ hh h => h.of_heap hh) own started (by kernel_rfl) Tryd.func6
    (ChangeSpec.witness_shaped (enc := enc) (C := Tryd.checked) (os := os) (X := fun w _ => laidMetH Tryd.prog laid6 w) false (World.doorLaid Tryd.prog 1000 os) #[.int .i64 0, .string ByteArray.empty] 8 rfl (World.shaped_of_RefB (by kernel_rfl) (by kernel_rfl)) (by kernel_rfl) (by kernel_rfl) (by kernel_rfl) (door_met os _)) ?_
  intro W base args ds gs before hval0 hW hL hsh hsz
  have hval : ∀ (j : Nat) t v, Tryd.f6.params[j]? = some t → args[j]? = some v → Value.okWide Tryd.prog W .any base t v := hval0
  have hW' := hW
  obtain ⟨p, q, hA0, hV, rfl, hfz, hnd⟩ := hW
  have hA : DataW.TrodAll enc Tryd.prog W 0 (fun _ => true) true Tryd.f6.params.toList args.toList ds p := hA0
  rw [Tryd.params6] at hA hval
  obtain ⟨v0, vs0, d0, ds0, p0, q0, hargs, rfl, rfl, h0, r0⟩ := trodAll_cons hA
  obtain ⟨v1, vs1, d1, ds1, p1, q1, rfl, rfl, rfl, h1, r1⟩ := trodAll_cons r0
  obtain ⟨rfl, rfl, rfl⟩ := trodAll_nil r1
  obtain rfl : args = #[v0, v1] := by cases args; simp_all
  obtain ⟨rfl, rfl⟩ := trodVars_none hV
  obtain ⟨a0, rfl, rfl, rfl, w0⟩ := open_int Tryd.underlying3 (hval 0 3 v0 rfl rfl) h0
  have rr0 : -9223372036854775808 ≤ a0 ∧ a0 ≤ 9223372036854775807 := of_wf w0
  obtain ⟨s1, rfl, rfl, rfl, w1⟩ := ChangeMaps.open_string Tryd.underlying9 (hval 1 9 v1 rfl rfl) h1
  have rr1 : s1.data.toList.length ≤ 281474976710656 := by have h1 := sized_string (j := 1) (t := 9) hsz rfl rfl; have h2 := reachBytes_lt; omega
  clear hA0 hval0
  simp only [List.append_nil] at hW'
  refine (ClockTexts_law W (env_of hL hsh) a0 rr0 s1.data.toList rr1).mono fun e W' ⟨he, bel⟩ => ?_
  subst he
  exact ⟨_, rfl, _, _, _, [], [], [], hW', (trodAll_cons_mk (shut_bool Tryd.underlying4 _) trodAll_mk0), (trodAll_cons_mk (shut_int Tryd.underlying3 w0) (trodAll_cons_mk (ChangeMaps.shut_string Tryd.underlying9 w1) trodAll_mk0)), rfl, bel.frame _, fun h => by cases h⟩
theorem clockTexts_said : Rows.ClockTextsSaid :=
  OpenClaim.holds_of_wide 6 Tryd.f6 rfl rfl rfl rfl rfl rfl rfl ⟨rfl, rfl, rfl, rfl, rfl⟩ rfl rfl rfl rfl rfl (by kernel_rfl) Tryd.func6 (by kernel_rfl)
    (of_decide_eq_true (by kernel_rfl)) (by unfold Func.isWrapper; first | (rw [if_pos (by decide +kernel)]; kernel_rfl) | (rw [if_neg (by decide +kernel)]; exact ⟨rfl, rfl⟩))
    (fun os started H enc _ => clockTexts_lifted os started H enc)
theorem clockTexts_proved : Rows.ClockTextsCardSaid :=
  Claim7.holds_tied_plain_at .later [] [.data, .data, .data, .sentinel, .sentinel, .data] true Rows.clockTextsCard.stood.harness true
    clockTexts_said (fun _ h => by cases h) (by kernel_rfl) (fun _ h => by cases h) clockTexts_row_tie rfl ⟨rfl, rfl⟩ (by kernel_rfl) rfl
    (fun f fn hf hfn => by
      obtain rfl : f = 6 := Option.some.inj ((show Tryd.prog.funcNamed "twistlock/twistlocklaw02.ClockTexts" = some 6 by kernel_rfl).symm.trans hf) |>.symm
      obtain rfl : fn = Tryd.f6 := (Option.some.inj (Tryd.func6.symm.trans hfn)).symm
      exact ⟨by kernel_rfl, fun j t ht => by
        rw [Tryd.params6] at ht
        have hm : t ∈ [3, 9] := by simpa using Array.mem_of_getElem? ht
        have hall : ([3, 9].all fun u => !Tryd.prog.wantsStandIn u) = true := by kernel_rfl
        exact (show Tryd.prog.wantsStandIn t = false by simpa using List.all_eq_true.1 hall t hm)⟩)
    (by kernel_rfl)
#print axioms clockTexts_proved
end Go.Proofs.YtjmcelgdjpdacaaDoor

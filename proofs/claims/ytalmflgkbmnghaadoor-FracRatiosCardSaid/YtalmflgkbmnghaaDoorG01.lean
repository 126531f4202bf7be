import Derived.Test.YtalmflgkbmnghaaDoorG00
import Derived.Deep.RegionWith
import Derived.Deep.Cut
/- Part of the proof: Gu, Sl, FSr, Hz, Dl, To, Dv, Qu, Gs, Gc, Ri, Pk, Mu, Pl, Mi, Cm, Ps, Ad, Mg, Of, Rt, Ae, Am. -/
set_option linter.unusedVariables false
set_option linter.unusedSimpArgs false
set_option linter.unusedSectionVars false
namespace Go.Proofs.YtalmflgkbmnghaaDoor
open Go.RowKit Tf

theorem guess_small {l f r t : Nat} (he : l * f + r = t) (hr : 4294967296 ≤ r) (ht : t ≤ f * 4294967296 + 4294967295) : l < 4294967296 := by
  rcases Nat.lt_or_ge l 4294967296 with h | h
  · exact h
  · have := Nat.mul_le_mul_right f h
    omega
theorem guess_over {l r sd u : Nat} (hl : l < 4294967296) (hs : sd < 4294967296) (hr : 4294967296 ≤ r) : ¬ r * 4294967296 + u < l * sd := by
  have : l * sd ≤ 4294967295 * 4294967295 := Nat.mul_le_mul (by omega) (by omega)
  omega
theorem guess_end {p D k l f r t sd u : Nat} (he : l * f + r = t) (hD : D / R k = f * 4294967296 + sd) (hP : p / R k = t * 4294967296 + u) (hf : 1 ≤ f) (hl : l < 4294967296) (hc : ¬ r * 4294967296 + u < l * sd) : l ≤ p / D + 1 :=
  guess_most hl (by rw [hD]; omega) (Nat.le_of_not_lt fun h => hc ((guess_cond he hD hP).2 h))
theorem guess_great {p D k l f r t sd u : Nat} (he : l * f + r = t) (hD : D / R k = f * 4294967296 + sd) (hP : p / R k = t * 4294967296 + u) (hc : r * 4294967296 + u < l * sd) : p / D < l :=
  guess_more ((guess_cond he hD hP).1 hc)
theorem guess_down {l f r t : Nat} (he : l * f + r = t) (hl : 0 < l) : (l - 1) * f + (r + f) = t := by
  obtain ⟨x, rfl⟩ : ∃ x, l = x + 1 := ⟨l - 1, by omega⟩
  rw [Nat.add_sub_cancel]
  rw [Nat.add_mul, Nat.one_mul] at he
  omega

def GuessIs (p D : Nat) (w : World) (e : Ending) (w' : World) : Prop := ∃ l : Nat, p / D ≤ l ∧ l ≤ p / D + 1 ∧ l < 4294967296 ∧ e = .returned (.int .u64 l) ∧ Below w.heap.size w w'

set_option maxRecDepth 20000 in
set_option maxHeartbeats 1000000 in
theorem guess_any (b j d n cap cap' p D : Nat) (hn : 2 ≤ n) (hn8 : n ≤ 8) (hp : p < R (n + 1)) (hD : D < R n) (hDh : 2147483648 * R (n - 1) ≤ D) (hpD : p < D * 4294967296) (w : World)
    (h0 : ∀ i, i ≤ n → w.cell? ⟨b, j + i, none⟩ = some (.int .u32 (dg p i))) (h1 : ∀ i, i < n → w.cell? ⟨d, i, none⟩ = some (.int .u32 (dg D i))) :
    Calls Tryd.prog 75 #[.slice (some ⟨b, j, none⟩) (n + 1) cap, .slice (some ⟨d, 0, none⟩) n cap'] w (GuessIs p D w) := by
  obtain ⟨k, rfl⟩ : ∃ k, n = k + 2 := ⟨n - 2, by omega⟩
  have c0 := h0 k (by omega)
  have c1 := h0 (k + 1) (by omega)
  have c2 := h0 (k + 2) (by omega)
  have d0 := h1 k (by omega)
  have d1 := h1 (k + 1) (by omega)
  clear h0 h1
  have p0 := dg_lt p k
  have p1 := dg_lt p (k + 1)
  have p2 := dg_lt p (k + 2)
  have q0 := dg_lt D k
  have q1 := dg_lt D (k + 1)
  have q2 : 2147483648 ≤ dg D (k + 1) := by
    have h := div_one (x := D) (k := k + 1) hD
    rw [← h, Nat.le_div_iff_mul_le (R_pos _)]
    exact hDh
  have hD0 : 0 < D := by
    have := Nat.mul_le_mul_left 2147483648 (R_pos (k + 1))
    have h2 : 2147483648 * R (k + 1) ≤ D := hDh
    omega
  have hqlt : p / D < 4294967296 := by rw [Nat.div_lt_iff_lt_mul hD0, Nat.mul_comm]; exact hpD
  have hf1 : D / R (k + 1) = dg D (k + 1) := div_one hD
  have hf2 : D / R k = dg D (k + 1) * 4294967296 + dg D k := div_two hD
  have ht1 : p / R (k + 1) = dg p (k + 2) * 4294967296 + dg p (k + 1) := div_two hp
  have ht2 : p / R k = (dg p (k + 2) * 4294967296 + dg p (k + 1)) * 4294967296 + dg p k := div_three hp
  have hp2 : dg p (k + 2) ≤ dg D (k + 1) := by
    have h1 : p / R (k + 2) = dg p (k + 2) := div_one hp
    rw [← h1, ← hf1]
    have h2 : D < (D / R (k + 1) + 1) * R (k + 1) := by
      have := Nat.lt_div_mul_add (a := D) (R_pos (k + 1))
      rw [Nat.add_mul, Nat.one_mul]; omega
    have h3 : p < (D / R (k + 1) + 1) * R (k + 2) := by
      have h4 : R (k + 2) = 4294967296 * R (k + 1) := R_succ (k + 1)
      have h5 : (D / R (k + 1) + 1) * R (k + 2) = (D / R (k + 1) + 1) * R (k + 1) * 4294967296 := by rw [h4]; grind
      have h6 : D * 4294967296 ≤ (D / R (k + 1) + 1) * R (k + 1) * 4294967296 := Nat.mul_le_mul_right _ (Nat.le_of_lt h2)
      omega
    have := (Nat.div_lt_iff_lt_mul (R_pos (k + 2))).2 h3
    omega
  have hfirst : p / D ≤ p / R (k + 1) / (D / R (k + 1)) := guess_first (by rw [hf1]; omega)
  rw [ht1, hf1] at hfirst
  have hor := or64 p1 p2
  obtain ⟨f, hf⟩ : ∃ f, f = dg D (k + 1) := ⟨_, rfl⟩
  obtain ⟨t, ht⟩ : ∃ t, t = dg p (k + 2) * 4294967296 + dg p (k + 1) := ⟨_, rfl⟩
  obtain ⟨sd, hsd⟩ : ∃ sd, sd = dg D k := ⟨_, rfl⟩
  have htb : t ≤ f * 4294967296 + 4294967295 := by omega
  have ht64 : t < 18446744073709551616 := by omega
  rw [← ht] at hor ht2 hfirst
  rw [← hf] at hf2 hfirst q2 q1 d1
  rw [← hsd] at hf2 d0 q0
  have hl0 : t / f ≤ 4294967297 := by
    have : t / f < 4294967298 := by rw [Nat.div_lt_iff_lt_mul (by omega)]; omega
    omega
  have HF2 := Lib.hid hf2
  have HT2 := Lib.hid ht2
  have HQ := Lib.hid hfirst
  have HQL := Lib.hid hqlt
  have HL0 := Lib.hid hl0
  have hf0 : ((f : Int) != 0) = true := by simp; omega
  clear hf2 ht2 hf ht hsd hfirst hqlt hf1 ht1 hl0
  go_enter Tryd.func75, Tryd.ntmps75
  go_wp2
  go_quiet (fail)
  go_wp2
  go_quiet (fail)
  go_wp2
  go_quiet (fail)
  go_wp2
  go_loopw [9, 10] (fun x y wr => ∃ l r : Nat, Hid (l * f + r = t) ∧ Hid (p / D ≤ l) ∧ l ≤ 4294967297 ∧ r < 4294967296 ∧ x = .int .u64 l ∧ y = .int .u64 r ∧ Below w.heap.size w wr) (fun x _ _ => (intOf x).toNat)
  case atStart =>
    have e1 : IntKind.u64.wrap ((t : Int) / (f : Int)) = ((t / f : Nat) : Int) := by
      rw [show (t : Int) / (f : Int) = ((t / f : Nat) : Int) from rfl]
      have := HL0.out
      generalize t / f = v at *
      simp only [IntKind.wrap_u64]; omega
    rw [e1]
    have h1 := Nat.div_add_mod t f
    rw [Nat.mul_comm] at h1
    have h2 := Nat.mod_lt t (show 0 < f by omega)
    exact ⟨t / f, t % f, h1, HQ, HL0.out, by omega, rfl, rfl, belowN (belowN (belowN (Below.refl _ _) _) _) _⟩
  case round =>
    obtain ⟨l, r, he, hql, hl, hr, rfl, rfl, hBw⟩ := hrel
    have cw := (hBw.cell (p := ⟨b, j + k, none⟩) (block_lt_of_cell c0)).trans c0
    clear c0 c1 c2 d0 d1
    have hor2 := or64 p0 hr
    obtain ⟨u, hu⟩ : ∃ u, u = r * 4294967296 + dg p k := ⟨_, rfl⟩
    rw [← hu] at hor2
    have HU := Lib.hid hu
    clear hu
    have hf1 : 1 ≤ f := by omega
    have HTB := Lib.hid htb
    have HF1 := Lib.hid hf1
    have HP0 := Lib.hid p0
    have hl' : (l : Int) ≤ 4294967297 := by omega
    have hsum : (r : Int) + f < 18446744073709551616 := by omega
    have HSUM : ∀ c : Bool, decide (4294967296 ≤ r + f) = c → Hid (decide ((4294967296 : Int) ≤ (r : Int) + f) = c) := by
      intro c hc; unfold Hid
      have : (4294967296 : Int) ≤ (r : Int) + f ↔ 4294967296 ≤ r + f := by omega
      simp only [this, hc]
    clear hor htb ht64 q2 p1 p2 hp2 hf1
    by_cases hB : 4294967296 ≤ l
    · have h1 : Hid (decide ((4294967296 : Int) ≤ l) = true) := by unfold Hid; simp; omega
      have HG : Hid (p / D ≤ l - 1) := Nat.le_sub_one_of_lt (Nat.lt_of_lt_of_le HQL.out hB)
      have HE : Hid ((l - 1) * f + (r + f) = t) := guess_down he.out (by omega)
      have hlp : (1 : Int) ≤ l := by omega
      have HL : Hid (l - 1 ≤ 4294967297) := by unfold Hid; omega
      clear hB hl hor2 HU
      by_cases hb : 4294967296 ≤ r + f
      · have h2 := HSUM true (by simpa using hb)
        have HBB := Lib.hid hb
        clear HSUM hb
        go_wp2_with (first | (refine wpList_geq rfl true rfl rfl rfl h1.out ?_) | (refine wpList_geq rfl true rfl rfl rfl h2.out ?_; go_simp))
        go_ret
        have hs := guess_small HE.out HBB.out HTB.out
        exact ⟨l - 1, HG.out, guess_end HE.out HF2.out HT2.out HF1.out hs (guess_over hs q0 HBB.out), hs, ret_int (by omega), hBw⟩
      · have h2 := HSUM false (by simpa using hb)
        have HBB : Hid (r + f < 4294967296) := by unfold Hid; omega
        clear HSUM hb
        go_wp2_with (first | (refine wpList_geq rfl true rfl rfl rfl h1.out ?_) | (refine wpList_geq rfl false rfl rfl rfl h2.out ?_; go_simp))
        go_roundw
        case rel => first | exact ⟨l - 1, r + f, HE, HG, HL.out, HBB.out, congrArg (Value.int .u64) (by omega), congrArg (Value.int .u64) (by omega), hBw⟩ | ((repeat apply Exists.intro); exact ⟨⟨l - 1, r + f, HE, HG, HL.out, HBB.out, congrArg (Value.int .u64) (by omega), congrArg (Value.int .u64) (by omega), hBw⟩, rfl⟩)
        case measure => (simp [intOf] <;> omega)
    · have hl32 : l < 4294967296 := by omega
      have h1 : Hid (decide ((4294967296 : Int) ≤ l) = false) := by unfold Hid; simp; omega
      obtain ⟨b4, b5⟩ := mulbd hl32 q0
      have HL32 := Lib.hid hl32
      have HQ0 := Lib.hid q0
      clear hB hl hl32 q0
      by_cases hc : u < l * sd
      · have hc1 : ((u : Nat) : Int) < (l : Int) * sd := by
          rw [show (l : Int) * sd = ((l * sd : Nat) : Int) from by simp]; omega
        have hgr : p / D < l := guess_great he.out HF2.out HT2.out (by rw [← HU.out]; exact hc)
        have hl0 : 0 < l := Nat.lt_of_le_of_lt (Nat.zero_le _) hgr
        have HG : Hid (p / D ≤ l - 1) := Nat.le_sub_one_of_lt hgr
        have HE : Hid ((l - 1) * f + (r + f) = t) := guess_down he.out hl0
        have hlp : (1 : Int) ≤ l := by omega
        have HL : Hid (l - 1 ≤ 4294967297) := by unfold Hid; omega
        clear hc hgr hl0 HU
        by_cases hb : 4294967296 ≤ r + f
        · have h2 := HSUM true (by simpa using hb)
          have HBB := Lib.hid hb
          clear HSUM hb
          go_wp2_with (first | (refine wpList_geq rfl false rfl rfl rfl h1.out ?_) | (refine wpList_geq rfl true rfl rfl rfl h2.out ?_; go_simp))
          go_ret
          have hs := guess_small HE.out HBB.out HTB.out
          exact ⟨l - 1, HG.out, guess_end HE.out HF2.out HT2.out HF1.out hs (guess_over hs HQ0.out HBB.out), hs, ret_int (by omega), hBw⟩
        · have h2 := HSUM false (by simpa using hb)
          have HBB : Hid (r + f < 4294967296) := by unfold Hid; omega
          clear HSUM hb
          go_wp2_with (first | (refine wpList_geq rfl false rfl rfl rfl h1.out ?_) | (refine wpList_geq rfl false rfl rfl rfl h2.out ?_; go_simp))
          go_roundw
          case rel => first | exact ⟨l - 1, r + f, HE, HG, HL.out, HBB.out, congrArg (Value.int .u64) (by omega), congrArg (Value.int .u64) (by omega), hBw⟩ | ((repeat apply Exists.intro); exact ⟨⟨l - 1, r + f, HE, HG, HL.out, HBB.out, congrArg (Value.int .u64) (by omega), congrArg (Value.int .u64) (by omega), hBw⟩, rfl⟩)
          case measure => (simp [intOf] <;> omega)
      · have hc1 : decide (((u : Nat) : Int) < (l : Int) * sd) = false := by
          rw [show (l : Int) * sd = ((l * sd : Nat) : Int) from by simp]; simp; omega
        have HN : Hid (¬ r * 4294967296 + dg p k < l * sd) := by unfold Hid; rw [← HU.out]; exact hc
        clear hc HSUM HU
        go_wp2_with (first | (refine wpList_geq rfl false rfl rfl rfl h1.out ?_))
        go_ret
        exact ⟨l, hql.out, guess_end he.out HF2.out HT2.out HF1.out HL32.out HN.out, HL32.out, rfl, hBw⟩
end Go.Proofs.YtalmflgkbmnghaaDoor
namespace Go.Proofs.YtalmflgkbmnghaaDoor
open Go.RowKit Tf

theorem two_split {s : Nat} (hs : s < 32) : 2 ^ s * 2 ^ (32 - s) = 4294967296 := by
  rw [← Nat.pow_add, show s + (32 - s) = 32 from by omega]
theorem shl_facts {x s c : Nat} (hs : s < 32) (hx : x < 4294967296) (hc : c < 2 ^ s) :
    bits .or .u32 ((x : Int) * 2 ^ s % 4294967296) (c : Int) = (((x * 2 ^ s + c) % 4294967296 : Nat) : Int) ∧
    IntKind.u64.wrap ((x : Int) * 2 ^ s) / 4294967296 % 4294967296 = (((x * 2 ^ s + c) / 4294967296 : Nat) : Int) ∧ (x * 2 ^ s + c) / 4294967296 < 2 ^ s := by
  have hzy := two_split hs
  have e : ((2 : Int) ^ s) = ((2 ^ s : Nat) : Int) := by simp
  have hor := fun a => Nat.two_pow_add_eq_or_of_lt (i := s) (b := c) hc a
  have hz : 0 < 2 ^ s := Nat.pow_pos (by omega)
  have hy : 0 < 2 ^ (32 - s) := Nat.pow_pos (by omega)
  rw [e]
  generalize 2 ^ s = z at *
  generalize 2 ^ (32 - s) = y at *
  have hxz : x * z % 4294967296 = z * (x % y) := by rw [← hzy, Nat.mul_comm x z, Nat.mul_mod_mul_left]
  have hr : x % y < y := Nat.mod_lt _ hy
  have hlt : z * (x % y) + c < 4294967296 := by
    have : z * (x % y + 1) ≤ z * y := Nat.mul_le_mul_left _ hr
    rw [Nat.mul_add, Nat.mul_one, hzy] at this
    omega
  have hdm := Nat.div_add_mod x y
  have hs : x * z + c = 4294967296 * (x / y) + (z * (x % y) + c) := by
    rw [← hzy]
    have : x * z = (y * (x / y) + x % y) * z := by rw [hdm]
    rw [this]; grind
  have h1 : (x * z + c) % 4294967296 = z * (x % y) + c := by rw [hs, Nat.mul_add_mod, Nat.mod_eq_of_lt hlt]
  have h2 : (x * z + c) / 4294967296 = x / y := by rw [hs, Nat.mul_add_div (by omega), Nat.div_eq_of_lt hlt, Nat.add_zero]
  have h3 : x / y < z := by rw [Nat.div_lt_iff_lt_mul hy, hzy]; exact hx
  have h4 : x * z / 4294967296 = x / y := by
    rw [← hzy, Nat.mul_comm x z, Nat.mul_div_mul_left _ _ hz]
  have hzl : z ≤ 4294967296 := by
    have : z * 1 ≤ z * y := Nat.mul_le_mul_left _ hy
    omega
  have hxz2 : x * z < 18446744073709551616 := by
    have : x * z ≤ 4294967295 * 4294967296 := Nat.mul_le_mul (by omega) hzl
    omega
  refine ⟨?_, ?_, by rw [h2]; exact h3⟩
  · rw [show ((x : Int) * (z : Int)) % 4294967296 = ((x * z % 4294967296 : Nat) : Int) from by simp, hxz, u32_or_nat _ _ (by omega) (by omega), h1, ← hor]
  · rw [h2, show ((x : Int) * (z : Int)) = ((x * z : Nat) : Int) from by simp]
    simp only [IntKind.wrap_u64]
    rw [← h4]
    omega

set_option maxRecDepth 100000 in
set_option maxHeartbeats 1000000 in
theorem shiftLeft_any (b n cap s P T : Nat) (hn : n ≤ 18) (hs : s < 32) (hP : P * 2 ^ s < R n) (w : World) (h0 : w.heap[b]? = some (.cells (fa n (dg P)) T (0, 0))) :
    Calls Tryd.prog 73 #[.slice (some ⟨b, 0, none⟩) n cap, .int .i64 s] w fun e w' => e = .returned (.tuple #[]) ∧ w'.heap[b]? = some (.cells (fa n (dg (P * 2 ^ s))) T (0, 0)) ∧ w.grownBy w' (some b) := by
  have hs32 : (s : Int) < 32 := by omega
  have hs0 : (0 : Int) ≤ s := by omega
  have H0 := Lib.hid h0
  clear h0
  go_enter Tryd.func73, Tryd.ntmps73
  go_wp2
  go_loopw [4, 9] (fun c i wr => ∃ k c0 P' : Nat, k ≤ n ∧ c0 < 2 ^ s ∧ Hid (P' + c0 * R k = (P % R k) * 2 ^ s + 0 + P / R k * R k) ∧ Hid (P' / R k = P / R k) ∧ P' < R n ∧ c = .int .u32 c0 ∧ i = .int .i64 k ∧ w.grownBy wr (some b) ∧
      wr.heap[b]? = some (.cells (fa n (dg P')) T (0, 0)))
    (fun _ i _ => n - (intOf i).toNat)
  case atStart =>
    have hz : 0 < 2 ^ s := Nat.pow_pos (by omega)
    refine ⟨0, 0, P, Nat.zero_le _, hz, ?_, rfl, ?_, rfl, rfl, World.grownBy.refl w _, H0.out⟩
    · unfold Hid; rw [R_zero, Nat.mod_one, Nat.zero_mul, Nat.div_one]; omega
    · have : P * 1 ≤ P * 2 ^ s := Nat.mul_le_mul_left _ hz
      omega
  case round =>
    obtain ⟨k, c0, P', hk, hc, he, hd, hP', rfl, rfl, hB, e0⟩ := hrel
    by_cases hlt : k < n
    · have h1 := blk_cell e0 hlt
      have h3 : wr.frozen? ⟨b, k, none⟩ = false := blk_free e0
      have b1 := dg_lt P' k
      have E0 := Lib.hid e0
      clear e0
      go_wp2
      go_roundw
      case rel =>
        obtain ⟨f1, f2, f3⟩ := shl_facts hs b1 hc
        rw [f1, f2]
        have hda : dg P' k = dg P k := by unfold dg; rw [hd.out]
        have hv : (dg P' k * 2 ^ s + c0) % 4294967296 < 4294967296 := Nat.mod_lt _ (by omega)
        refine ⟨k + 1, (dg P' k * 2 ^ s + c0) / 4294967296, setd P' k ((dg P' k * 2 ^ s + c0) % 4294967296), by omega, f3, ?_, ?_, setd_lt hP' hlt hv, rfl, by go_num, ?_, ?_⟩
        · exact scale_step he.out hda (by omega)
        · unfold Hid; rw [setd_div _ _ _ hv]
          have h1 := div_succ P' k
          have h2 := div_succ P k
          have h3 := hd.out
          omega
        · exact only_setCell hB _
        · exact blk_set E0.out hlt hv
      case measure => (simp [intOf] <;> omega)
    · obtain rfl : k = n := by omega
      have hfin : P' = P * 2 ^ s := by
        have h := he.out
        have hPk : P < R k := by
          have : P * 1 ≤ P * 2 ^ s := Nat.mul_le_mul_left _ (Nat.pow_pos (by omega))
          omega
        rw [Nat.mod_eq_of_lt hPk, Nat.div_eq_of_lt hPk] at h
        have h0 := R_pos k
        rcases Nat.eq_zero_or_pos c0 with h1 | h1
        · subst h1; omega
        · have : 1 * R k ≤ c0 * R k := Nat.mul_le_mul_right _ h1
          omega
      have HF := Lib.hid hfin
      clear hfin
      have E0 := Lib.hid e0
      clear e0 he hd
      go_wp2
      go_end0
      exact ⟨rfl, by rw [← HF.out]; exact E0.out, hB⟩
end Go.Proofs.YtalmflgkbmnghaaDoor
namespace Go.Proofs.YtalmflgkbmnghaaDoor
open Go.RowKit Tf

theorem shr_facts {x s H : Nat} (hs : s < 32) (hx : x < 4294967296) :
    bits .or .u32 ((x : Int) / 2 ^ s) ((H % 2 ^ s * 2 ^ (32 - s) : Nat) : Int) = ((H % 2 ^ s * 2 ^ (32 - s) + x / 2 ^ s : Nat) : Int) ∧
    (x : Int) * 4294967296 / 2 ^ s % 4294967296 = ((x % 2 ^ s * 2 ^ (32 - s) : Nat) : Int) ∧ H % 2 ^ s * 2 ^ (32 - s) + x / 2 ^ s < 4294967296 ∧
    (H * 4294967296 + x) / 2 ^ s = H / 2 ^ s * 4294967296 + (H % 2 ^ s * 2 ^ (32 - s) + x / 2 ^ s) ∧ (H * 4294967296 + x) % 2 ^ s = x % 2 ^ s := by
  have hzy := two_split hs
  have e : ((2 : Int) ^ s) = ((2 ^ s : Nat) : Int) := by simp
  have hz : 0 < 2 ^ s := Nat.pow_pos (by omega)
  have hy : 0 < 2 ^ (32 - s) := Nat.pow_pos (by omega)
  have hxz : x / 2 ^ s < 2 ^ (32 - s) := by rw [Nat.div_lt_iff_lt_mul hz, Nat.mul_comm, hzy]; exact hx
  have hor := Nat.two_pow_add_eq_or_of_lt (i := 32 - s) (b := x / 2 ^ s) hxz (H % 2 ^ s)
  rw [e]
  generalize 2 ^ s = z at *
  generalize 2 ^ (32 - s) = y at *
  have hr : H % z < z := Nat.mod_lt _ hz
  have hlt : H % z * y + x / z < 4294967296 := by
    have : (H % z + 1) * y ≤ z * y := Nat.mul_le_mul_right _ hr
    rw [Nat.add_mul, Nat.one_mul, hzy] at this
    omega
  have hdm := Nat.div_add_mod H z
  have hE : H * 4294967296 + x = z * (H * y) + x := by rw [← hzy]; grind
  have hA : x / z < 4294967296 := Nat.lt_of_le_of_lt (Nat.le_add_left _ _) hlt
  have hC : H % z * y < 4294967296 := Nat.lt_of_le_of_lt (Nat.le_add_right _ _) hlt
  refine ⟨?_, ?_, hlt, ?_, ?_⟩
  · rw [show (x : Int) / (z : Int) = ((x / z : Nat) : Int) from rfl, u32_or_nat _ _ hA hC, Nat.or_comm, Nat.mul_comm (H % z) y, hor]
  · have h1 : x * 4294967296 / z % 4294967296 = x % z * y := by
      rw [← hzy, Nat.mul_comm x (z * y), Nat.mul_assoc, Nat.mul_div_cancel_left _ hz, Nat.mul_comm y x, Nat.mul_mod_mul_right]
    rw [← h1]; rfl
  · rw [hE, Nat.mul_add_div hz]
    have : H * y = (z * (H / z) + H % z) * y := by rw [hdm]
    rw [this, ← hzy]; grind
  · rw [hE, Nat.mul_add_mod]

set_option maxRecDepth 100000 in
set_option maxHeartbeats 1000000 in
theorem shiftRight_any (b n cap s P T : Nat) (hn : n ≤ 18) (hs : s < 32) (hP : P < R n) (w : World) (h0 : w.heap[b]? = some (.cells (fa n (dg P)) T (0, 0))) :
    Calls Tryd.prog 76 #[.slice (some ⟨b, 0, none⟩) n cap, .int .i64 s] w fun e w' => e = .returned (.tuple #[]) ∧ w'.heap[b]? = some (.cells (fa n (dg (P / 2 ^ s))) T (0, 0)) ∧ w.grownBy w' (some b) := by
  have hs32 : (s : Int) < 32 := by omega
  have hs0 : (0 : Int) ≤ s := by omega
  have H0 := Lib.hid h0
  clear h0
  go_enter Tryd.func76, Tryd.ntmps76
  go_wp2
  go_loopw [4, 5] (fun c i wr => ∃ k P' : Nat, k ≤ n ∧ Hid (P' = P / R k / 2 ^ s * R k + P % R k) ∧ P' < R n ∧ c = .int .u32 ((P / R k % 2 ^ s * 2 ^ (32 - s) : Nat) : Int) ∧ i = .int .i64 ((k : Int) - 1) ∧ w.grownBy wr (some b) ∧
      wr.heap[b]? = some (.cells (fa n (dg P')) T (0, 0)))
    (fun _ i _ => (intOf i + 1).toNat)
  case atStart =>
    refine ⟨n, P, Nat.le_refl _, ?_, hP, ?_, rfl, World.grownBy.refl w _, H0.out⟩
    · unfold Hid; rw [Nat.div_eq_of_lt hP, Nat.zero_div, Nat.zero_mul, Nat.mod_eq_of_lt hP, Nat.zero_add]
    · rw [Nat.div_eq_of_lt hP, Nat.zero_mod, Nat.zero_mul]; rfl
  case round =>
    obtain ⟨k, P', hk, he, hP', rfl, rfl, hB, e0⟩ := hrel
    rcases Nat.eq_zero_or_pos k with rfl | hpos
    · have hfin : P' = P / 2 ^ s := by
        have h := he.out
        rwa [R_zero, Nat.div_one, Nat.mod_one, Nat.mul_one, Nat.add_zero] at h
      have HF := Lib.hid hfin
      clear hfin he
      have E0 := Lib.hid e0
      clear e0
      go_wp2
      go_end0
      exact ⟨rfl, by rw [← HF.out]; exact E0.out, hB⟩
    · obtain ⟨j, rfl⟩ : ∃ j, k = j + 1 := ⟨k - 1, by omega⟩
      have ej : (((j + 1 : Nat) : Int) - 1) = j := by omega
      rw [ej]
      clear ej
      have h1 := blk_cell e0 (i := j) (by omega)
      have h3 : wr.frozen? ⟨b, j, none⟩ = false := blk_free e0
      have b1 := dg_lt P' j
      have hjn : (j : Int) < n := by omega
      obtain ⟨hi, hhi⟩ : ∃ hi, hi = P / R (j + 1) % 2 ^ s * 2 ^ (32 - s) := ⟨_, rfl⟩
      rw [← hhi]
      have HH := Lib.hid hhi
      clear hhi
      have E0 := Lib.hid e0
      clear e0
      go_wp2
      go_roundw
      case rel =>
        obtain ⟨f1, f2, f3, f4, f5⟩ := shr_facts (H := P / R (j + 1)) hs b1
        rw [← HH.out] at f1 f3 f4
        have hda : dg P' j = dg P j := by
          have hm : P' % R (j + 1) = P % R (j + 1) := by
            rw [he.out, Nat.mul_comm, Nat.mul_add_mod, Nat.mod_mod]
          rw [← dg_mod (x := P') (k := j + 1) (by omega), hm, dg_mod (by omega)]
        rw [f1, f2]
        rw [hda] at f1 f2 f3 f4 f5 ⊢
        rw [← div_succ] at f4 f5
        refine ⟨j, setd P' j (hi + dg P j / 2 ^ s), by omega, ?_, setd_lt hP' (by omega) f3, by rw [f5], rfl, only_setCell hB _, blk_set E0.out (by omega) f3⟩
        unfold Hid
        have g1 := setd_eq P' j (hi + dg P j / 2 ^ s)
        have g2 := he.out
        have g3 := mod_succ P j
        rw [hda] at g1
        rw [f4]
        have g4 : (P / R (j + 1) / 2 ^ s * 4294967296 + (hi + dg P j / 2 ^ s)) * R j = P / R (j + 1) / 2 ^ s * R (j + 1) + (hi + dg P j / 2 ^ s) * R j := by
          rw [R_succ]; grind
        omega
      case measure => (simp [intOf] <;> omega)
end Go.Proofs.YtalmflgkbmnghaaDoor
/- What the proofs ask of math/bits.LeadingZeros32; the shelf's contract gives it (Si). -/
namespace Go.Proofs.YtalmflgkbmnghaaDoor
open Go.RowKit Tf
class ShLZ : Prop where
  lz : ∀ (x : Nat), x < 4294967296 → 0 < x → ∀ w : World, Calls Tryd.prog 72 #[.int .u32 x] w fun e w' => (∃ s : Nat, s < 32 ∧ e = .returned (.int .i64 s) ∧ x * 2 ^ s < 4294967296 ∧ 2147483648 ≤ x * 2 ^ s) ∧ w = w'
end Go.Proofs.YtalmflgkbmnghaaDoor
namespace Go.Proofs.YtalmflgkbmnghaaDoor
open Go.RowKit Tf
variable [ShLZ]

theorem lz_any (x : Nat) (hx : x < 4294967296) (h0 : 0 < x) (w : World) :
    Calls Tryd.prog 72 #[.int .u32 x] w fun e w' => (∃ s : Nat, s < 32 ∧ e = .returned (.int .i64 s) ∧ x * 2 ^ s < 4294967296 ∧ 2147483648 ≤ x * 2 ^ s) ∧ w = w' := ShLZ.lz x hx h0 w
theorem long_end {a b z Q A : Nat} (hz : 0 < z) (hA : A < b * z) (h : a * z = Q * (b * z) + A) : Q = a / b ∧ A / z = a % b := by
  have hb : 0 < b := by
    rcases Nat.eq_zero_or_pos b with e | e
    · subst e; omega
    · exact e
  have h1 : A % z = 0 := by
    have h2 : (Q * (b * z) + A) % z = 0 := by rw [← h, Nat.mul_mod_left]
    have h3 : Q * (b * z) = z * (Q * b) := by grind
    rwa [h3, Nat.mul_add_mod] at h2
  have h2 := Nat.div_add_mod A z
  rw [h1, Nat.add_zero] at h2
  generalize A / z = r at *
  subst h2
  have h3 : z * a = z * (Q * b + r) := by
    have : Q * (b * z) + z * r = z * (Q * b + r) := by grind
    rw [← this, ← h, Nat.mul_comm]
  have h4 : a = Q * b + r := Nat.eq_of_mul_eq_mul_left hz h3
  have h5 : r < b := by
    have : z * r < z * b := by rw [Nat.mul_comm z b]; exact hA
    exact Nat.lt_of_mul_lt_mul_left this
  subst h4
  refine ⟨?_, ?_⟩
  · rw [Nat.mul_comm, Nat.mul_add_div hb, Nat.div_eq_of_lt h5, Nat.add_zero]
  · rw [Nat.mul_comm, Nat.mul_add_mod, Nat.mod_eq_of_lt h5]
theorem long_quot {Q D A A0 j q A' : Nat} (h0 : A0 = Q * D + A) (hm : Q % R (j + 1) = 0) (hA : A = q * (D * R j) + A') : A0 = setd Q j q * D + A' ∧ setd Q j q % R j = 0 := by
  have hd : dg Q j = 0 := by rw [← dg_mod (x := Q) (k := j + 1) (by omega), hm]; simp [dg]
  have h1 := setd_eq Q j q
  rw [hd, Nat.zero_mul, Nat.add_zero] at h1
  refine ⟨?_, ?_⟩
  · rw [h1, h0, hA]; grind
  · rw [setd_mod, ← Nat.mod_mod_of_dvd Q (show R j ∣ R (j + 1) from ⟨4294967296, by rw [R_succ, Nat.mul_comm]⟩), hm, Nat.zero_mod]

theorem shifted {b n s : Nat} (hb : b < R (n + 1)) (hs : s < 32) (h1 : dg b n * 2 ^ s < 4294967296) (h2 : 2147483648 ≤ dg b n * 2 ^ s) : b * 2 ^ s < R (n + 1) ∧ 2147483648 * R n ≤ b * 2 ^ s := by
  have hzy := two_split hs
  have hz : 0 < 2 ^ s := Nat.pow_pos (by omega)
  have hd : b / R n = dg b n := div_one hb
  have hdm := Nat.div_add_mod b (R n)
  have hm := mod_lt_R b n
  rw [hd] at hdm
  generalize 2 ^ s = z at *
  generalize 2 ^ (32 - s) = y at *
  generalize dg b n = x at *
  have hxy : x < y := by
    rcases Nat.lt_or_ge x y with h | h
    · exact h
    · have : y * z ≤ x * z := Nat.mul_le_mul_right _ h
      rw [Nat.mul_comm y z, hzy] at this
      omega
  refine ⟨?_, ?_⟩
  · have h3 : b < (x + 1) * R n := by rw [Nat.add_mul, Nat.one_mul, Nat.mul_comm x]; omega
    have h4 : b * z < (x + 1) * R n * z := Nat.mul_lt_mul_of_pos_right h3 hz
    have h5 : (x + 1) * z ≤ y * z := Nat.mul_le_mul_right _ hxy
    have h6 : (x + 1) * z * R n ≤ y * z * R n := Nat.mul_le_mul_right _ h5
    have h7 : (x + 1) * R n * z = (x + 1) * z * R n := by rw [Nat.mul_assoc, Nat.mul_comm (R n), ← Nat.mul_assoc]
    rw [Nat.mul_comm y z, hzy] at h6
    rw [R_succ]
    omega
  · have h3 : 2147483648 * R n ≤ x * z * R n := Nat.mul_le_mul_right _ h2
    have h4 : R n * x * z ≤ b * z := Nat.mul_le_mul_right _ (by omega)
    have h5 : x * z * R n = R n * x * z := by rw [Nat.mul_comm (x * z), Nat.mul_assoc]
    omega

set_option maxRecDepth 100000 in
set_option maxHeartbeats 2000000 in
theorem divideLong_any (a b m n : Nat) (ha : a < R m) (hm : m ≤ 17) (hb : b < R (n + 1)) (hn : 1 ≤ n) (hn8 : n ≤ 7) (hbn : dg b n ≠ 0) (w : World) :
    Calls Tryd.prog 55 #[wid a, num b, .int .i64 m, .int .i64 ((n : Int) + 1)] w fun e w' => e = .returned (.tuple #[wid (a / b), num (a % b)]) ∧ Below w.heap.size w w' := by
  unfold num wid
  have hx0 : 0 < dg b n := by omega
  go_enter Tryd.func55, Tryd.ntmps55
  go_upto_region 1 with (fail)
  have hh := heap4 w (.cells (fa 18 (dg a)) 56) (.cells (fa 8 (dg b)) 25) (.cells (fa 18 (fun _ => 0)) 56) (.cells (fa 8 (fun _ => 0)) 25)
  have hB := below4 w (.cells (fa 18 (dg a)) 56) (.cells (fa 8 (dg b)) 25) (.cells (fa 18 (fun _ => 0)) 56) (.cells (fa 8 (fun _ => 0)) 25)
  obtain ⟨W, hW⟩ : ∃ W, W = (((w.alloc (.cells (fa 18 (dg a)) 56)).alloc (.cells (fa 8 (dg b)) 25)).alloc (.cells (fa 18 (fun _ => 0)) 56)).alloc (.cells (fa 8 (fun _ => 0)) 25) := ⟨_, rfl⟩
  rw [← hW] at hh hB
  rw [fa_zero18, fa_zero8] at hW
  rw [← hW]
  clear hW
  obtain ⟨e0, e1, e2, e3⟩ := hh
  have c1 := blk_cell e1 (i := n) (by omega)
  have hn8' : (n : Int) < 8 := by omega
  have E0 := Lib.hid e0
  have E1 := Lib.hid e1
  have E2 := Lib.hid e2
  have E3 := Lib.hid e3
  clear e0 e1 e2 e3
  go_wp2_with fail
  refine (lz_any _ (dg_lt b n) hx0 _).mono ?_
  rintro e w' ⟨⟨s, hs, rfl, hs1, hs2⟩, rfl⟩
  obtain ⟨hD, hDh⟩ := shifted hb hs hs1 hs2
  clear c1 hs1 hs2
  go_wp2_with fail
  have ha18 : a * 2 ^ s < R 18 := by
    have hz : 2 ^ s ≤ 4294967296 := by
      have := two_split hs
      have h2 : 2 ^ s * 1 ≤ 2 ^ s * 2 ^ (32 - s) := Nat.mul_le_mul_left _ (Nat.pow_pos (by omega))
      omega
    have h1 : a * 2 ^ s ≤ a * 4294967296 := Nat.mul_le_mul_left _ hz
    have h2 : R (17 + 1) = 4294967296 * R 17 := R_succ 17
    have h3 : a < R 17 := lt_R_of_le ha hm
    have h4 : R 18 = 4294967296 * R 17 := h2
    omega
  refine (shiftLeft_any _ 18 18 s a 56 (by omega) hs ha18 W E0.out).mono ?_
  rintro e W1 ⟨rfl, f0, hg1⟩
  have f1 := (hg1.block (w.heap.size + 1) (lt_of_block E1.out) (by simp)).trans E1.out
  have f2 := (hg1.block (w.heap.size + 1 + 1) (lt_of_block E2.out) (by simp; omega)).trans E2.out
  have f3 := (hg1.block (w.heap.size + 1 + 1 + 1) (lt_of_block E3.out) (by simp; omega)).trans E3.out
  have hB1 : Below w.heap.size w W1 := hB.grown hg1 (Nat.le_of_lt (lt_of_block E0.out)) (by simp)
  have F0 := Lib.hid f0
  have F1 := Lib.hid f1
  have F2 := Lib.hid f2
  have F3 := Lib.hid f3
  clear f0 f1 f2 f3 E0 E1 E2 E3 hB hg1
  go_wp2_with fail
  refine (shiftLeft_any _ 8 8 s b 25 (by omega) hs (lt_R_of_le hD (by omega)) W1 F1.out).mono ?_
  rintro e W2 ⟨rfl, f1, hg1⟩
  have f0 := (hg1.block w.heap.size (lt_of_block F0.out) (by simp)).trans F0.out
  have f2 := (hg1.block (w.heap.size + 1 + 1) (lt_of_block F2.out) (by simp)).trans F2.out
  have f3 := (hg1.block (w.heap.size + 1 + 1 + 1) (lt_of_block F3.out) (by simp; omega)).trans F3.out
  have hB2 : Below w.heap.size w W2 := hB1.grown hg1 (Nat.le_of_lt (Nat.lt_trans (Nat.lt_succ_self _) (lt_of_block F1.out))) (by simp)
  have E0 := Lib.hid f0
  have E1 := Lib.hid f1
  have E2 := Lib.hid f2
  have E3 := Lib.hid f3
  clear f0 f1 f2 f3 F0 F1 F2 F3 hB1 hg1
  go_wp2_with fail
  have hlt3 := lt_of_block E3.out
  have hBg : Below w.heap.size w (W2.alloc (.cells (fa 18 (fun _ => 0)) 56)) := hB2.alloc hB2.size _
  have f0 := (Below.heap_alloc W2 (.cells (fa 18 (fun _ => 0)) 56) _ (lt_of_block E0.out)).trans E0.out
  have f1 := (Below.heap_alloc W2 (.cells (fa 18 (fun _ => 0)) 56) _ (lt_of_block E1.out)).trans E1.out
  have f2 := (Below.heap_alloc W2 (.cells (fa 18 (fun _ => 0)) 56) _ (lt_of_block E2.out)).trans E2.out
  have f3 := (Below.heap_alloc W2 (.cells (fa 18 (fun _ => 0)) 56) _ (lt_of_block E3.out)).trans E3.out
  have f4 := heap1 W2 (.cells (fa 18 (fun _ => 0)) 56)
  obtain ⟨W, hW⟩ : ∃ W, W = W2.alloc (.cells (fa 18 (fun _ => 0)) 56) := ⟨_, rfl⟩
  rw [← hW] at f0 f1 f2 f3 f4 hBg
  rw [fa_zero18] at hW
  rw [← hW]
  clear hW E0 E1 E2 E3 hB2
  have hg3 : w.heap.size + 1 + 1 + 1 < W2.heap.size := hlt3
  clear hlt3
  generalize W2.heap.size = g at *
  have hD0 : 0 < b * 2 ^ s := by
    have := R_pos n
    omega
  have hrel0 : Hid (a * 2 ^ s < b * 2 ^ s * R (((m : Int) - ((n : Int) + 1) + 1).toNat)) := by
    have hz : 0 < 2 ^ s := Nat.pow_pos (by omega)
    have hbR : R n ≤ b := by
      have h1 := Nat.div_add_mod b (R n)
      have h2 : b / R n = dg b n := div_one hb
      rw [h2] at h1
      have h3 : R n * 1 ≤ R n * dg b n := Nat.mul_le_mul_left _ hx0
      omega
    unfold Hid
    rcases Nat.lt_or_ge n m with h | h
    · rw [show ((m : Int) - ((n : Int) + 1) + 1).toNat = m - n from by omega]
      have h1 : R m = R n * R (m - n) := by rw [← R_add, show n + (m - n) = m from by omega]
      have h2 : a * 2 ^ s < R m * 2 ^ s := Nat.mul_lt_mul_of_pos_right ha hz
      have h3 : R n * (2 ^ s * R (m - n)) ≤ b * (2 ^ s * R (m - n)) := Nat.mul_le_mul_right _ hbR
      rw [h1] at h2
      have h4 : R n * R (m - n) * 2 ^ s = R n * (2 ^ s * R (m - n)) := by rw [Nat.mul_assoc, Nat.mul_comm (R (m - n))]
      have h5 : b * 2 ^ s * R (m - n) = b * (2 ^ s * R (m - n)) := Nat.mul_assoc _ _ _
      omega
    · rw [show ((m : Int) - ((n : Int) + 1) + 1).toNat = 0 from by omega, R_zero, Nat.mul_one]
      exact Nat.mul_lt_mul_of_pos_right (Nat.lt_of_lt_of_le (lt_R_of_le ha h) hbR) hz
  obtain ⟨D, hDD⟩ : ∃ D, D = b * 2 ^ s := ⟨_, rfl⟩
  rw [← hDD] at f1 hrel0 hD0 hD hDh
  have HDD := Lib.hid hDD
  clear hDD
  rw [fa_dg0] at f4
  go_loopw [12] (fun i wr => ∃ (z : Int) (A Q : Nat), i = .int .i64 z ∧ -9 ≤ z ∧ z + n ≤ 16 ∧ Hid (A < D * R (z + 1).toNat) ∧ Hid (a * 2 ^ s = Q * D + A) ∧ Hid (Q % R (z + 1).toNat = 0) ∧ Q < R 18 ∧ A < R 18 ∧ Below w.heap.size w wr ∧
      wr.heap[w.heap.size]? = some (.cells (fa 18 (dg A)) 56 (0, 0)) ∧ wr.heap[w.heap.size + 1]? = some (.cells (fa 8 (dg D)) 25 (0, 0)) ∧ wr.heap[w.heap.size + 1 + 1]? = some (.cells (fa 18 (fun _ => 0)) 56 (0, 0)) ∧
      wr.heap[w.heap.size + 1 + 1 + 1]? = some (.cells (fa 8 (fun _ => 0)) 25 (0, 0)) ∧ wr.heap[g]? = some (.cells (fa 18 (dg Q)) 56 (0, 0)))
    (fun i _ => (intOf i + 1).toNat)
  case atStart =>
    exact ⟨_, a * 2 ^ s, 0, rfl, by omega, by omega, hrel0, by unfold Hid; omega, Nat.zero_mod _, R_pos _, ha18, hBg, f0, f1, f2, f3, f4⟩
  case round =>
    clear f0 f1 f2 f3 f4 hBg hrel0
    obtain ⟨z, A, Q, rfl, hz1, hz2, hA, hQ, hQm, hQ18, hA18, hB, e0, e1, e2, e3, e4⟩ := hrel
    by_cases hz : 0 ≤ z
    · obtain ⟨j, rfl⟩ : ∃ j : Nat, z = j := ⟨z.toNat, by omega⟩
      rw [show ((j : Int) + 1).toNat = j + 1 from by omega] at hA hQm
      have E0 := Lib.hid e0
      have E1 := Lib.hid e1
      have E2 := Lib.hid e2
      have E3 := Lib.hid e3
      have E4 := Lib.hid e4
      clear e0 e1 e2 e3 e4
      have hj18 : (j : Int) + (n : Int) + 2 ≤ 18 := by omega
      have hsl := fun W => run_slice65 w.heap.size j (j + n + 2) (j : Int) ((j : Int) + ((n : Int) + 1) + 1) rfl (by omega) (by omega) (by omega) (by omega) W
      have hsl2 := fun W => run_slice25 (w.heap.size + 1) (n + 1) ((n : Int) + 1) (by omega) (by omega) W
      rw [show j + n + 2 - j = n + 1 + 1 from by omega] at hsl
      have HpR : Hid (A / R j < R (n + 1 + 1)) := by
        unfold Hid
        rw [Nat.div_lt_iff_lt_mul (R_pos j), ← R_add]
        have h1 : D * R (j + 1) ≤ R (n + 1) * R (j + 1) := Nat.mul_le_mul_right _ (Nat.le_of_lt hD)
        rw [← R_add, show n + 1 + (j + 1) = n + 1 + 1 + j from by omega] at h1
        exact Nat.lt_of_lt_of_le hA.out h1
      have HpD : Hid (A / R j < D * 4294967296) := by
        unfold Hid
        rw [Nat.div_lt_iff_lt_mul (R_pos j)]
        have h := hA.out
        rw [R_succ] at h
        rw [Nat.mul_assoc]; exact h
      have HAR : Hid (A < R (j + (n + 1 + 1))) := by
        unfold Hid
        have h1 : D * R (j + 1) ≤ R (n + 1) * R (j + 1) := Nat.mul_le_mul_right _ (Nat.le_of_lt hD)
        rw [← R_add, show n + 1 + (j + 1) = j + (n + 1 + 1) from by omega] at h1
        exact Nat.lt_of_lt_of_le hA.out h1
      have HC0 : Hid (∀ i, i ≤ n + 1 → wr.drew.cell? ⟨w.heap.size, j + i, none⟩ = some (.int .u32 (dg (A / R j) i))) := fun i hi => by
        rw [dg_div]; exact blk_cell (w := wr.drew) E0.out (by omega)
      have HC1 : Hid (∀ i, i < n + 1 → wr.drew.cell? ⟨w.heap.size + 1, i, none⟩ = some (.int .u32 (dg D i))) := fun i hi => blk_cell (w := wr.drew) E1.out (by omega)
      have hne : w.heap.size ≠ w.heap.size + 1 := by omega
      have hj8 : (j : Int) < 18 := by omega
      have HB0 := Lib.hid hB.drew
      go_wp2_with fail
      go_region_with (first
        | (go_at_call 75
           refine (guess_any _ j _ (n + 1) _ _ (A / R j) D (by omega) (by omega) HpR.out hD hDh HpD.out _ HC0.out HC1.out).mono ?_
           rintro e w1 hG
           obtain ⟨l, hl1, hl2, hl32, rfl, hbw⟩ := hG
           have G0 := Lib.hid ((hbw.block _ (lt_of_block E0.out)).trans E0.out)
           have G1 := Lib.hid ((hbw.block _ (lt_of_block E1.out)).trans E1.out)
           have G2 := Lib.hid ((hbw.block _ (lt_of_block E2.out)).trans E2.out)
           have G3 := Lib.hid ((hbw.block _ (lt_of_block E3.out)).trans E3.out)
           have G4 := Lib.hid ((hbw.block _ (lt_of_block E4.out)).trans E4.out)
           have HL1 := Lib.hid hl1
           have HL2 := Lib.hid hl2
           have HB1 := Lib.hid (HB0.out.trans (hbw.mono HB0.out.size))
           clear hl1 hl2 hbw)
        | (go_at_call 74
           refine (subtractTimes_any w.heap.size j (w.heap.size + 1) (n + 1) _ _ A D l 18 56 25 (by omega) (by omega) (by omega) (by omega) HAR.out hD hD0 hl32 HL1.out HL2.out hne w1 G0.out G1.out).mono ?_
           rintro e w2 ⟨rfl, hb0, hg2⟩
           have K0 := Lib.hid hb0
           have K1 := Lib.hid ((hg2.block _ (lt_of_block G1.out) (by simp)).trans G1.out)
           have K2 := Lib.hid ((hg2.block _ (lt_of_block G2.out) (by simp; omega)).trans G2.out)
           have K3 := Lib.hid ((hg2.block _ (lt_of_block G3.out) (by simp; omega)).trans G3.out)
           have K4 := Lib.hid ((hg2.block _ (lt_of_block G4.out) (by simp; omega)).trans G4.out)
           have HB2 := Lib.hid (HB1.out.grown hg2 (Nat.le_of_lt (lt_of_block G0.out)) (by simp))
           have c4 := blk_cell K4.out (i := j) (by omega)
           have c5 : w2.frozen? ⟨g, j, none⟩ = false := blk_free K4.out
           clear hb0 hg2))
      go_wp2_with fail
      go_roundw
      case rel =>
        obtain ⟨g1, g2, g3⟩ := long_step hD0 hA.out
        obtain ⟨g4, g5⟩ := long_quot hQ.out hQm.out g2
        have hA' : A / R j % D * R j + A % R j < R 18 := by omega
        refine ⟨(j : Int) - 1, A / R j % D * R j + A % R j, setd Q j (A / R j / D), rfl, by omega, by omega, ?_, g4, ?_, setd_lt hQ18 (by omega) g1, hA', ?_, ?_, ?_, ?_, ?_, ?_⟩
        · unfold Hid; rw [show ((j : Int) - 1 + 1).toNat = j from by omega]; exact g3
        · unfold Hid; rw [show ((j : Int) - 1 + 1).toNat = j from by omega]; exact g5
        · exact HB2.out.setCell (show w.heap.size ≤ g by omega) _
        · rw [heap_setCell_other _ _ _ _ (by simp; omega)]; exact K0.out
        · rw [heap_setCell_other _ _ _ _ (by simp; omega)]; exact K1.out
        · rw [heap_setCell_other _ _ _ _ (by simp; omega)]; exact K2.out
        · rw [heap_setCell_other _ _ _ _ (by simp; omega)]; exact K3.out
        · exact blk_set K4.out (by omega) g1
      case measure => (simp [intOf] <;> omega)
    · have hk0 : (z + 1).toNat = 0 := by omega
      rw [hk0, R_zero, Nat.mul_one] at hA
      have hend : Q = a / b ∧ A / 2 ^ s = a % b := by
        have h1 := hA.out
        have h2 := hQ.out
        rw [HDD.out] at h1 h2
        exact long_end (Nat.pow_pos (by omega)) h1 h2
      obtain ⟨he1, he2⟩ := hend
      have HE2 := Lib.hid he2
      clear he2
      subst he1
      clear hA hQ hQm hk0 HDD
      have hr8 : a % b < R 8 := by
        have hb0 : 0 < b := by
          rcases Nat.eq_zero_or_pos b with h | h
          · exfalso; rw [h] at hbn; exact hbn (by simp [dg])
          · exact h
        exact lt_R_of_le (Nat.lt_trans (Nat.mod_lt a hb0) hb) (by omega)
      have E0 := Lib.hid e0
      have E1 := Lib.hid e1
      have E2 := Lib.hid e2
      have E3 := Lib.hid e3
      have E4 := Lib.hid e4
      clear e0 e1 e2 e3 e4
      go_wp2_with fail
      refine (shiftRight_any _ 18 18 s A 56 (by omega) hs hA18 _ E0.out).mono ?_
      rintro e W1 ⟨rfl, f0, hg1⟩
      rw [HE2.out] at f0
      have F2 := Lib.hid ((hg1.block _ (lt_of_block E2.out) (by simp; omega)).trans E2.out)
      have F3 := Lib.hid ((hg1.block _ (lt_of_block E3.out) (by simp; omega)).trans E3.out)
      have F4 := Lib.hid ((hg1.block _ (lt_of_block E4.out) (by simp; omega)).trans E4.out)
      have hB1 : Below w.heap.size w W1 := hB.grown hg1 (Nat.le_of_lt (lt_of_block E0.out)) (by simp)
      have F0 := Lib.hid f0
      clear f0 hg1 hB E0 E1 E2 E3 E4
      obtain ⟨d65, hu65, hd65⟩ := under65
      obtain ⟨d25, hu25, hd25⟩ := under25
      go_wp2_with (first | (refine wpList_lda rfl rfl rfl F0.out hu65 hd65 size65 ?_))
      refine (narrow_yes (a % b) hr8 W1).mono ?_
      rintro e W2 ⟨rfl, hb2⟩
      have G2 := Lib.hid ((hb2.block _ (lt_of_block F2.out)).trans F2.out)
      have G3 := Lib.hid ((hb2.block _ (lt_of_block F3.out)).trans F3.out)
      have G4 := Lib.hid ((hb2.block _ (lt_of_block F4.out)).trans F4.out)
      have hB2 : Below w.heap.size w W2 := hB1.trans (hb2.mono hB1.size)
      clear hb2 F0 F2 F3 F4 hB1
      unfold num
      go_wp2_with (first | (refine wpList_sta (f := dg (a % b)) (f' := fun _ => 0) rfl rfl rfl rfl (heap1 W2 _) size25 ?_))
      rw [← fa_zero8]
      have hg14 : w.heap.size + 1 + 1 + 1 < W2.heap.size := lt_of_block G3.out
      have hg4 : g < W2.heap.size := lt_of_block G4.out
      have hB3 : Below w.heap.size w ((W2.alloc (.cells (fa 8 (fun _ => 0)) 25)).setRow W2.heap.size (fa 8 (dg (a % b)))) := below_setRow (hB2.alloc hB2.size _) hB2.size _
      have H5 : Hid (((W2.alloc (.cells (fa 8 (fun _ => 0)) 25)).setRow W2.heap.size (fa 8 (dg (a % b)))).heap[W2.heap.size]? = some (.cells (fa 8 (dg (a % b))) 25 (0, 0))) := setRow_heap _ _ _ _ _ _ (heap1 _ _)
      have H2 : Hid (((W2.alloc (.cells (fa 8 (fun _ => 0)) 25)).setRow W2.heap.size (fa 8 (dg (a % b)))).heap[w.heap.size + 1 + 1]? = some (.cells (fa 18 (fun _ => 0)) 56 (0, 0))) := by
        unfold Hid; rw [setRow_other _ _ _ _ (by omega), Below.heap_alloc _ _ _ (by omega)]; exact G2.out
      have H3 : Hid (((W2.alloc (.cells (fa 8 (fun _ => 0)) 25)).setRow W2.heap.size (fa 8 (dg (a % b)))).heap[w.heap.size + 1 + 1 + 1]? = some (.cells (fa 8 (fun _ => 0)) 25 (0, 0))) := by
        unfold Hid; rw [setRow_other _ _ _ _ (by omega), Below.heap_alloc _ _ _ (by omega)]; exact G3.out
      have H4 : Hid (((W2.alloc (.cells (fa 8 (fun _ => 0)) 25)).setRow W2.heap.size (fa 8 (dg (a % b)))).heap[g]? = some (.cells (fa 18 (dg (a / b))) 56 (0, 0))) := by
        unfold Hid; rw [setRow_other _ _ _ _ (by omega), Below.heap_alloc _ _ _ (by omega)]; exact G4.out
      generalize (W2.alloc (.cells (fa 8 (fun _ => 0)) 25)).setRow W2.heap.size (fa 8 (dg (a % b))) = W3 at *
      clear G2 G3 G4 hB2
      generalize W2.heap.size = g5 at *
      refine wp_region_U (W0 := w) [(w.heap.size + 1 + 1, .cells (fa 18 (fun _ => 0)) 56 (0, 0)), (w.heap.size + 1 + 1 + 1, .cells (fa 8 (fun _ => 0)) 25 (0, 0)), (g, .cells (fa 18 (dg (a / b))) 56 (0, 0)), (g5, .cells (fa 8 (dg (a % b))) 25 (0, 0))] (by kernel_rfl)
        ⟨hB3, by simp only [List.forall_mem_cons]; exact ⟨H2.out, H3.out, H4.out, H5.out, fun _ h => by cases h⟩⟩ ?_
      refine wpU_val (i := 0) rfl rfl (by kernel_rfl) (by kernel_rfl) rfl (yb_lda rfl rfl (.tail _ (.tail _ (.head _))) hu65 hd65 size65) ?_
      refine wpU_2 (i := 1) (j := 2) (by kernel_rfl)
        (stepU_val rfl rfl (by kernel_rfl) rfl (yb_lda rfl rfl (.tail _ (.tail _ (.tail _ (.head _)))) hu25 hd25 size25) (wpU_1 (i := 2) (by kernel_rfl)
          (stepU_store (K' := [(w.heap.size + 1 + 1, .cells (fa 18 (dg (a / b))) 56 (0, 0)), (w.heap.size + 1 + 1 + 1, .cells (fa 8 (fun _ => 0)) 25 (0, 0))]) rfl rfl rfl
            (st_a rfl rfl rfl (.head _) (by omega) size65 (by intro p hp; simp only [List.mem_cons, List.not_mem_nil, or_false] at hp; rcases hp with rfl | rfl; exact .inl rfl; exact .inr ⟨by simp, by simp⟩)) ?_)))
        (stepU_store (K' := [(w.heap.size + 1 + 1, .cells (fa 18 (dg (a / b))) 56 (0, 0)), (w.heap.size + 1 + 1 + 1, .cells (fa 8 (fun _ => 0)) 25 (0, 0)), (g5, .cells (fa 8 (dg (a % b))) 25 (0, 0))]) rfl rfl rfl
            (st_a rfl rfl rfl (.head _) (by omega) size65 (by intro p hp; simp only [List.mem_cons, List.not_mem_nil, or_false] at hp; rcases hp with rfl | rfl | rfl; exact .inl rfl; exact .inr ⟨by simp, by simp⟩; exact .inr ⟨by simp, by simp; omega⟩)) (wpU_1 (i := 1) (by kernel_rfl)
          (stepU_val rfl rfl (by kernel_rfl) rfl (yb_lda rfl rfl (.tail _ (.tail _ (.head _))) hu25 hd25 size25) ?_)))
      all_goals
        refine wpU_1 (i := 3) (by kernel_rfl) (stepU_store (K' := [(w.heap.size + 1 + 1, .cells (fa 18 (dg (a / b))) 56 (0, 0)), (w.heap.size + 1 + 1 + 1, .cells (fa 8 (dg (a % b))) 25 (0, 0))]) rfl rfl rfl
          (st_a rfl rfl rfl (.tail _ (.head _)) (by omega) size25 (by intro p hp; simp only [List.mem_cons, List.not_mem_nil, or_false] at hp; rcases hp with rfl | rfl; exact .inr ⟨by simp, by simp⟩; exact .inl rfl)) ?_)
        refine wpU_done (by kernel_rfl) (fun W4 hW4 => ?_) _
        go_wp2_with fail
        exact bodyPost_ret (res_cell_cell rfl rfl (hW4.2 _ (.head _)) hu65 hd65 (by rw [size65, fa_size]) rfl (hW4.2 _ (.tail _ (.head _))) hu25 hd25 (by rw [size25, fa_size])) rfl ⟨rfl, hW4.1⟩
end Go.Proofs.YtalmflgkbmnghaaDoor
namespace Go.Proofs.YtalmflgkbmnghaaDoor
open Go.RowKit Tf

set_option maxHeartbeats 400000 in
theorem toSmall_any (b o n cap : Nat) (x y : Nat) (hx : x < 4294967296) (hy : y < 4294967296) (hn : 2 ≤ n) (w : World) (h0 : w.cell? ⟨b, o + 0, none⟩ = some (.int .u32 x)) (h1 : w.cell? ⟨b, o + 1, none⟩ = some (.int .u32 y)) :
    Calls Tryd.prog 32 #[.slice (some ⟨b, o, none⟩) n cap] w fun e w' => e = .returned (.int .u64 ((y * 4294967296 + x : Nat) : Int)) ∧ ∃ m, w' = w.drewN m := by
  have hn' : (1 : Int) < n := by omega
  have hn0 : (0 : Int) < n := by omega
  simp only [Nat.add_zero] at h0
  go_enter Tryd.func32, Tryd.ntmps32
  go_wp2
  go_quiet (fail)
  go_wp2
  go_ret
  exact ⟨ret_int (or64 hx hy), _, rfl⟩
end Go.Proofs.YtalmflgkbmnghaaDoor
namespace Go.Proofs.YtalmflgkbmnghaaDoor
open Go.RowKit Tf
variable [ShLZ]

theorem fa_digit {r : Nat} (hr : r < 4294967296) : fa 8 (dg r) = #[.int .u32 r, .int .u32 0, .int .u32 0, .int .u32 0, .int .u32 0, .int .u32 0, .int .u32 0, .int .u32 0] := by
  rw [fa_small r (by omega), show (r : Int) % 4294967296 = r from by omega, show (r : Int) / 4294967296 = 0 from by omega]
theorem ln_one {b : Nat} (hb : b < R 8) (h : ln (dg b) 8 = 1) : dg b 0 = b ∧ b < 4294967296 := by
  have h1 := ln_lt 8 hb
  rw [h, R_succ, R_zero] at h1
  exact ⟨by rw [dg_zero, Nat.mod_eq_of_lt (by omega)], by omega⟩
theorem ln_two {b n : Nat} (hb : b < R n) (h : ln (dg b) n ≤ 2) : dg b 1 * 4294967296 + dg b 0 = b ∧ b < 18446744073709551616 := by
  have h1 := lt_R_of_le (ln_lt n hb) h
  rw [R_succ, R_succ, R_zero] at h1
  refine ⟨?_, by omega⟩
  rw [dg_zero, dg_one]; omega

theorem wrap_u64n {n : Nat} (h : n < 18446744073709551616) : IntKind.u64.wrap (n : Int) = n := by simp only [IntKind.wrap_u64]; omega
theorem quiet_two {P : Program} {f : FuncId} {args : Array Value} {w : World} {n : Nat} {v : Value}
    (h : Calls P f args (w.drewN n) fun e w' => e = .returned v ∧ ∃ m, w' = (w.drewN n).drewN m) : Calls P f args (w.drewN n) fun e w'' => e = .returned v ∧ ∃ m, w'' = w.drewN m :=
  h.mono fun _ _ ⟨he, m, hm⟩ => ⟨he, n + m, by rw [hm, World.drewN_drewN]⟩
theorem toSmall_num (g n cap a : Nat) (f : Nat) (t : TypeId) (ha : dg a 1 * 4294967296 + dg a 0 = f) (hn : 2 ≤ n) (w : World) (h : w.heap[g]? = some (.cells (fa n (dg a)) t (0, 0))) :
    Calls Tryd.prog 32 #[.slice (some ⟨g, 0, none⟩) n cap] w fun e w' => e = .returned (.int .u64 (f : Int)) ∧ ∃ m, w' = w.drewN m := by
  subst ha
  exact toSmall_any g 0 n cap _ _ (dg_lt a 0) (dg_lt a 1) hn w (blk_cell h (by omega)) (blk_cell h (by omega))

theorem run_quo64 {a b : Nat} {x y : Operand} (w : World) (hb : b < 18446744073709551616) (hb0 : 0 < b) (ha : a < 18446744073709551616) :
    (do eqGuard .quo 46 x y (.int .u64 a) (.int .u64 b); binOp .quo 46 (.int .u64 a) (.int .u64 b) : Sem Value).run Tryd.prog w = .ok (.int .u64 ((a / b : Nat) : Int)) w := by
  go_simp
  rw [if_neg (by omega), show (a : Int) / b = ((a / b : Nat) : Int) from rfl, wrap_u64n (Nat.lt_of_le_of_lt (Nat.div_le_self a b) ha)]
theorem run_rem64 {a b : Nat} {x y : Operand} (w : World) (hb : b < 18446744073709551616) (hb0 : 0 < b) (ha : a < 18446744073709551616) :
    (do eqGuard .rem 46 x y (.int .u64 a) (.int .u64 b); binOp .rem 46 (.int .u64 a) (.int .u64 b) : Sem Value).run Tryd.prog w = .ok (.int .u64 ((a % b : Nat) : Int)) w := by
  go_simp
  rw [if_neg (by omega), Int.tmod_eq_emod_of_nonneg (by omega)]

set_option maxRecDepth 100000 in
set_option maxHeartbeats 2000000 in
theorem divide_any (a b : Nat) (ha : a < R 17) (hb : b < R 8) (hb0 : 0 < b) (w : World) :
    Calls Tryd.prog 29 #[wid a, num b] w fun e w' => e = .returned (.tuple #[wid (a / b), num (a % b)]) ∧ Below w.heap.size w w' := by
  unfold num wid
  have ha18 : a < R 18 := lt_R_of_le ha (by omega)
  go_enter Tryd.func29, Tryd.ntmps29
  go_upto_region 1 with (fail)
  have hK := KS.four w (.cells (fa 18 (dg a)) 56) (.cells (fa 8 (dg b)) 25) (.cells (fa 18 (fun _ => 0)) 56) (.cells (fa 8 (fun _ => 0)) 25)
  obtain ⟨W, hW⟩ : ∃ W, W = (((w.alloc (.cells (fa 18 (dg a)) 56)).alloc (.cells (fa 8 (dg b)) 25)).alloc (.cells (fa 18 (fun _ => 0)) 56)).alloc (.cells (fa 8 (fun _ => 0)) 25) := ⟨_, rfl⟩
  rw [← hW] at hK
  rw [fa_zero18, fa_zero8] at hW
  rw [← hW]
  clear hW
  have HK := Lib.hid hK
  clear hK
  go_quiet ((go_at_call 33; exact quiet_left (length_any _ 0 _ _ (dg _) _ (by omega) (fun i hi => by rw [Nat.zero_add]; first | exact blk_cell (HK.out.2 _ (.head _)) hi | exact blk_cell (HK.out.2 _ (.tail _ (.head _))) hi))))
  have hn0 := ln_le (dg b) 8
  have hm0 : ln (dg a) 18 ≤ 17 := by
    rcases Nat.lt_or_ge 17 (ln (dg a) 18) with h | h
    · exact absurd (dg_of_lt' ha (show 17 ≤ ln (dg a) 18 - 1 by omega)) (ln_ge (by omega))
    · exact h
  have hn1 : 1 ≤ ln (dg b) 8 := by
    rcases Nat.eq_zero_or_pos (ln (dg b) 8) with h | h
    · have := ln_lt 8 hb
      rw [h, R_zero] at this
      omega
    · exact h
  have HK2 := Lib.hid (HK.out.drewN nq)
  clear HK
  generalize W.drewN nq = W1 at *
  by_cases h1 : ln (dg b) 8 = 1
  · obtain ⟨g1, g2⟩ := ln_one hb h1
    have c1 := blk_cell (HK2.out.2 _ (.tail _ (.head _))) (i := 0) (by omega)
    rw [g1] at c1
    rw [h1]
    clear h1 g1 hn1 hn0
    have hix := index25_0 (w.heap.size + 1)
    have hr : a % b < 4294967296 := Nat.lt_trans (Nat.mod_lt a hb0) g2
    go_upto_region 4 with (first
      | (refine wpList_lda rfl rfl rfl (HK2.out.2 _ (.head _)) Tryd.underlying56 rfl size65 ?_)
      | (go_at_call 53; refine (divideShort_any a b ha18 hb0 g2 _).mono ?_; rintro e w1 ⟨rfl, hb1⟩; have HK3 := Lib.hid (HK2.out.below hb1); clear hb1; unfold wid)
      | (refine wpList_sta (f := dg (a / b)) (f' := fun _ => 0) rfl rfl rfl rfl (heap1 w1 _) size65 ?_))
    obtain ⟨f1, f2⟩ := HK3.out.fresh
    have HK4 := Lib.hid (HK3.out.newvar (cs := fa 18 (fun _ => 0)) (cs' := fa 18 (dg (a / b))) (t := 56))
    rw [← fa_zero18]
    generalize (w1.alloc (.cells (fa 18 (fun _ => 0)) 56)).setRow w1.heap.size (fa 18 (dg (a / b))) = W2 at *
    simp only [List.forall_mem_cons] at f2
    obtain ⟨f3, f4, f5, f6, _⟩ := f2
    clear HK2 HK3 hix
    generalize w1.heap.size = g at *
    have HK5 : KS w _ (W2.setRow (w.heap.size + 1 + 1) (fa 18 (dg (a / b)))) := HK4.out.put (K' := [(w.heap.size + 1 + 1, .cells (fa 18 (dg (a / b))) 56 (0, 0)), (w.heap.size + 1 + 1 + 1, .cells (fa 8 (fun _ => 0)) 25 (0, 0))]) (by omega) (.tail _ (.tail _ (.tail _ (.head _))))
      (by intro p hp; simp only [List.mem_cons, List.not_mem_nil, or_false] at hp; rcases hp with rfl | rfl; exact .inl rfl; exact .inr ⟨by simp, by simp⟩)
    go_wp2_with (first
      | (refine wpList_lda rfl rfl rfl (HK4.out.2 _ (.head _)) Tryd.underlying56 rfl size65 ?_)
      | (refine wpList_sta (f := dg (a / b)) (f' := fun _ => 0) rfl rfl rfl rfl (HK4.out.2 _ (.tail _ (.tail _ (.tail _ (.head _))))) size65 ?_)
      | (refine wpList_sta (f := dg (a % b)) (f' := fun _ => 0) rfl rfl rfl (by rw [fa_digit hr]; rfl) (HK5.2 _ (.tail _ (.head _))) size25 ?_))
    refine bodyPost_ret (res_cell_cell rfl rfl (cs := fa 18 (dg (a / b))) (t := 56) ?_ Tryd.underlying56 rfl (by rw [size65, fa_size]) rfl (setRow_heap _ _ _ _ _ _ (HK5.2 _ (.tail _ (.head _)))) Tryd.underlying25 rfl (by rw [size25, fa_size])) rfl ⟨rfl, below_setRow HK5.1 (by omega) _⟩
    rw [setRow_other _ _ _ _ (by omega)]; exact HK5.2 _ (.head _)
  · have hn2 : 2 ≤ ln (dg b) 8 := by omega
    by_cases h2 : ln (dg a) 18 ≤ 2 ∧ ln (dg b) 8 = 2
    · obtain ⟨h3, h4⟩ := h2
      obtain ⟨g1, g2⟩ := ln_two ha18 h3
      obtain ⟨g3, g4⟩ := ln_two hb (Nat.le_of_eq h4)
      have hq : ((ln (dg a) 18 : Nat) : Int) ≤ 2 := by omega
      rw [h4]
      generalize ln (dg a) 18 = m at *
      clear h1 h3 h4 hn1 hn2 hn0
      have G1 := Lib.hid g1
      have G3 := Lib.hid g3
      clear g1 g3
      go_wp2_with fail
      have Q1 : Hid (∀ n, Calls Tryd.prog 32 #[.slice (some ⟨w.heap.size, 0, none⟩) 18 18] (W1.drewN n) fun e w'' => e = .returned (.int .u64 (a : Int)) ∧ ∃ m, w'' = W1.drewN m) :=
        fun n => quiet_two (toSmall_num _ 18 18 a a 56 G1.out (by omega) (W1.drewN n) (HK2.out.2 _ (.head _)))
      have Q2 : Hid (∀ n, Calls Tryd.prog 32 #[.slice (some ⟨w.heap.size + 1, 0, none⟩) 8 8] (W1.drewN n) fun e w'' => e = .returned (.int .u64 (b : Int)) ∧ ∃ m, w'' = W1.drewN m) :=
        fun n => quiet_two (toSmall_num _ 8 8 b b 25 G3.out (by omega) (W1.drewN n) (HK2.out.2 _ (.tail _ (.head _))))
      go_quiet ((go_at_call 32; first | (with_reducible exact Q1.out _) | (with_reducible exact Q2.out _)))
      clear Q1 Q2
      go_wp2_with fail
      clear hm0 ha hb ha18 hq
      refine wp_region_U (W0 := w) [(w.heap.size, .cells (fa 18 (dg a)) 56 (0, 0)), (w.heap.size + 1, .cells (fa 8 (dg b)) 25 (0, 0)), (w.heap.size + 1 + 1, .cells (fa 18 (fun _ => 0)) 56 (0, 0)), (w.heap.size + 1 + 1 + 1, .cells (fa 8 (fun _ => 0)) 25 (0, 0))] (by kernel_rfl) (HK2.out.drewN _) ?_
      have hqa : a / b < 18446744073709551616 := Nat.lt_of_le_of_lt (Nat.div_le_self a b) g2
      have hra : a % b < 18446744073709551616 := Nat.lt_of_le_of_lt (Nat.mod_le a b) g2
      have hqR : a / b < R 8 := lt_R_of_le (j := 2) (by rw [R_succ, R_succ, R_zero]; omega) (by omega)
      refine wpU_vY (i := 0) (v := .int .u64 a) rfl rfl (by kernel_rfl) (by kernel_rfl) rfl (yb_pure fun _ => by kernel_rfl) (by simp only [List.setIfInBounds_toArray, List.set_cons_succ, List.set_cons_zero]; rfl) ?_
      refine wpU_vY (i := 1) (v := .int .u64 b) rfl rfl (by kernel_rfl) (by kernel_rfl) rfl (yb_pure fun _ => by kernel_rfl) (by simp only [List.setIfInBounds_toArray, List.set_cons_succ, List.set_cons_zero]; rfl) ?_
      refine wpU_vY (i := 2) (v := .int .u64 ((a / b : Nat) : Int)) rfl rfl (by kernel_rfl) (by kernel_rfl) rfl (yb_binY rfl (vx := .int .u64 a) (vy := .int .u64 b) (by kernel_rfl) (by kernel_rfl) fun w => run_quo64 w g4 hb0 g2) (by simp only [List.setIfInBounds_toArray, List.set_cons_succ, List.set_cons_zero]; rfl) ?_
      refine wpU_vY (i := 3) (v := num (a / b)) rfl rfl (by kernel_rfl) (by kernel_rfl) rfl (yb_call (f := 22) (args := #[.int .u64 ((a / b : Nat) : Int)]) (fun _ => by kernel_rfl) fun W hW => fromSmall_any (a / b) hqa W) (by simp only [List.setIfInBounds_toArray, List.set_cons_succ, List.set_cons_zero]; rfl) ?_
      refine wpU_vY (i := 4) (v := wid (a / b)) rfl rfl (by kernel_rfl) (by kernel_rfl) rfl (yb_call (f := 30) (args := #[num (a / b)]) (fun _ => by kernel_rfl) fun W hW => widen_any (a / b) hqR W) (by simp only [List.setIfInBounds_toArray, List.set_cons_succ, List.set_cons_zero]; rfl) ?_
      refine wpU_vY (i := 5) (v := .int .u64 a) rfl rfl (by kernel_rfl) (by kernel_rfl) rfl (yb_pure fun _ => by kernel_rfl) (by simp only [List.setIfInBounds_toArray, List.set_cons_succ, List.set_cons_zero]; rfl) ?_
      refine wpU_vY (i := 6) (v := .int .u64 b) rfl rfl (by kernel_rfl) (by kernel_rfl) rfl (yb_pure fun _ => by kernel_rfl) (by simp only [List.setIfInBounds_toArray, List.set_cons_succ, List.set_cons_zero]; rfl) ?_
      refine wpU_vY (i := 7) (v := .int .u64 ((a % b : Nat) : Int)) rfl rfl (by kernel_rfl) (by kernel_rfl) rfl (yb_binY rfl (vx := .int .u64 a) (vy := .int .u64 b) (by kernel_rfl) (by kernel_rfl) fun w => run_rem64 w g4 hb0 g2) (by simp only [List.setIfInBounds_toArray, List.set_cons_succ, List.set_cons_zero]; rfl) ?_
      refine wpU_vY (i := 8) (v := num (a % b)) rfl rfl (by kernel_rfl) (by kernel_rfl) rfl (yb_call (f := 22) (args := #[.int .u64 ((a % b : Nat) : Int)]) (fun _ => by kernel_rfl) fun W hW => fromSmall_any (a % b) hra W) (by simp only [List.setIfInBounds_toArray, List.set_cons_succ, List.set_cons_zero]; rfl) ?_
      refine wpU_1 (i := 9) (by kernel_rfl) (stepU_store (K' := [(w.heap.size + 1 + 1, .cells (fa 18 (dg (a / b))) 56 (0, 0)), (w.heap.size + 1 + 1 + 1, .cells (fa 8 (fun _ => 0)) 25 (0, 0))]) rfl rfl rfl
        (st_a rfl rfl rfl (.tail _ (.tail _ (.head _))) (by omega) size65 (by intro p hp; simp only [List.mem_cons, List.not_mem_nil, or_false] at hp; rcases hp with rfl | rfl; exact .inl rfl; exact .inr ⟨by simp, by simp⟩)) ?_)
      refine wpU_1 (i := 10) (by kernel_rfl) (stepU_store (K' := [(w.heap.size + 1 + 1, .cells (fa 18 (dg (a / b))) 56 (0, 0)), (w.heap.size + 1 + 1 + 1, .cells (fa 8 (dg (a % b))) 25 (0, 0))]) rfl rfl rfl
        (st_a rfl rfl rfl (.tail _ (.head _)) (by omega) size25 (by intro p hp; simp only [List.mem_cons, List.not_mem_nil, or_false] at hp; rcases hp with rfl | rfl; exact .inr ⟨by simp, by simp⟩; exact .inl rfl)) ?_)
      refine wpU_done (by kernel_rfl) (fun W4 hW4 => ?_) _
      go_wp2_with fail
      exact bodyPost_ret (res_cell_cell rfl rfl (hW4.2 _ (.head _)) Tryd.underlying56 rfl (by rw [size65, fa_size]) rfl (hW4.2 _ (.tail _ (.head _))) Tryd.underlying25 rfl (by rw [size25, fa_size])) rfl ⟨rfl, hW4.1⟩
    · have hb2 : ¬ (ln (dg a) 18 ≤ 2 ∧ ln (dg b) 8 = 2) := h2
      obtain ⟨n, hn⟩ : ∃ n, ln (dg b) 8 = n + 1 := ⟨ln (dg b) 8 - 1, by omega⟩
      have hbR : b < R (n + 1) := by rw [← hn]; exact ln_lt 8 hb
      have haR : a < R (ln (dg a) 18) := ln_lt 18 ha18
      have hbn : dg b n ≠ 0 := by
        have := ln_ge (x := b) (n := 8) (by omega)
        rwa [hn, Nat.add_sub_cancel] at this
      rw [hn] at h1 hn0 hn2 h2
      rw [hn]
      generalize ln (dg a) 18 = m at *
      have hdl := divideLong_any a b m n haR hm0 hbR (by omega) (by omega) hbn
      have HDL := Lib.hid hdl
      clear hdl hn hn1 hb2 haR hbR hbn
      have hq : ((m : Int) ≤ 2 ∧ n ≠ 1) ∨ ¬ ((m : Int) ≤ 2) := by omega
      rcases hq with ⟨hq1, hq2⟩ | hq1
      all_goals
        go_wp2_with (first
          | (refine wpList_lda rfl rfl rfl (HK2.out.2 _ (.head _)) Tryd.underlying56 rfl size65 ?_)
          | (refine wpList_lda rfl rfl rfl (HK2.out.2 _ (.tail _ (.head _))) Tryd.underlying25 rfl size25 ?_))
        refine (HDL.out W1).mono ?_
        rintro e w1 ⟨rfl, hb1⟩
        have HK3 := Lib.hid (HK2.out.below hb1)
        have HK4 : KS w _ (w1.setRow (w.heap.size + 1 + 1) (fa 18 (dg (a / b)))) := HK3.out.put (K' := [(w.heap.size + 1 + 1, .cells (fa 18 (dg (a / b))) 56 (0, 0)), (w.heap.size + 1 + 1 + 1, .cells (fa 8 (fun _ => 0)) 25 (0, 0))]) (by omega) (.tail _ (.tail _ (.head _)))
          (by intro p hp; simp only [List.mem_cons, List.not_mem_nil, or_false] at hp; rcases hp with rfl | rfl; exact .inl rfl; exact .inr ⟨by simp, by simp⟩)
        clear hb1 HK2
        unfold wid num
        go_wp2_with (first
          | (refine wpList_sta (f := dg (a / b)) (f' := fun _ => 0) rfl rfl rfl rfl (HK3.out.2 _ (.tail _ (.tail _ (.head _)))) size65 ?_)
          | (refine wpList_sta (f := dg (a % b)) (f' := fun _ => 0) rfl rfl rfl rfl (HK4.2 _ (.tail _ (.head _))) size25 ?_))
        refine bodyPost_ret (res_cell_cell rfl rfl (cs := fa 18 (dg (a / b))) (t := 56) ?_ Tryd.underlying56 rfl (by rw [size65, fa_size]) rfl (setRow_heap _ _ _ _ _ _ (HK4.2 _ (.tail _ (.head _)))) Tryd.underlying25 rfl (by rw [size25, fa_size])) rfl ⟨rfl, below_setRow HK4.1 (by omega) _⟩
        rw [setRow_other _ _ _ _ (by omega)]; exact HK4.2 _ (.head _)
end Go.Proofs.YtalmflgkbmnghaaDoor
namespace Go.Proofs.YtalmflgkbmnghaaDoor
open Go.RowKit Tf
variable [ShLZ]
set_option maxRecDepth 100000 in
set_option maxHeartbeats 1000000 in
theorem quotient_any (a b : Nat) (ha : a < R 8) (hb : b < R 8) (hb0 : 0 < b) (w : World) :
    Calls Tryd.prog 49 #[num a, num b] w fun e w' => e = .returned (num (a / b)) ∧ Below w.heap.size w w' := by
  unfold num
  have hq : a / b < R 8 := Nat.lt_of_le_of_lt (Nat.div_le_self a b) ha
  have ha17 : a < R 17 := lt_R_of_le ha (by omega)
  go_enter Tryd.func49, Tryd.ntmps49
  go_upto_region 1 with (fail)
  have hK := KS.three w (.cells (fa 8 (dg a)) 25) (.cells (fa 8 (dg b)) 25) (.cells (fa 8 (fun _ => 0)) 25)
  obtain ⟨W, hW⟩ : ∃ W, W = ((w.alloc (.cells (fa 8 (dg a)) 25)).alloc (.cells (fa 8 (dg b)) 25)).alloc (.cells (fa 8 (fun _ => 0)) 25) := ⟨_, rfl⟩
  rw [← hW] at hK
  rw [fa_zero8] at hW
  rw [← hW]
  clear hW
  have HK := Lib.hid hK
  clear hK
  by_cases hb1 : b = 1
  · subst hb1
    go_wp2_with (first
      | (refine wpList_lda rfl rfl rfl (HK.out.2 _ (.tail _ (.head _))) Tryd.underlying25 rfl size25 ?_)
      | (refine wpList_lda rfl rfl rfl (HK.out.2 _ (.head _)) Tryd.underlying25 rfl size25 ?_)
      | (refine wpList_sta (f := dg a) (f' := fun _ => 0) rfl rfl rfl rfl (HK.out.2 _ (.tail _ (.tail _ (.head _)))) size25 ?_))
    exact bodyPost_ret (res_cell rfl rfl (setRow_heap _ _ _ _ _ _ (HK.out.2 _ (.tail _ (.tail _ (.head _))))) Tryd.underlying25 rfl (by rw [size25, fa_size])) rfl ⟨by rw [Nat.div_one], below_setRow HK.out.1 (by omega) _⟩
  · go_wp2_with (first
      | (refine wpList_lda rfl rfl rfl (HK.out.2 _ (.tail _ (.head _))) Tryd.underlying25 rfl size25 ?_))
    refine wp_region_U (W0 := w) [(w.heap.size, .cells (fa 8 (dg a)) 25 (0, 0)), (w.heap.size + 1, .cells (fa 8 (dg b)) 25 (0, 0)), (w.heap.size + 1 + 1, .cells (fa 8 (fun _ => 0)) 25 (0, 0))] (by kernel_rfl) (HK.out) ?_
    refine wpU_vY (i := 0) (v := num a) rfl rfl (by kernel_rfl) (by kernel_rfl) rfl (yb_lda rfl (by kernel_rfl) (.head _) Tryd.underlying25 rfl size25) (by simp only [List.setIfInBounds_toArray, List.set_cons_succ, List.set_cons_zero] <;> rfl) ?_
    refine wpU_vY (i := 1) (v := wid a) rfl rfl (by kernel_rfl) (by kernel_rfl) rfl (yb_call (f := 30) (args := #[num a]) (fun _ => by kernel_rfl) fun W hW => widen_any a ha W) (by simp only [List.setIfInBounds_toArray, List.set_cons_succ, List.set_cons_zero] <;> rfl) ?_
    refine wpU_vY (i := 2) (v := num b) rfl rfl (by kernel_rfl) (by kernel_rfl) rfl (yb_lda rfl (by kernel_rfl) (.tail _ (.head _)) Tryd.underlying25 rfl size25) (by simp only [List.setIfInBounds_toArray, List.set_cons_succ, List.set_cons_zero] <;> rfl) ?_
    refine wpU_vY (i := 3) (v := .tuple #[wid (a / b), num (a % b)]) rfl rfl (by kernel_rfl) (by kernel_rfl) rfl (yb_call (f := 29) (args := #[wid a, num b]) (fun _ => by kernel_rfl) fun W hW => divide_any a b ha17 hb hb0 W) (by simp only [List.setIfInBounds_toArray, List.set_cons_succ, List.set_cons_zero] <;> rfl) ?_
    refine wpU_pY (i := 4) (v := .tuple #[wid (a / b), num (a % b)]) rfl rfl (by kernel_rfl) (by kernel_rfl) rfl (fun _ => by kernel_rfl) (by simp only [List.setIfInBounds_toArray, List.set_cons_succ, List.set_cons_zero] <;> rfl) ?_
    refine wpU_pY (i := 5) (v := wid (a / b)) rfl rfl (by kernel_rfl) (by kernel_rfl) rfl (fun _ => by kernel_rfl) (by simp only [List.setIfInBounds_toArray, List.set_cons_succ, List.set_cons_zero] <;> rfl) ?_
    refine wpU_pY (i := 6) (v := num (a % b)) rfl rfl (by kernel_rfl) (by kernel_rfl) rfl (fun _ => by kernel_rfl) (by simp only [List.setIfInBounds_toArray, List.set_cons_succ, List.set_cons_zero] <;> rfl) ?_
    refine wpU_twoY (i := 7) (j := 8) (obi := .cells (fa 18 (fun _ => 0)) 56 (0, 0)) (obj := .cells (fa 8 (fun _ => 0)) 25 (0, 0)) rfl rfl rfl rfl rfl rfl (by kernel_rfl) (by kernel_rfl) (by kernel_rfl) (by kernel_rfl) (fun _ _ => rfl) (fun _ _ => rfl) (fun _ _ => by simp only [List.setIfInBounds_toArray, List.set_cons_succ, List.set_cons_zero] <;> rfl) (fun _ _ => by simp only [List.setIfInBounds_toArray, List.set_cons_succ, List.set_cons_zero] <;> rfl) fun g h Bg Bh Dgh Fg Fh => ?_
    simp only [List.forall_mem_cons] at Fg Fh
    refine wpU_sY [(g, .cells (fa 18 (dg (a / b))) 56 (0, 0)), (h, .cells (fa 8 (fun _ => 0)) 25 (0, 0)), (w.heap.size, .cells (fa 8 (dg a)) 25 (0, 0)), (w.heap.size + 1, .cells (fa 8 (dg b)) 25 (0, 0)), (w.heap.size + 1 + 1, .cells (fa 8 (fun _ => 0)) 25 (0, 0))] (i := 9) rfl (by kernel_rfl) rfl rfl rfl
      (st_a rfl rfl rfl (.head _) (by omega) size65 (by intro p hp; simp only [List.mem_cons, List.not_mem_nil, or_false] at hp; rcases hp with rfl | rfl | rfl | rfl | rfl; exact .inl rfl; exact .inr ⟨by simp, by simp only; omega⟩; exact .inr ⟨by simp, by simp only; omega⟩; exact .inr ⟨by simp, by simp only; omega⟩; exact .inr ⟨by simp, by simp only; omega⟩)) ?_
    refine wpU_sY [(g, .cells (fa 18 (dg (a / b))) 56 (0, 0)), (h, .cells (fa 8 (dg (a % b))) 25 (0, 0)), (w.heap.size, .cells (fa 8 (dg a)) 25 (0, 0)), (w.heap.size + 1, .cells (fa 8 (dg b)) 25 (0, 0)), (w.heap.size + 1 + 1, .cells (fa 8 (fun _ => 0)) 25 (0, 0))] (i := 10) rfl (by kernel_rfl) rfl rfl rfl
      (st_a rfl rfl rfl (.tail _ (.head _)) (by omega) size25 (by intro p hp; simp only [List.mem_cons, List.not_mem_nil, or_false] at hp; rcases hp with rfl | rfl | rfl | rfl | rfl; exact .inr ⟨by simp, by simp only; omega⟩; exact .inl rfl; exact .inr ⟨by simp, by simp only; omega⟩; exact .inr ⟨by simp, by simp only; omega⟩; exact .inr ⟨by simp, by simp only; omega⟩)) ?_
    refine wpU_done (by kernel_rfl) (fun W4 hW4 => ?_) _
    clear HK
    have HW4 := Lib.hid hW4
    clear hW4
    go_upto_region 5 with (first
      | (refine wpList_lda rfl rfl rfl (HW4.out.2 _ (.head _)) Tryd.underlying56 rfl size65 ?_)
      | (go_at_call 64; refine (narrow_yes (a / b) hq _).mono ?_; rintro e w2 ⟨rfl, hb2⟩; have HK3 := Lib.hid (HW4.out.below hb2); clear hb2; unfold num)
      | (refine wpList_sta (f := dg (a / b)) (f' := fun _ => 0) rfl rfl rfl rfl (heap1 w2 _) size25 ?_))
    obtain ⟨f1, f2⟩ := HK3.out.fresh
    have HK4 := Lib.hid (HK3.out.newvar (cs := fa 8 (fun _ => 0)) (cs' := fa 8 (dg (a / b))) (t := 25))
    rw [← fa_zero8]
    generalize (w2.alloc (.cells (fa 8 (fun _ => 0)) 25)).setRow w2.heap.size (fa 8 (dg (a / b))) = W2 at *
    clear HK3
    go_wp2_with (first
      | (refine wpList_lda rfl rfl rfl (HK4.out.2 _ (.head _)) Tryd.underlying25 rfl size25 ?_)
      | (refine wpList_sta (f := dg (a / b)) (f' := fun _ => 0) rfl rfl rfl rfl (HK4.out.2 _ (.tail _ (.tail _ (.tail _ (.tail _ (.tail _ (.head _))))))) size25 ?_))
    exact bodyPost_ret (res_cell rfl rfl (setRow_heap _ _ _ _ _ _ (HK4.out.2 _ (.tail _ (.tail _ (.tail _ (.tail _ (.tail _ (.head _)))))))) Tryd.underlying25 rfl (by rw [size25, fa_size])) rfl ⟨rfl, below_setRow HK4.out.1 (by omega) _⟩
end Go.Proofs.YtalmflgkbmnghaaDoor
namespace Go.Proofs.YtalmflgkbmnghaaDoor
open Go.RowKit Tf

set_option maxHeartbeats 400000 in
theorem gcdSmall_any (a b : Nat) (ha : a < 18446744073709551616) (hb : b < 18446744073709551616) (w : World) :
    Calls Tryd.prog 21 #[.int .u64 a, .int .u64 b] w fun e w' => e = .returned (.int .u64 (Nat.gcd a b)) ∧ Below w.heap.size w w' := by
  go_enter Tryd.func21, Tryd.ntmps21
  go_wp2
  go_loopw [0, 1] (fun x y wr => ∃ p q : Nat, p < 18446744073709551616 ∧ q < 18446744073709551616 ∧ Hid (Nat.gcd a b = Nat.gcd p q) ∧ x = .int .u64 p ∧ y = .int .u64 q ∧ Below w.heap.size w wr)
    (fun _ y _ => (intOf y).toNat)
  case atStart => exact ⟨a, b, ha, hb, rfl, rfl, rfl, Below.refl _ _⟩
  case round =>
    obtain ⟨p, q, hp, hq, he, rfl, rfl, hB⟩ := hrel
    rcases Nat.eq_zero_or_pos q with rfl | hpos
    · go_wp2
      go_ret
      exact ⟨ret_int (by rw [he.out, Nat.gcd_zero_right]), hB⟩
    · have hne : ((q : Int) != 0) = true := by simp; omega
      go_wp2
      go_quiet (fail)
      go_wp2
      go_roundw
      case rel => exact ⟨q, p % q, hq, Nat.lt_trans (Nat.mod_lt p hpos) hq, by unfold Hid; rw [he.out, Nat.gcd_comm p q, Nat.gcd_rec q p, Nat.gcd_comm], rfl, by first | rfl | exact congrArg (Value.int .u64) (by omega), belowN hB _⟩
      case measure =>
        have h := Nat.mod_lt p hpos
        have e : ((p : Int) % (q : Int)) = ((p % q : Nat) : Int) := rfl
        rw [e]
        simp only [intOf]
        omega
end Go.Proofs.YtalmflgkbmnghaaDoor
namespace Go.Proofs.YtalmflgkbmnghaaDoor
open Go.RowKit Tf
variable [ShLZ]
def valAt (wr : World) (g : Nat) : Nat := match wr.heap[g]? with
  | some (.cells cs _ _) => va (fun i => (intOf (cs.getD i undef)).toNat) 8
  | _ => 0
theorem va_congr' {f g : Nat → Nat} : ∀ n, (∀ i, i < n → f i = g i) → va f n = va g n
  | 0, _ => by unfold va; rfl
  | n + 1, h => by unfold va; rw [va_congr' n (fun i hi => h i (by omega)), h n (by omega)]
theorem valAt_eq {wr : World} {g b : Nat} {t : TypeId} (hb : b < R 8) (h : wr.heap[g]? = some (.cells (fa 8 (dg b)) t (0, 0))) : valAt wr g = b := by
  unfold valAt
  rw [h]
  simp only
  rw [va_congr' (g := dg b) 8 (fun i hi => by
    rw [Array.getD_eq_getD_getElem?, fa_get _ hi]
    simp [intOf]), va_dg, Nat.mod_eq_of_lt hb]
theorem quiet_below {P : Program} {f : FuncId} {args : Array Value} {w : World} {v : Value} (h : Calls P f args w fun e w' => e = .returned v ∧ ∃ m, w' = w.drewN m) :
    Calls P f args w fun e w' => e = .returned v ∧ Below w.heap.size w w' :=
  h.mono fun _ _ ⟨he, m, hm⟩ => ⟨he, by rw [hm]; exact belowN (Below.refl _ _) _⟩

set_option maxRecDepth 100000 in
set_option maxHeartbeats 1000000 in
theorem gcd_any (a b : Nat) (ha : a < R 8) (hb : b < R 8) (w : World) :
    Calls Tryd.prog 48 #[num a, num b] w fun e w' => e = .returned (num (Nat.gcd a b)) ∧ Below w.heap.size w w' := by
  unfold num
  go_enter Tryd.func48, Tryd.ntmps48
  go_wp2_with fail
  have hK := KS.three w (.cells (fa 8 (dg a)) 25) (.cells (fa 8 (dg b)) 25) (.cells (fa 8 (fun _ => 0)) 25)
  obtain ⟨W, hW⟩ : ∃ W, W = ((w.alloc (.cells (fa 8 (dg a)) 25)).alloc (.cells (fa 8 (dg b)) 25)).alloc (.cells (fa 8 (fun _ => 0)) 25) := ⟨_, rfl⟩
  rw [← hW] at hK
  rw [fa_zero8] at hW
  rw [← hW]
  clear hW
  have HK := Lib.hid hK
  clear hK
  go_loopw [] (fun wr => ∃ p q : Nat, p < R 8 ∧ q < R 8 ∧ Hid (Nat.gcd a b = Nat.gcd p q) ∧ Hid (KS w [(w.heap.size, .cells (fa 8 (dg p)) 25 (0, 0)), (w.heap.size + 1, .cells (fa 8 (dg q)) 25 (0, 0)), (w.heap.size + 1 + 1, .cells (fa 8 (fun _ => 0)) 25 (0, 0))] wr))
    (fun wr => valAt wr (w.heap.size + 1))
  case atStart => exact ⟨a, b, ha, hb, rfl, HK⟩
  case round =>
    clear HK
    obtain ⟨p, q, hp, hq, he, HK⟩ := hrel
    clear ha hb
    rcases Nat.eq_zero_or_pos q with rfl | hpos
    · go_wp2_with (first
        | (refine wpList_lda rfl rfl rfl (HK.out.2 _ (.tail _ (.head _))) Tryd.underlying25 rfl size25 ?_)
        | (refine wpList_lda rfl rfl rfl (HK.out.2 _ (.head _)) Tryd.underlying25 rfl size25 ?_)
        | (refine wpList_sta (f := dg p) (f' := fun _ => 0) rfl rfl rfl rfl (HK.out.2 _ (.tail _ (.tail _ (.head _)))) size25 ?_))
      refine bodyPost_ret (res_cell rfl rfl (setRow_heap _ _ _ _ _ _ (HK.out.2 _ (.tail _ (.tail _ (.head _))))) Tryd.underlying25 rfl (by rw [size25, fa_size])) rfl ⟨?_, below_setRow HK.out.1 (by omega) _⟩
      rw [he.out, Nat.gcd_zero_right]
    · have hne : ¬ q = 0 := by omega
      have g5 := ln_two (b := p) (n := 8)
      have g6 := ln_two (b := q) (n := 8)
      have hln : (((ln (dg p) 8 : Nat) : Int) ≤ 2 ∧ ((ln (dg q) 8 : Nat) : Int) ≤ 2) ∨ (¬ (((ln (dg p) 8 : Nat) : Int) ≤ 2) ∨ (((ln (dg p) 8 : Nat) : Int) ≤ 2 ∧ ¬ (((ln (dg q) 8 : Nat) : Int) ≤ 2))) := by omega
      rcases hln with ⟨h1, h2⟩ | hln
      · obtain ⟨g1, g2⟩ := g5 hp (by omega)
        obtain ⟨g3, g4⟩ := g6 hq (by omega)
        have G1 := Lib.hid g1
        have G3 := Lib.hid g3
        clear g1 g3 g5 g6
        go_wp2_with (first
          | (refine wpList_lda rfl rfl rfl (HK.out.2 _ (.tail _ (.head _))) Tryd.underlying25 rfl size25 ?_)
          | (go_at_call 33; refine (length_any _ 0 8 8 (dg p) _ (by omega) (fun i hi => by rw [Nat.zero_add]; exact blk_cell (HK.out.2 _ (.head _)) hi)).mono ?_; rintro e w1 ⟨rfl, rfl⟩)
          | (go_at_call 33; refine (length_any _ 0 8 8 (dg q) _ (by omega) (fun i hi => by rw [Nat.zero_add]; exact blk_cell (HK.out.2 _ (.tail _ (.head _))) hi)).mono ?_; rintro e w1 ⟨rfl, rfl⟩))
        have hg64 : Nat.gcd p q < 18446744073709551616 := Nat.lt_of_le_of_lt (Nat.gcd_le_right p hpos) g4
        have g1 := G1.out
        have g3 := G3.out
        refine wp_region_U (W0 := w) [(w.heap.size, .cells (fa 8 (dg p)) 25 (0, 0)), (w.heap.size + 1, .cells (fa 8 (dg q)) 25 (0, 0)), (w.heap.size + 1 + 1, .cells (fa 8 (fun _ => 0)) 25 (0, 0))] (by kernel_rfl) (HK.out) ?_
        refine wpU_pY (i := 0) (v := .slice (some ⟨w.heap.size, 0, none⟩) 8 8) rfl rfl (by kernel_rfl) (by kernel_rfl) rfl (fun _ => by kernel_rfl) (by simp only [List.setIfInBounds_toArray, List.set_cons_succ, List.set_cons_zero] <;> rfl) ?_
        refine wpU_vY (i := 1) (v := .int .u64 (p : Int)) rfl rfl (by kernel_rfl) (by kernel_rfl) rfl (yb_call (f := 32) (args := #[.slice (some ⟨w.heap.size, 0, none⟩) 8 8]) (fun _ => by kernel_rfl) fun W hW => quiet_below (toSmall_num _ 8 8 p p 25 g1 (by omega) W (hW.2 _ (.head _)))) (by simp only [List.setIfInBounds_toArray, List.set_cons_succ, List.set_cons_zero] <;> rfl) ?_
        refine wpU_pY (i := 2) (v := .slice (some ⟨w.heap.size + 1, 0, none⟩) 8 8) rfl rfl (by kernel_rfl) (by kernel_rfl) rfl (fun _ => by kernel_rfl) (by simp only [List.setIfInBounds_toArray, List.set_cons_succ, List.set_cons_zero] <;> rfl) ?_
        refine wpU_vY (i := 3) (v := .int .u64 (q : Int)) rfl rfl (by kernel_rfl) (by kernel_rfl) rfl (yb_call (f := 32) (args := #[.slice (some ⟨w.heap.size + 1, 0, none⟩) 8 8]) (fun _ => by kernel_rfl) fun W hW => quiet_below (toSmall_num _ 8 8 q q 25 g3 (by omega) W (hW.2 _ (.tail _ (.head _))))) (by simp only [List.setIfInBounds_toArray, List.set_cons_succ, List.set_cons_zero] <;> rfl) ?_
        refine wpU_vY (i := 4) (v := .int .u64 (Nat.gcd p q : Int)) rfl rfl (by kernel_rfl) (by kernel_rfl) rfl (yb_call (f := 21) (args := #[.int .u64 (p : Int), .int .u64 (q : Int)]) (fun _ => by kernel_rfl) fun W hW => gcdSmall_any p q g2 g4 W) (by simp only [List.setIfInBounds_toArray, List.set_cons_succ, List.set_cons_zero] <;> rfl) ?_
        refine wpU_vY (i := 5) (v := num (Nat.gcd p q)) rfl rfl (by kernel_rfl) (by kernel_rfl) rfl (yb_call (f := 22) (args := #[.int .u64 (Nat.gcd p q : Int)]) (fun _ => by kernel_rfl) fun W hW => fromSmall_any (Nat.gcd p q) hg64 W) (by simp only [List.setIfInBounds_toArray, List.set_cons_succ, List.set_cons_zero] <;> rfl) ?_
        refine wpU_sY [(w.heap.size, .cells (fa 8 (dg p)) 25 (0, 0)), (w.heap.size + 1, .cells (fa 8 (dg q)) 25 (0, 0)), (w.heap.size + 1 + 1, .cells (fa 8 (dg (Nat.gcd p q))) 25 (0, 0))] (i := 6) rfl (by kernel_rfl) rfl rfl rfl
          (st_a rfl rfl rfl (.tail _ (.tail _ (.head _))) (by omega) size25 (by intro p hp; simp only [List.mem_cons, List.not_mem_nil, or_false] at hp; rcases hp with rfl | rfl | rfl; exact .inr ⟨by simp, by simp only; omega⟩; exact .inr ⟨by simp, by simp only; omega⟩; exact .inl rfl)) ?_
        refine wpU_done (by kernel_rfl) (fun W4 hW4 => ?_) _
        go_wp2_with fail
        exact bodyPost_ret (res_cell rfl rfl (hW4.2 _ (.tail _ (.tail _ (.head _)))) Tryd.underlying25 rfl (by rw [size25, fa_size])) rfl ⟨by rw [he.out], hW4.1⟩
      · clear g5 g6
        rcases hln with h1 | ⟨h1, h2⟩
        all_goals
          go_wp2_with (first
            | (refine wpList_lda rfl rfl rfl (HK.out.2 _ (.tail _ (.head _))) Tryd.underlying25 rfl size25 ?_)
            | (go_at_call 33; refine (length_any _ 0 8 8 (dg p) _ (by omega) (fun i hi => by rw [Nat.zero_add]; exact blk_cell (HK.out.2 _ (.head _)) hi)).mono ?_; rintro e w1 ⟨rfl, rfl⟩)
            | (go_at_call 33; refine (length_any _ 0 8 8 (dg q) _ (by omega) (fun i hi => by rw [Nat.zero_add]; exact blk_cell (HK.out.2 _ (.tail _ (.head _))) hi)).mono ?_; rintro e w1 ⟨rfl, rfl⟩))
          have hp17 : p < R 17 := lt_R_of_le hp (by omega)
          refine wp_region_U (W0 := w) [(w.heap.size, .cells (fa 8 (dg p)) 25 (0, 0)), (w.heap.size + 1, .cells (fa 8 (dg q)) 25 (0, 0)), (w.heap.size + 1 + 1, .cells (fa 8 (fun _ => 0)) 25 (0, 0))] (by kernel_rfl) (HK.out) ?_
          refine wpU_vY (i := 0) (v := num p) rfl rfl (by kernel_rfl) (by kernel_rfl) rfl (yb_lda rfl (by kernel_rfl) (.head _) Tryd.underlying25 rfl size25) (by simp only [List.setIfInBounds_toArray, List.set_cons_succ, List.set_cons_zero] <;> rfl) ?_
          refine wpU_vY (i := 1) (v := wid p) rfl rfl (by kernel_rfl) (by kernel_rfl) rfl (yb_call (f := 30) (args := #[num p]) (fun _ => by kernel_rfl) fun W hW => widen_any p hp W) (by simp only [List.setIfInBounds_toArray, List.set_cons_succ, List.set_cons_zero] <;> rfl) ?_
          refine wpU_vY (i := 2) (v := num q) rfl rfl (by kernel_rfl) (by kernel_rfl) rfl (yb_lda rfl (by kernel_rfl) (.tail _ (.head _)) Tryd.underlying25 rfl size25) (by simp only [List.setIfInBounds_toArray, List.set_cons_succ, List.set_cons_zero] <;> rfl) ?_
          refine wpU_vY (i := 3) (v := .tuple #[wid (p / q), num (p % q)]) rfl rfl (by kernel_rfl) (by kernel_rfl) rfl (yb_call (f := 29) (args := #[wid p, num q]) (fun _ => by kernel_rfl) fun W hW => divide_any p q hp17 hq hpos W) (by simp only [List.setIfInBounds_toArray, List.set_cons_succ, List.set_cons_zero] <;> rfl) ?_
          refine wpU_pY (i := 4) (v := .tuple #[wid (p / q), num (p % q)]) rfl rfl (by kernel_rfl) (by kernel_rfl) rfl (fun _ => by kernel_rfl) (by simp only [List.setIfInBounds_toArray, List.set_cons_succ, List.set_cons_zero] <;> rfl) ?_
          refine wpU_pY (i := 5) (v := wid (p / q)) rfl rfl (by kernel_rfl) (by kernel_rfl) rfl (fun _ => by kernel_rfl) (by simp only [List.setIfInBounds_toArray, List.set_cons_succ, List.set_cons_zero] <;> rfl) ?_
          refine wpU_pY (i := 6) (v := num (p % q)) rfl rfl (by kernel_rfl) (by kernel_rfl) rfl (fun _ => by kernel_rfl) (by simp only [List.setIfInBounds_toArray, List.set_cons_succ, List.set_cons_zero] <;> rfl) ?_
          refine wpU_twoY (i := 7) (j := 8) (obi := .cells (fa 18 (fun _ => 0)) 56 (0, 0)) (obj := .cells (fa 8 (fun _ => 0)) 25 (0, 0)) rfl rfl rfl rfl rfl rfl (by kernel_rfl) (by kernel_rfl) (by kernel_rfl) (by kernel_rfl) (fun _ _ => rfl) (fun _ _ => rfl) (fun _ _ => by simp only [List.setIfInBounds_toArray, List.set_cons_succ, List.set_cons_zero] <;> rfl) (fun _ _ => by simp only [List.setIfInBounds_toArray, List.set_cons_succ, List.set_cons_zero] <;> rfl) fun g h Bg Bh Dgh Fg Fh => ?_
          simp only [List.forall_mem_cons] at Fg Fh
          refine wpU_sY [(g, .cells (fa 18 (dg (p / q))) 56 (0, 0)), (h, .cells (fa 8 (fun _ => 0)) 25 (0, 0)), (w.heap.size, .cells (fa 8 (dg p)) 25 (0, 0)), (w.heap.size + 1, .cells (fa 8 (dg q)) 25 (0, 0)), (w.heap.size + 1 + 1, .cells (fa 8 (fun _ => 0)) 25 (0, 0))] (i := 9) rfl (by kernel_rfl) rfl rfl rfl
            (st_a rfl rfl rfl (.head _) (by omega) size65 (by intro p hp; simp only [List.mem_cons, List.not_mem_nil, or_false] at hp; rcases hp with rfl | rfl | rfl | rfl | rfl; exact .inl rfl; exact .inr ⟨by simp, by simp only; omega⟩; exact .inr ⟨by simp, by simp only; omega⟩; exact .inr ⟨by simp, by simp only; omega⟩; exact .inr ⟨by simp, by simp only; omega⟩)) ?_
          refine wpU_sY [(g, .cells (fa 18 (dg (p / q))) 56 (0, 0)), (h, .cells (fa 8 (dg (p % q))) 25 (0, 0)), (w.heap.size, .cells (fa 8 (dg p)) 25 (0, 0)), (w.heap.size + 1, .cells (fa 8 (dg q)) 25 (0, 0)), (w.heap.size + 1 + 1, .cells (fa 8 (fun _ => 0)) 25 (0, 0))] (i := 10) rfl (by kernel_rfl) rfl rfl rfl
            (st_a rfl rfl rfl (.tail _ (.head _)) (by omega) size25 (by intro p hp; simp only [List.mem_cons, List.not_mem_nil, or_false] at hp; rcases hp with rfl | rfl | rfl | rfl | rfl; exact .inr ⟨by simp, by simp only; omega⟩; exact .inl rfl; exact .inr ⟨by simp, by simp only; omega⟩; exact .inr ⟨by simp, by simp only; omega⟩; exact .inr ⟨by simp, by simp only; omega⟩)) ?_
          refine wpU_done (by kernel_rfl) (fun W4 hW4 => ?_) _
          obtain ⟨Bg', Fg', Fh'⟩ : w.heap.size ≤ g ∧ (w.heap.size + 1 ≠ g ∧ w.heap.size + 1 + 1 ≠ g) ∧ (w.heap.size ≠ h ∧ w.heap.size + 1 ≠ h ∧ w.heap.size + 1 + 1 ≠ h) := ⟨Bg, ⟨Fg.2.1, Fg.2.2.1⟩, ⟨Fh.1, Fh.2.1, Fh.2.2.1⟩⟩
          go_wp2_with fail
          have FIN : ∀ X, KS w [(g, .cells (fa 18 (dg (p / q))) 56 (0, 0)), (h, .cells (fa 8 (dg (p % q))) 25 (0, 0)), (w.heap.size, .cells (fa 8 (dg q)) 25 (0, 0)), (w.heap.size + 1, .cells (fa 8 (dg (p % q))) 25 (0, 0)), (w.heap.size + 1 + 1, .cells (fa 8 (fun _ => 0)) 25 (0, 0))] X → Hid (KS w [(w.heap.size, .cells (fa 8 (dg q)) 25 (0, 0)), (w.heap.size + 1, .cells (fa 8 (dg (p % q))) 25 (0, 0)), (w.heap.size + 1 + 1, .cells (fa 8 (fun _ => 0)) 25 (0, 0))] X) := fun X hX => hX.sub (by
            intro x hx; exact .tail _ (.tail _ hx))
          refine wp_region_U (W0 := w) [(g, .cells (fa 18 (dg (p / q))) 56 (0, 0)), (h, .cells (fa 8 (dg (p % q))) 25 (0, 0)), (w.heap.size, .cells (fa 8 (dg p)) 25 (0, 0)), (w.heap.size + 1, .cells (fa 8 (dg q)) 25 (0, 0)), (w.heap.size + 1 + 1, .cells (fa 8 (fun _ => 0)) 25 (0, 0))] (by kernel_rfl) (hW4) ?_
          refine wpU_vY (i := 0) (v := num q) rfl rfl (by kernel_rfl) (by kernel_rfl) rfl (yb_lda rfl (by kernel_rfl) (.tail _ (.tail _ (.tail _ (.head _)))) Tryd.underlying25 rfl size25) (by simp only [List.setIfInBounds_toArray, List.set_cons_succ, List.set_cons_zero] <;> rfl) ?_
          refine wpU_2 (i := 1) (j := 2) (by kernel_rfl) ?_ ?_
          · refine stepU_vY (i := 1) (v := num (p % q)) rfl rfl (by kernel_rfl) rfl (yb_lda rfl (by kernel_rfl) (.tail _ (.head _)) Tryd.underlying25 rfl size25) (by simp only [List.setIfInBounds_toArray, List.set_cons_succ, List.set_cons_zero] <;> rfl) ?_
            refine wpU_sY [(g, .cells (fa 18 (dg (p / q))) 56 (0, 0)), (h, .cells (fa 8 (dg (p % q))) 25 (0, 0)), (w.heap.size, .cells (fa 8 (dg q)) 25 (0, 0)), (w.heap.size + 1, .cells (fa 8 (dg q)) 25 (0, 0)), (w.heap.size + 1 + 1, .cells (fa 8 (fun _ => 0)) 25 (0, 0))] (i := 2) rfl (by kernel_rfl) rfl rfl rfl
              (st_a rfl rfl rfl (.tail _ (.tail _ (.head _))) (by omega) size25 (by intro p hp; simp only [List.mem_cons, List.not_mem_nil, or_false] at hp; rcases hp with rfl | rfl | rfl | rfl | rfl; exact .inr ⟨by simp, by simp only; omega⟩; exact .inr ⟨by simp, by simp only; omega⟩; exact .inl rfl; exact .inr ⟨by simp, by simp only; omega⟩; exact .inr ⟨by simp, by simp only; omega⟩)) ?_
            refine wpU_sY [(g, .cells (fa 18 (dg (p / q))) 56 (0, 0)), (h, .cells (fa 8 (dg (p % q))) 25 (0, 0)), (w.heap.size, .cells (fa 8 (dg q)) 25 (0, 0)), (w.heap.size + 1, .cells (fa 8 (dg (p % q))) 25 (0, 0)), (w.heap.size + 1 + 1, .cells (fa 8 (fun _ => 0)) 25 (0, 0))] (i := 3) rfl (by kernel_rfl) rfl rfl rfl
              (st_a rfl rfl rfl (.tail _ (.tail _ (.tail _ (.head _)))) (by omega) size25 (by intro p hp; simp only [List.mem_cons, List.not_mem_nil, or_false] at hp; rcases hp with rfl | rfl | rfl | rfl | rfl; exact .inr ⟨by simp, by simp only; omega⟩; exact .inr ⟨by simp, by simp only; omega⟩; exact .inr ⟨by simp, by simp only; omega⟩; exact .inl rfl; exact .inr ⟨by simp, by simp only; omega⟩)) ?_
            refine wpU_done (by kernel_rfl) (fun W4 hW4 => ?_) _
            have F := FIN _ hW4
            clear FIN hW4
            go_roundw
            case rel => (repeat apply Exists.intro); exact ⟨⟨q, p % q, hq, Nat.lt_trans (Nat.mod_lt p hpos) hq, by unfold Hid; rw [he.out, Nat.gcd_comm p q, Nat.gcd_rec q p, Nat.gcd_comm], F⟩, rfl⟩
            case measure =>
              rw [valAt_eq (Nat.lt_trans (Nat.mod_lt p hpos) hq) (F.out.2 _ (.tail _ (.head _))), valAt_eq hq (HK.out.2 _ (.tail _ (.head _)))]
              exact Nat.mod_lt p hpos
          · refine stepU_sY [(g, .cells (fa 18 (dg (p / q))) 56 (0, 0)), (h, .cells (fa 8 (dg (p % q))) 25 (0, 0)), (w.heap.size, .cells (fa 8 (dg q)) 25 (0, 0)), (w.heap.size + 1, .cells (fa 8 (dg q)) 25 (0, 0)), (w.heap.size + 1 + 1, .cells (fa 8 (fun _ => 0)) 25 (0, 0))] (i := 2) rfl rfl rfl rfl
              (st_a rfl rfl rfl (.tail _ (.tail _ (.head _))) (by omega) size25 (by intro p hp; simp only [List.mem_cons, List.not_mem_nil, or_false] at hp; rcases hp with rfl | rfl | rfl | rfl | rfl; exact .inr ⟨by simp, by simp only; omega⟩; exact .inr ⟨by simp, by simp only; omega⟩; exact .inl rfl; exact .inr ⟨by simp, by simp only; omega⟩; exact .inr ⟨by simp, by simp only; omega⟩)) ?_
            refine wpU_1 (i := 1) (by kernel_rfl) (stepU_vY (i := 1) (v := num (p % q)) rfl rfl (by kernel_rfl) rfl (yb_lda rfl (by kernel_rfl) (.tail _ (.head _)) Tryd.underlying25 rfl size25) (by simp only [List.setIfInBounds_toArray, List.set_cons_succ, List.set_cons_zero] <;> rfl) ?_)
            refine wpU_sY [(g, .cells (fa 18 (dg (p / q))) 56 (0, 0)), (h, .cells (fa 8 (dg (p % q))) 25 (0, 0)), (w.heap.size, .cells (fa 8 (dg q)) 25 (0, 0)), (w.heap.size + 1, .cells (fa 8 (dg (p % q))) 25 (0, 0)), (w.heap.size + 1 + 1, .cells (fa 8 (fun _ => 0)) 25 (0, 0))] (i := 3) rfl (by kernel_rfl) rfl rfl rfl
              (st_a rfl rfl rfl (.tail _ (.tail _ (.tail _ (.head _)))) (by omega) size25 (by intro p hp; simp only [List.mem_cons, List.not_mem_nil, or_false] at hp; rcases hp with rfl | rfl | rfl | rfl | rfl; exact .inr ⟨by simp, by simp only; omega⟩; exact .inr ⟨by simp, by simp only; omega⟩; exact .inr ⟨by simp, by simp only; omega⟩; exact .inl rfl; exact .inr ⟨by simp, by simp only; omega⟩)) ?_
            refine wpU_done (by kernel_rfl) (fun W4 hW4 => ?_) _
            have F := FIN _ hW4
            clear FIN hW4
            go_roundw
            case rel => (repeat apply Exists.intro); exact ⟨⟨q, p % q, hq, Nat.lt_trans (Nat.mod_lt p hpos) hq, by unfold Hid; rw [he.out, Nat.gcd_comm p q, Nat.gcd_rec q p, Nat.gcd_comm], F⟩, rfl⟩
            case measure =>
              rw [valAt_eq (Nat.lt_trans (Nat.mod_lt p hpos) hq) (F.out.2 _ (.tail _ (.head _))), valAt_eq hq (HK.out.2 _ (.tail _ (.head _)))]
              exact Nat.mod_lt p hpos
end Go.Proofs.YtalmflgkbmnghaaDoor
namespace Go.Proofs.YtalmflgkbmnghaaDoor
open Go.RowKit Tf
variable [ShLZ]
def rightB (neg : Bool) (n d : Nat) : Bool := if n = 0 then decide (neg = false ∧ d = 1) else decide (d ≠ 0 ∧ Nat.gcd n d = 1)
theorem ret_bool {a b : Bool} (h : a = b) : Ending.returned (.bool a) = .returned (.bool b) := by rw [h]

set_option maxRecDepth 100000 in
set_option maxHeartbeats 1000000 in
theorem right_any (neg : Bool) (n d : Nat) (hn : n < R 8) (hd : d < R 8) (w : World) :
    Calls Tryd.prog 25 #[frc neg n d] w fun e w' => e = .returned (.bool (rightB neg n d)) ∧ Below w.heap.size w w' := by
  unfold frc
  go_enter Tryd.func25, Tryd.ntmps25
  go_upto_region 1 with (fail)
  have hK := KS.one w (.cells (frcC neg n d) 27)
  obtain ⟨W, hW⟩ : ∃ W, W = w.alloc (.cells (frcC neg n d) 27) := ⟨_, rfl⟩
  rw [← hW] at hK
  rw [← hW]
  clear hW
  have HK := Lib.hid hK
  clear hK
  rcases Nat.eq_zero_or_pos n with rfl | hpos
  · go_wp2_with (first
      | (refine wpList_ldn rfl rfl rfl (HK.out.2 _ (.head _)) Tryd.underlying25 rfl size25 ?_)
      | (refine wpList_ldw rfl rfl rfl (HK.out.2 _ (.head _)) Tryd.underlying27 rfl size27 ?_))
    go_ret
    exact ⟨ret_bool (by rw [rightB, if_pos rfl]; simp), HK.out.1⟩
  · have hne : ¬ n = 0 := by omega
    have HR := Lib.hid (show rightB neg n d = decide (d ≠ 0 ∧ Nat.gcd n d = 1) from if_neg hne)
    have hg : Nat.gcd n d < R 8 := Nat.lt_of_le_of_lt (Nat.gcd_le_left d hpos) hn
    rcases Nat.eq_zero_or_pos d with rfl | hdp
    · go_wp2_with (first
        | (refine wpList_ldn rfl rfl rfl (HK.out.2 _ (.head _)) Tryd.underlying25 rfl size25 ?_)
        | (refine wpList_ldd rfl rfl rfl (HK.out.2 _ (.head _)) Tryd.underlying25 rfl size25 ?_))
      go_ret
      exact ⟨ret_bool (by rw [HR.out]; simp), HK.out.1⟩
    · have hde : ¬ d = 0 := by omega
      go_wp2_with (first
        | (refine wpList_ldn rfl rfl rfl (HK.out.2 _ (.head _)) Tryd.underlying25 rfl size25 ?_)
        | (refine wpList_ldd rfl rfl rfl (HK.out.2 _ (.head _)) Tryd.underlying25 rfl size25 ?_)
        | (refine wpList_guard rfl ?_; refine wpList_ldn rfl rfl rfl (HK.out.2 _ (.head _)) Tryd.underlying25 rfl size25 ?_)
        | (refine wpList_guard rfl ?_; refine wpList_ldd rfl rfl rfl (HK.out.2 _ (.head _)) Tryd.underlying25 rfl size25 ?_)
        | (go_at_call 48; refine (gcd_any n d hn hd _).mono ?_; rintro e w1 ⟨rfl, hb1⟩; have HK2 := Lib.hid (HK.out.below hb1); clear hb1; unfold num))
      go_ret
      exact ⟨ret_bool (by rw [HR.out]; simp [hde]), HK2.out.1⟩
end Go.Proofs.YtalmflgkbmnghaaDoor
namespace Go.Proofs.YtalmflgkbmnghaaDoor
open Go.RowKit Tf
def packV (neg : Bool) (n d : Nat) : Value := if n < R 8 ∧ d < R 8 then .tuple #[frc (neg && decide (n ≠ 0)) n d, .int .i64 0] else .tuple #[frc false 0 0, .int .i64 3]
theorem packV_yes {neg : Bool} {n d : Nat} (hn : n < R 8) (hd : d < R 8) : packV neg n d = .tuple #[frc (neg && decide (n ≠ 0)) n d, .int .i64 0] := if_pos ⟨hn, hd⟩
theorem packV_no {neg : Bool} {n d : Nat} (h : ¬ (n < R 8 ∧ d < R 8)) : packV neg n d = .tuple #[frc false 0 0, .int .i64 3] := if_neg h

set_option maxRecDepth 100000 in
set_option maxHeartbeats 2000000 in
theorem pack_any (neg : Bool) (n d : Nat) (hn : n < R 18) (hd : d < R 18) (w : World) :
    Calls Tryd.prog 52 #[.bool neg, wid n, wid d] w fun e w' => e = .returned (packV neg n d) ∧ Below w.heap.size w w' := by
  unfold wid
  go_enter Tryd.func52, Tryd.ntmps52
  go_upto_region 1 with (fail)
  have hK := KS.three w (.cells (fa 18 (dg n)) 56) (.cells (fa 18 (dg d)) 56) (.cells (frcC false 0 0) 27)
  obtain ⟨W, hW⟩ : ∃ W, W = ((w.alloc (.cells (fa 18 (dg n)) 56)).alloc (.cells (fa 18 (dg d)) 56)).alloc (.cells (frcC false 0 0) 27) := ⟨_, rfl⟩
  rw [← hW] at hK
  rw [frc_zero] at hW
  rw [← hW]
  clear hW
  have HK := Lib.hid hK
  clear hK
  by_cases hn8 : n < R 8
  · by_cases hd8 : d < R 8
    · cases neg
      · go_upto_region 2 with (first
          | (refine wpList_lda rfl rfl rfl (HK.out.2 _ (.head _)) Tryd.underlying56 rfl size65 ?_)
          | (go_at_call 64; refine (narrow_yes n hn8 _).mono ?_; rintro e w1 ⟨rfl, hb1⟩; have HK2 := Lib.hid (HK.out.below hb1); clear hb1; unfold num)
          | (refine wpList_sta (f := dg n) (f' := fun _ => 0) rfl rfl rfl rfl (heap1 w1 _) size25 ?_))
        obtain ⟨f1, f2⟩ := HK2.out.fresh
        have HK3 := Lib.hid (HK2.out.newvar (cs := fa 8 (fun _ => 0)) (cs' := fa 8 (dg n)) (t := 25))
        simp only [List.forall_mem_cons] at f2
        obtain ⟨q1, q2, q3, _⟩ := f2
        have f3 := f1
        rw [← fa_zero8]
        generalize (w1.alloc (.cells (fa 8 (fun _ => 0)) 25)).setRow w1.heap.size (fa 8 (dg n)) = W2 at *
        clear HK2 HK f1
        generalize w1.heap.size = w2 at *
        go_upto_region 3 with (first
          | (refine wpList_lda rfl rfl rfl (HK3.out.2 _ (.tail _ (.tail _ (.head _)))) Tryd.underlying56 rfl size65 ?_)
          | (go_at_call 64; refine (narrow_yes d hd8 _).mono ?_; rintro e w4 ⟨rfl, hb1⟩; have HK4 := Lib.hid (HK3.out.below hb1); clear hb1; unfold num)
          | (refine wpList_sta (f := dg d) (f' := fun _ => 0) rfl rfl rfl rfl (heap1 w4 _) size25 ?_))
        obtain ⟨f1, f2⟩ := HK4.out.fresh
        have HK5 := Lib.hid (HK4.out.newvar (cs := fa 8 (fun _ => 0)) (cs' := fa 8 (dg d)) (t := 25))
        simp only [List.forall_mem_cons] at f2
        obtain ⟨r0, r1, r2, r3, _⟩ := f2
        rw [← fa_zero8]
        generalize (w4.alloc (.cells (fa 8 (fun _ => 0)) 25)).setRow w4.heap.size (fa 8 (dg d)) = W3 at *
        clear HK4 HK3
        generalize w4.heap.size = w3 at *
        go_wp2_with fail
        refine wp_region_U (W0 := w) [(w3, .cells (fa 8 (dg d)) 25 (0, 0)), (w2, .cells (fa 8 (dg n)) 25 (0, 0)), (w.heap.size, .cells (fa 18 (dg n)) 56 (0, 0)), (w.heap.size + 1, .cells (fa 18 (dg d)) 56 (0, 0)), (w.heap.size + 1 + 1, .cells (frcC (false) (0) (0)) 27 (0, 0))] (by kernel_rfl) (HK5.out) ?_
        refine wpU_pY (i := 0) (v := .bool false) rfl rfl (by kernel_rfl) (by kernel_rfl) rfl (fun _ => by kernel_rfl) (by simp only [List.setIfInBounds_toArray, List.set_cons_succ, List.set_cons_zero] <;> rfl) ?_
        refine wpU_pY (i := 1) (v := .bool false) rfl rfl (by kernel_rfl) (by kernel_rfl) rfl (fun _ => by kernel_rfl) (by simp only [List.setIfInBounds_toArray, List.set_cons_succ, List.set_cons_zero] <;> rfl) ?_
        refine wpU_nY (i := 2) rfl rfl (by kernel_rfl) (by kernel_rfl) (by simp only [List.setIfInBounds_toArray, List.set_cons_succ, List.set_cons_zero] <;> rfl) ?_
        refine wpU_nY (i := 3) rfl rfl (by kernel_rfl) (by kernel_rfl) (by simp only [List.setIfInBounds_toArray, List.set_cons_succ, List.set_cons_zero] <;> rfl) ?_
        refine wpU_nY (i := 4) rfl rfl (by kernel_rfl) (by kernel_rfl) (by simp only [List.setIfInBounds_toArray, List.set_cons_succ, List.set_cons_zero] <;> rfl) ?_
        refine wpU_pY (i := 5) (v := .bool (false)) rfl rfl (by kernel_rfl) (by kernel_rfl) rfl (fun _ => by kernel_rfl) (by simp only [List.setIfInBounds_toArray, List.set_cons_succ, List.set_cons_zero] <;> rfl) ?_
        refine wpU_vY (i := 6) (v := num n) rfl rfl (by kernel_rfl) (by kernel_rfl) rfl (yb_lda rfl (by kernel_rfl) (.tail _ (.head _)) Tryd.underlying25 rfl size25) (by simp only [List.setIfInBounds_toArray, List.set_cons_succ, List.set_cons_zero] <;> rfl) ?_
        refine wpU_vY (i := 7) (v := num d) rfl rfl (by kernel_rfl) (by kernel_rfl) rfl (yb_lda rfl (by kernel_rfl) (.head _) Tryd.underlying25 rfl size25) (by simp only [List.setIfInBounds_toArray, List.set_cons_succ, List.set_cons_zero] <;> rfl) ?_
        refine wpU_pY (i := 8) (v := frc (false) n d) rfl rfl (by kernel_rfl) (by kernel_rfl) rfl (fun _ => by kernel_rfl) (by simp only [List.setIfInBounds_toArray, List.set_cons_succ, List.set_cons_zero] <;> rfl) ?_
        refine wpU_sY [(w3, .cells (fa 8 (dg d)) 25 (0, 0)), (w2, .cells (fa 8 (dg n)) 25 (0, 0)), (w.heap.size, .cells (fa 18 (dg n)) 56 (0, 0)), (w.heap.size + 1, .cells (fa 18 (dg d)) 56 (0, 0)), (w.heap.size + 1 + 1, .cells (frcC (false) (n) (d)) 27 (0, 0))] (i := 9) rfl (by kernel_rfl) rfl rfl rfl
          (st_f (neg := false) (n := n) (d := d) rfl (by kernel_rfl) (by kernel_rfl) (.tail _ (.tail _ (.tail _ (.tail _ (.head _))))) (by omega) size27 (by intro p hp; simp only [List.mem_cons, List.not_mem_nil, or_false] at hp; rcases hp with rfl | rfl | rfl | rfl | rfl; exact .inr ⟨by simp, by simp only; omega⟩; exact .inr ⟨by simp, by simp only; omega⟩; exact .inr ⟨by simp, by simp only; omega⟩; exact .inr ⟨by simp, by simp only; omega⟩; exact .inl rfl)) ?_
        refine wpU_pY (i := 10) (v := .int .i64 0) rfl rfl (by kernel_rfl) (by kernel_rfl) rfl (fun _ => by kernel_rfl) (by simp only [List.setIfInBounds_toArray, List.set_cons_succ, List.set_cons_zero] <;> rfl) ?_
        refine wpU_done (by kernel_rfl) (fun W4 hW4 => ?_) _
        go_wp2_with fail
        refine bodyPost_ret (res_cell_tmp rfl rfl (hW4.2 _ (.tail _ (.tail _ (.tail _ (.tail _ (.head _)))))) Tryd.underlying27 rfl (by rw [size27, frcC_size])) rfl ⟨?_, hW4.1⟩
        rw [packV_yes hn8 hd8]
        simp [frc]
      · go_upto_region 2 with (first
          | (refine wpList_lda rfl rfl rfl (HK.out.2 _ (.head _)) Tryd.underlying56 rfl size65 ?_)
          | (go_at_call 64; refine (narrow_yes n hn8 _).mono ?_; rintro e w1 ⟨rfl, hb1⟩; have HK2 := Lib.hid (HK.out.below hb1); clear hb1; unfold num)
          | (refine wpList_sta (f := dg n) (f' := fun _ => 0) rfl rfl rfl rfl (heap1 w1 _) size25 ?_))
        obtain ⟨f1, f2⟩ := HK2.out.fresh
        have HK3 := Lib.hid (HK2.out.newvar (cs := fa 8 (fun _ => 0)) (cs' := fa 8 (dg n)) (t := 25))
        simp only [List.forall_mem_cons] at f2
        obtain ⟨q1, q2, q3, _⟩ := f2
        have f3 := f1
        rw [← fa_zero8]
        generalize (w1.alloc (.cells (fa 8 (fun _ => 0)) 25)).setRow w1.heap.size (fa 8 (dg n)) = W2 at *
        clear HK2 HK f1
        generalize w1.heap.size = w2 at *
        go_upto_region 3 with (first
          | (refine wpList_lda rfl rfl rfl (HK3.out.2 _ (.tail _ (.tail _ (.head _)))) Tryd.underlying56 rfl size65 ?_)
          | (go_at_call 64; refine (narrow_yes d hd8 _).mono ?_; rintro e w4 ⟨rfl, hb1⟩; have HK4 := Lib.hid (HK3.out.below hb1); clear hb1; unfold num)
          | (refine wpList_sta (f := dg d) (f' := fun _ => 0) rfl rfl rfl rfl (heap1 w4 _) size25 ?_))
        obtain ⟨f1, f2⟩ := HK4.out.fresh
        have HK5 := Lib.hid (HK4.out.newvar (cs := fa 8 (fun _ => 0)) (cs' := fa 8 (dg d)) (t := 25))
        simp only [List.forall_mem_cons] at f2
        obtain ⟨r0, r1, r2, r3, _⟩ := f2
        rw [← fa_zero8]
        generalize (w4.alloc (.cells (fa 8 (fun _ => 0)) 25)).setRow w4.heap.size (fa 8 (dg d)) = W3 at *
        clear HK4 HK3
        generalize w4.heap.size = w3 at *
        go_wp2_with fail
        refine wp_region_U (W0 := w) [(w3, .cells (fa 8 (dg d)) 25 (0, 0)), (w2, .cells (fa 8 (dg n)) 25 (0, 0)), (w.heap.size, .cells (fa 18 (dg n)) 56 (0, 0)), (w.heap.size + 1, .cells (fa 18 (dg d)) 56 (0, 0)), (w.heap.size + 1 + 1, .cells (frcC (false) (0) (0)) 27 (0, 0))] (by kernel_rfl) (HK5.out) ?_
        refine wpU_pY (i := 0) (v := .bool true) rfl rfl (by kernel_rfl) (by kernel_rfl) rfl (fun _ => by kernel_rfl) (by simp only [List.setIfInBounds_toArray, List.set_cons_succ, List.set_cons_zero] <;> rfl) ?_
        refine wpU_pY (i := 1) (v := .bool true) rfl rfl (by kernel_rfl) (by kernel_rfl) rfl (fun _ => by kernel_rfl) (by simp only [List.setIfInBounds_toArray, List.set_cons_succ, List.set_cons_zero] <;> rfl) ?_
        refine wpU_vY (i := 2) (v := num n) rfl rfl (by kernel_rfl) (by kernel_rfl) rfl (yb_lda rfl (by kernel_rfl) (.tail _ (.head _)) Tryd.underlying25 rfl size25) (by simp only [List.setIfInBounds_toArray, List.set_cons_succ, List.set_cons_zero] <;> rfl) ?_
        refine wpU_pY (i := 3) (v := .agg #[.int .u32 0, .int .u32 0, .int .u32 0, .int .u32 0, .int .u32 0, .int .u32 0, .int .u32 0, .int .u32 0]) rfl rfl (by kernel_rfl) (by kernel_rfl) rfl (fun _ => by kernel_rfl) (by simp only [List.setIfInBounds_toArray, List.set_cons_succ, List.set_cons_zero] <;> rfl) ?_
        refine wpU_pY (i := 4) (v := .bool (!decide (n = 0))) rfl rfl (by kernel_rfl) (by kernel_rfl) rfl (run_binY rfl (vx := num n) (vy := .agg #[.int .u32 0, .int .u32 0, .int .u32 0, .int .u32 0, .int .u32 0, .int .u32 0, .int .u32 0, .int .u32 0]) (by kernel_rfl) (by kernel_rfl) fun w => run_neq25_nil hn8 w) (by simp only [List.setIfInBounds_toArray, List.set_cons_succ, List.set_cons_zero] <;> rfl) ?_
        refine wpU_pY (i := 5) (v := .bool (!decide (n = 0))) rfl rfl (by kernel_rfl) (by kernel_rfl) rfl (fun _ => by kernel_rfl) (by simp only [List.setIfInBounds_toArray, List.set_cons_succ, List.set_cons_zero] <;> rfl) ?_
        refine wpU_vY (i := 6) (v := num n) rfl rfl (by kernel_rfl) (by kernel_rfl) rfl (yb_lda rfl (by kernel_rfl) (.tail _ (.head _)) Tryd.underlying25 rfl size25) (by simp only [List.setIfInBounds_toArray, List.set_cons_succ, List.set_cons_zero] <;> rfl) ?_
        refine wpU_vY (i := 7) (v := num d) rfl rfl (by kernel_rfl) (by kernel_rfl) rfl (yb_lda rfl (by kernel_rfl) (.head _) Tryd.underlying25 rfl size25) (by simp only [List.setIfInBounds_toArray, List.set_cons_succ, List.set_cons_zero] <;> rfl) ?_
        refine wpU_pY (i := 8) (v := frc (!decide (n = 0)) n d) rfl rfl (by kernel_rfl) (by kernel_rfl) rfl (fun _ => by kernel_rfl) (by simp only [List.setIfInBounds_toArray, List.set_cons_succ, List.set_cons_zero] <;> rfl) ?_
        refine wpU_sY [(w3, .cells (fa 8 (dg d)) 25 (0, 0)), (w2, .cells (fa 8 (dg n)) 25 (0, 0)), (w.heap.size, .cells (fa 18 (dg n)) 56 (0, 0)), (w.heap.size + 1, .cells (fa 18 (dg d)) 56 (0, 0)), (w.heap.size + 1 + 1, .cells (frcC (!decide (n = 0)) (n) (d)) 27 (0, 0))] (i := 9) rfl (by kernel_rfl) rfl rfl rfl
          (st_f (neg := !decide (n = 0)) (n := n) (d := d) rfl (by kernel_rfl) (by kernel_rfl) (.tail _ (.tail _ (.tail _ (.tail _ (.head _))))) (by omega) size27 (by intro p hp; simp only [List.mem_cons, List.not_mem_nil, or_false] at hp; rcases hp with rfl | rfl | rfl | rfl | rfl; exact .inr ⟨by simp, by simp only; omega⟩; exact .inr ⟨by simp, by simp only; omega⟩; exact .inr ⟨by simp, by simp only; omega⟩; exact .inr ⟨by simp, by simp only; omega⟩; exact .inl rfl)) ?_
        refine wpU_pY (i := 10) (v := .int .i64 0) rfl rfl (by kernel_rfl) (by kernel_rfl) rfl (fun _ => by kernel_rfl) (by simp only [List.setIfInBounds_toArray, List.set_cons_succ, List.set_cons_zero] <;> rfl) ?_
        refine wpU_done (by kernel_rfl) (fun W4 hW4 => ?_) _
        go_wp2_with fail
        refine bodyPost_ret (res_cell_tmp rfl rfl (hW4.2 _ (.tail _ (.tail _ (.tail _ (.tail _ (.head _)))))) Tryd.underlying27 rfl (by rw [size27, frcC_size])) rfl ⟨?_, hW4.1⟩
        rw [packV_yes hn8 hd8]
        simp [frc]
    · go_upto_region 2 with (first
        | (refine wpList_lda rfl rfl rfl (HK.out.2 _ (.head _)) Tryd.underlying56 rfl size65 ?_)
        | (go_at_call 64; refine (narrow_yes n hn8 _).mono ?_; rintro e w1 ⟨rfl, hb1⟩; have HK2 := Lib.hid (HK.out.below hb1); clear hb1; unfold num)
        | (refine wpList_sta (f := dg n) (f' := fun _ => 0) rfl rfl rfl rfl (heap1 w1 _) size25 ?_))
      obtain ⟨f1, f2⟩ := HK2.out.fresh
      have HK3 := Lib.hid (HK2.out.newvar (cs := fa 8 (fun _ => 0)) (cs' := fa 8 (dg n)) (t := 25))
      simp only [List.forall_mem_cons] at f2
      obtain ⟨q1, q2, q3, _⟩ := f2
      have f3 := f1
      rw [← fa_zero8]
      generalize (w1.alloc (.cells (fa 8 (fun _ => 0)) 25)).setRow w1.heap.size (fa 8 (dg n)) = W2 at *
      clear HK2 HK f1
      generalize w1.heap.size = w2 at *
      go_upto_region 3 with (first
        | (refine wpList_lda rfl rfl rfl (HK3.out.2 _ (.tail _ (.tail _ (.head _)))) Tryd.underlying56 rfl size65 ?_)
        | (go_at_call 64; refine (narrow_no d hd (Nat.le_of_not_lt hd8) _).mono ?_; rintro e w4 ⟨rfl, hb1⟩; have HK4 := Lib.hid (HK3.out.below hb1); clear hb1; unfold num)
        | (refine wpList_sta (f := dg 0) (f' := fun _ => 0) rfl rfl rfl rfl (heap1 w4 _) size25 ?_))
      obtain ⟨f1, f2⟩ := HK4.out.fresh
      have HK5 := Lib.hid (HK4.out.newvar (cs := fa 8 (fun _ => 0)) (cs' := fa 8 (dg 0)) (t := 25))
      simp only [List.forall_mem_cons] at f2
      obtain ⟨r0, r1, r2, r3, _⟩ := f2
      rw [← fa_zero8]
      generalize (w4.alloc (.cells (fa 8 (fun _ => 0)) 25)).setRow w4.heap.size (fa 8 (dg 0)) = W3 at *
      clear HK4 HK3
      generalize w4.heap.size = w3 at *
      go_wp2_with (first
        | (refine wpList_stf (neg := false) (n := 0) (d := 0) (neg' := false) (n' := 0) (d' := 0) rfl rfl rfl (by rw [frc_zero]; rfl) (HK5.out.2 _ (.tail _ (.tail _ (.tail _ (.tail _ (.head _)))))) size27 ?_))
      refine bodyPost_ret (res_cell_tmp rfl rfl (setRow_heap _ _ _ _ _ _ (HK5.out.2 _ (.tail _ (.tail _ (.tail _ (.tail _ (.head _))))))) Tryd.underlying27 rfl (by rw [size27, frcC_size])) rfl ⟨?_, below_setRow HK5.out.1 (by omega) _⟩
      rw [packV_no (fun h => hd8 h.2)]
      rfl
  · by_cases hd8 : d < R 8
    · go_upto_region 2 with (first
        | (refine wpList_lda rfl rfl rfl (HK.out.2 _ (.head _)) Tryd.underlying56 rfl size65 ?_)
        | (go_at_call 64; refine (narrow_no n hn (Nat.le_of_not_lt hn8) _).mono ?_; rintro e w1 ⟨rfl, hb1⟩; have HK2 := Lib.hid (HK.out.below hb1); clear hb1; unfold num)
        | (refine wpList_sta (f := dg 0) (f' := fun _ => 0) rfl rfl rfl rfl (heap1 w1 _) size25 ?_))
      obtain ⟨f1, f2⟩ := HK2.out.fresh
      have HK3 := Lib.hid (HK2.out.newvar (cs := fa 8 (fun _ => 0)) (cs' := fa 8 (dg 0)) (t := 25))
      simp only [List.forall_mem_cons] at f2
      obtain ⟨q1, q2, q3, _⟩ := f2
      have f3 := f1
      rw [← fa_zero8]
      generalize (w1.alloc (.cells (fa 8 (fun _ => 0)) 25)).setRow w1.heap.size (fa 8 (dg 0)) = W2 at *
      clear HK2 HK f1
      generalize w1.heap.size = w2 at *
      go_upto_region 3 with (first
        | (refine wpList_lda rfl rfl rfl (HK3.out.2 _ (.tail _ (.tail _ (.head _)))) Tryd.underlying56 rfl size65 ?_)
        | (go_at_call 64; refine (narrow_yes d hd8 _).mono ?_; rintro e w4 ⟨rfl, hb1⟩; have HK4 := Lib.hid (HK3.out.below hb1); clear hb1; unfold num)
        | (refine wpList_sta (f := dg d) (f' := fun _ => 0) rfl rfl rfl rfl (heap1 w4 _) size25 ?_))
      obtain ⟨f1, f2⟩ := HK4.out.fresh
      have HK5 := Lib.hid (HK4.out.newvar (cs := fa 8 (fun _ => 0)) (cs' := fa 8 (dg d)) (t := 25))
      simp only [List.forall_mem_cons] at f2
      obtain ⟨r0, r1, r2, r3, _⟩ := f2
      rw [← fa_zero8]
      generalize (w4.alloc (.cells (fa 8 (fun _ => 0)) 25)).setRow w4.heap.size (fa 8 (dg d)) = W3 at *
      clear HK4 HK3
      generalize w4.heap.size = w3 at *
      go_wp2_with (first
        | (refine wpList_stf (neg := false) (n := 0) (d := 0) (neg' := false) (n' := 0) (d' := 0) rfl rfl rfl (by rw [frc_zero]; rfl) (HK5.out.2 _ (.tail _ (.tail _ (.tail _ (.tail _ (.head _)))))) size27 ?_))
      refine bodyPost_ret (res_cell_tmp rfl rfl (setRow_heap _ _ _ _ _ _ (HK5.out.2 _ (.tail _ (.tail _ (.tail _ (.tail _ (.head _))))))) Tryd.underlying27 rfl (by rw [size27, frcC_size])) rfl ⟨?_, below_setRow HK5.out.1 (by omega) _⟩
      rw [packV_no (fun h => hn8 h.1)]
      rfl
    · go_upto_region 2 with (first
        | (refine wpList_lda rfl rfl rfl (HK.out.2 _ (.head _)) Tryd.underlying56 rfl size65 ?_)
        | (go_at_call 64; refine (narrow_no n hn (Nat.le_of_not_lt hn8) _).mono ?_; rintro e w1 ⟨rfl, hb1⟩; have HK2 := Lib.hid (HK.out.below hb1); clear hb1; unfold num)
        | (refine wpList_sta (f := dg 0) (f' := fun _ => 0) rfl rfl rfl rfl (heap1 w1 _) size25 ?_))
      obtain ⟨f1, f2⟩ := HK2.out.fresh
      have HK3 := Lib.hid (HK2.out.newvar (cs := fa 8 (fun _ => 0)) (cs' := fa 8 (dg 0)) (t := 25))
      simp only [List.forall_mem_cons] at f2
      obtain ⟨q1, q2, q3, _⟩ := f2
      have f3 := f1
      rw [← fa_zero8]
      generalize (w1.alloc (.cells (fa 8 (fun _ => 0)) 25)).setRow w1.heap.size (fa 8 (dg 0)) = W2 at *
      clear HK2 HK f1
      generalize w1.heap.size = w2 at *
      go_upto_region 3 with (first
        | (refine wpList_lda rfl rfl rfl (HK3.out.2 _ (.tail _ (.tail _ (.head _)))) Tryd.underlying56 rfl size65 ?_)
        | (go_at_call 64; refine (narrow_no d hd (Nat.le_of_not_lt hd8) _).mono ?_; rintro e w4 ⟨rfl, hb1⟩; have HK4 := Lib.hid (HK3.out.below hb1); clear hb1; unfold num)
        | (refine wpList_sta (f := dg 0) (f' := fun _ => 0) rfl rfl rfl rfl (heap1 w4 _) size25 ?_))
      obtain ⟨f1, f2⟩ := HK4.out.fresh
      have HK5 := Lib.hid (HK4.out.newvar (cs := fa 8 (fun _ => 0)) (cs' := fa 8 (dg 0)) (t := 25))
      simp only [List.forall_mem_cons] at f2
      obtain ⟨r0, r1, r2, r3, _⟩ := f2
      rw [← fa_zero8]
      generalize (w4.alloc (.cells (fa 8 (fun _ => 0)) 25)).setRow w4.heap.size (fa 8 (dg 0)) = W3 at *
      clear HK4 HK3
      generalize w4.heap.size = w3 at *
      go_wp2_with (first
        | (refine wpList_stf (neg := false) (n := 0) (d := 0) (neg' := false) (n' := 0) (d' := 0) rfl rfl rfl (by rw [frc_zero]; rfl) (HK5.out.2 _ (.tail _ (.tail _ (.tail _ (.tail _ (.head _)))))) size27 ?_))
      refine bodyPost_ret (res_cell_tmp rfl rfl (setRow_heap _ _ _ _ _ _ (HK5.out.2 _ (.tail _ (.tail _ (.tail _ (.tail _ (.head _))))))) Tryd.underlying27 rfl (by rw [size27, frcC_size])) rfl ⟨?_, below_setRow HK5.out.1 (by omega) _⟩
      rw [packV_no (fun h => hn8 h.1)]
      rfl

end Go.Proofs.YtalmflgkbmnghaaDoor
namespace Go.Proofs.YtalmflgkbmnghaaDoor
open Go.RowKit Tf
variable [ShLZ]
theorem packV_shape (s : Bool) (n d : Nat) : ∃ s' n' d' e, packV s n d = .tuple #[.agg (frcC s' n' d'), .int .i64 e] := by
  unfold packV; split
  · exact ⟨_, _, _, _, rfl⟩
  · exact ⟨_, _, _, _, rfl⟩
theorem mul_lt18 {a b : Nat} (ha : a < R 8) (hb : b < R 8) : a * b < R 18 :=
  lt_R_of_le (j := 8 + 8) (by rw [R_add]; exact Nat.mul_lt_mul'' ha hb) (by omega)

set_option maxRecDepth 100000 in
set_option maxHeartbeats 2000000 in
theorem mul_any (s1 s2 : Bool) (n1 d1 n2 d2 : Nat) (hn1 : n1 < R 8) (hd1 : d1 < R 8) (hn2 : n2 < R 8) (hd2 : d2 < R 8) (h1 : 0 < d1) (h2 : 0 < d2) (w : World) :
    Calls Tryd.prog 27 #[frc s1 n1 d1, frc s2 n2 d2] w fun e w' => e = .returned (packV (s1 != s2) (n1 / Nat.gcd n1 d2 * (n2 / Nat.gcd n2 d1)) (d1 / Nat.gcd n2 d1 * (d2 / Nat.gcd n1 d2))) ∧ Below w.heap.size w w' := by
  have ho : Nat.gcd n1 d2 < R 8 := Nat.lt_of_le_of_lt (Nat.gcd_le_right n1 h2) hd2
  have hp : Nat.gcd n2 d1 < R 8 := Nat.lt_of_le_of_lt (Nat.gcd_le_right n2 h1) hd1
  have hop : 0 < Nat.gcd n1 d2 := Nat.gcd_pos_of_pos_right n1 h2
  have hpp : 0 < Nat.gcd n2 d1 := Nat.gcd_pos_of_pos_right n2 h1
  have q1 : n1 / Nat.gcd n1 d2 < R 8 := Nat.lt_of_le_of_lt (Nat.div_le_self _ _) hn1
  have q2 : n2 / Nat.gcd n2 d1 < R 8 := Nat.lt_of_le_of_lt (Nat.div_le_self _ _) hn2
  have q3 : d1 / Nat.gcd n2 d1 < R 8 := Nat.lt_of_le_of_lt (Nat.div_le_self _ _) hd1
  have q4 : d2 / Nat.gcd n1 d2 < R 8 := Nat.lt_of_le_of_lt (Nat.div_le_self _ _) hd2
  have HPK := Lib.hid (fun W => pack_any (s1 != s2) (n1 / Nat.gcd n1 d2 * (n2 / Nat.gcd n2 d1)) (d1 / Nat.gcd n2 d1 * (d2 / Nat.gcd n1 d2)) (mul_lt18 q1 q2) (mul_lt18 q3 q4) W)
  obtain ⟨s', n', d', ee, hpv⟩ := packV_shape (s1 != s2) (n1 / Nat.gcd n1 d2 * (n2 / Nat.gcd n2 d1)) (d1 / Nat.gcd n2 d1 * (d2 / Nat.gcd n1 d2))
  have HPV := Lib.hid hpv
  clear hpv
  unfold frc
  go_enter Tryd.func27, Tryd.ntmps27
  go_upto_region 1 with (fail)
  have hK := KS.three w (.cells (frcC s1 n1 d1) 27) (.cells (frcC s2 n2 d2) 27) (.cells (frcC false 0 0) 27)
  obtain ⟨W, hW⟩ : ∃ W, W = ((w.alloc (.cells (frcC s1 n1 d1) 27)).alloc (.cells (frcC s2 n2 d2) 27)).alloc (.cells (frcC false 0 0) 27) := ⟨_, rfl⟩
  rw [← hW] at hK
  rw [frc_zero] at hW
  rw [← hW]
  clear hW
  have HK := Lib.hid hK
  clear hK
  go_wp2_with fail
  refine wp_region_U (W0 := w) [(w.heap.size, .cells (frcC (s1) (n1) (d1)) 27 (0, 0)), (w.heap.size + 1, .cells (frcC (s2) (n2) (d2)) 27 (0, 0)), (w.heap.size + 1 + 1, .cells (frcC (false) (0) (0)) 27 (0, 0))] (by kernel_rfl) (HK.out) ?_
  refine wpU_pY (i := 0) (v := .pointer (some ⟨w.heap.size, 1, none⟩)) rfl rfl (by kernel_rfl) (by kernel_rfl) rfl (fun _ => by kernel_rfl) (by simp only [List.setIfInBounds_toArray, List.set_cons_succ, List.set_cons_zero] <;> rfl) ?_
  refine wpU_vY (i := 1) (v := num (n1)) rfl rfl (by kernel_rfl) (by kernel_rfl) rfl (yb_load rfl (by kernel_rfl) (.head _) Tryd.underlying25 rfl size25 (by simp) (frc_num (s1) (n1) (d1))) (by simp only [List.setIfInBounds_toArray, List.set_cons_succ, List.set_cons_zero] <;> rfl) ?_
  refine wpU_pY (i := 2) (v := .pointer (some ⟨w.heap.size + 1, 9, none⟩)) rfl rfl (by kernel_rfl) (by kernel_rfl) rfl (fun _ => by kernel_rfl) (by simp only [List.setIfInBounds_toArray, List.set_cons_succ, List.set_cons_zero] <;> rfl) ?_
  refine wpU_vY (i := 3) (v := num (d2)) rfl rfl (by kernel_rfl) (by kernel_rfl) rfl (yb_load rfl (by kernel_rfl) (.tail _ (.head _)) Tryd.underlying25 rfl size25 (by simp) (frc_den (s2) (n2) (d2))) (by simp only [List.setIfInBounds_toArray, List.set_cons_succ, List.set_cons_zero] <;> rfl) ?_
  refine wpU_vY (i := 4) (v := num (Nat.gcd n1 d2)) rfl rfl (by kernel_rfl) (by kernel_rfl) rfl (yb_call (f := 48) (args := #[num n1, num d2]) (fun _ => by kernel_rfl) fun W hW => gcd_any n1 d2 hn1 hd2 W) (by simp only [List.setIfInBounds_toArray, List.set_cons_succ, List.set_cons_zero] <;> rfl) ?_
  refine wpU_pY (i := 5) (v := .pointer (some ⟨w.heap.size + 1, 1, none⟩)) rfl rfl (by kernel_rfl) (by kernel_rfl) rfl (fun _ => by kernel_rfl) (by simp only [List.setIfInBounds_toArray, List.set_cons_succ, List.set_cons_zero] <;> rfl) ?_
  refine wpU_vY (i := 6) (v := num (n2)) rfl rfl (by kernel_rfl) (by kernel_rfl) rfl (yb_load rfl (by kernel_rfl) (.tail _ (.head _)) Tryd.underlying25 rfl size25 (by simp) (frc_num (s2) (n2) (d2))) (by simp only [List.setIfInBounds_toArray, List.set_cons_succ, List.set_cons_zero] <;> rfl) ?_
  refine wpU_pY (i := 7) (v := .pointer (some ⟨w.heap.size, 9, none⟩)) rfl rfl (by kernel_rfl) (by kernel_rfl) rfl (fun _ => by kernel_rfl) (by simp only [List.setIfInBounds_toArray, List.set_cons_succ, List.set_cons_zero] <;> rfl) ?_
  refine wpU_vY (i := 8) (v := num (d1)) rfl rfl (by kernel_rfl) (by kernel_rfl) rfl (yb_load rfl (by kernel_rfl) (.head _) Tryd.underlying25 rfl size25 (by simp) (frc_den (s1) (n1) (d1))) (by simp only [List.setIfInBounds_toArray, List.set_cons_succ, List.set_cons_zero] <;> rfl) ?_
  refine wpU_vY (i := 9) (v := num (Nat.gcd n2 d1)) rfl rfl (by kernel_rfl) (by kernel_rfl) rfl (yb_call (f := 48) (args := #[num n2, num d1]) (fun _ => by kernel_rfl) fun W hW => gcd_any n2 d1 hn2 hd1 W) (by simp only [List.setIfInBounds_toArray, List.set_cons_succ, List.set_cons_zero] <;> rfl) ?_
  refine wpU_twoY (i := 10) (j := 11) (obi := .cells (fa 8 (fun _ => 0)) 25 (0, 0)) (obj := .cells (fa 8 (fun _ => 0)) 25 (0, 0)) rfl rfl rfl rfl rfl rfl (by kernel_rfl) (by kernel_rfl) (by kernel_rfl) (by kernel_rfl) (fun _ _ => rfl) (fun _ _ => rfl) (fun _ _ => by simp only [List.setIfInBounds_toArray, List.set_cons_succ, List.set_cons_zero] <;> rfl) (fun _ _ => by simp only [List.setIfInBounds_toArray, List.set_cons_succ, List.set_cons_zero] <;> rfl) fun g h Bg Bh Dgh Fg Fh => ?_
  simp only [List.forall_mem_cons] at Fg Fh
  refine wpU_sY [(g, .cells (fa 8 (dg (Nat.gcd n1 d2))) 25 (0, 0)), (h, .cells (fa 8 (fun _ => 0)) 25 (0, 0)), (w.heap.size, .cells (frcC (s1) (n1) (d1)) 27 (0, 0)), (w.heap.size + 1, .cells (frcC (s2) (n2) (d2)) 27 (0, 0)), (w.heap.size + 1 + 1, .cells (frcC (false) (0) (0)) 27 (0, 0))] (i := 12) rfl (by kernel_rfl) rfl rfl rfl
    (st_a rfl rfl rfl (.head _) (by omega) size25 (by intro p hp; simp only [List.mem_cons, List.not_mem_nil, or_false] at hp; rcases hp with rfl | rfl | rfl | rfl | rfl; exact .inl rfl; exact .inr ⟨by simp, by simp only; omega⟩; exact .inr ⟨by simp, by simp only; omega⟩; exact .inr ⟨by simp, by simp only; omega⟩; exact .inr ⟨by simp, by simp only; omega⟩)) ?_
  refine wpU_sY [(g, .cells (fa 8 (dg (Nat.gcd n1 d2))) 25 (0, 0)), (h, .cells (fa 8 (dg (Nat.gcd n2 d1))) 25 (0, 0)), (w.heap.size, .cells (frcC (s1) (n1) (d1)) 27 (0, 0)), (w.heap.size + 1, .cells (frcC (s2) (n2) (d2)) 27 (0, 0)), (w.heap.size + 1 + 1, .cells (frcC (false) (0) (0)) 27 (0, 0))] (i := 13) rfl (by kernel_rfl) rfl rfl rfl
    (st_a rfl rfl rfl (.tail _ (.head _)) (by omega) size25 (by intro p hp; simp only [List.mem_cons, List.not_mem_nil, or_false] at hp; rcases hp with rfl | rfl | rfl | rfl | rfl; exact .inr ⟨by simp, by simp only; omega⟩; exact .inl rfl; exact .inr ⟨by simp, by simp only; omega⟩; exact .inr ⟨by simp, by simp only; omega⟩; exact .inr ⟨by simp, by simp only; omega⟩)) ?_
  refine wpU_done (by kernel_rfl) (fun W4 hW4 => ?_) _
  clear HK
  go_wp2_with fail
  refine wp_region_U (W0 := w) [(g, .cells (fa 8 (dg (Nat.gcd n1 d2))) 25 (0, 0)), (h, .cells (fa 8 (dg (Nat.gcd n2 d1))) 25 (0, 0)), (w.heap.size, .cells (frcC (s1) (n1) (d1)) 27 (0, 0)), (w.heap.size + 1, .cells (frcC (s2) (n2) (d2)) 27 (0, 0)), (w.heap.size + 1 + 1, .cells (frcC (false) (0) (0)) 27 (0, 0))] (by kernel_rfl) (hW4) ?_
  refine wpU_pY (i := 0) (v := .pointer (some ⟨w.heap.size, 1, none⟩)) rfl rfl (by kernel_rfl) (by kernel_rfl) rfl (fun _ => by kernel_rfl) (by simp only [List.setIfInBounds_toArray, List.set_cons_succ, List.set_cons_zero] <;> rfl) ?_
  refine wpU_vY (i := 1) (v := num (n1)) rfl rfl (by kernel_rfl) (by kernel_rfl) rfl (yb_load rfl (by kernel_rfl) (.tail _ (.tail _ (.head _))) Tryd.underlying25 rfl size25 (by simp) (frc_num (s1) (n1) (d1))) (by simp only [List.setIfInBounds_toArray, List.set_cons_succ, List.set_cons_zero] <;> rfl) ?_
  refine wpU_vY (i := 2) (v := num (Nat.gcd n1 d2)) rfl rfl (by kernel_rfl) (by kernel_rfl) rfl (yb_lda rfl (by kernel_rfl) (.head _) Tryd.underlying25 rfl size25) (by simp only [List.setIfInBounds_toArray, List.set_cons_succ, List.set_cons_zero] <;> rfl) ?_
  refine wpU_vY (i := 3) (v := num (n1 / Nat.gcd n1 d2)) rfl rfl (by kernel_rfl) (by kernel_rfl) rfl (yb_call (f := 49) (args := #[num n1, num (Nat.gcd n1 d2)]) (fun _ => by kernel_rfl) fun W hW => quotient_any n1 (Nat.gcd n1 d2) hn1 ho hop W) (by simp only [List.setIfInBounds_toArray, List.set_cons_succ, List.set_cons_zero] <;> rfl) ?_
  refine wpU_pY (i := 4) (v := .pointer (some ⟨w.heap.size + 1, 1, none⟩)) rfl rfl (by kernel_rfl) (by kernel_rfl) rfl (fun _ => by kernel_rfl) (by simp only [List.setIfInBounds_toArray, List.set_cons_succ, List.set_cons_zero] <;> rfl) ?_
  refine wpU_vY (i := 5) (v := num (n2)) rfl rfl (by kernel_rfl) (by kernel_rfl) rfl (yb_load rfl (by kernel_rfl) (.tail _ (.tail _ (.tail _ (.head _)))) Tryd.underlying25 rfl size25 (by simp) (frc_num (s2) (n2) (d2))) (by simp only [List.setIfInBounds_toArray, List.set_cons_succ, List.set_cons_zero] <;> rfl) ?_
  refine wpU_vY (i := 6) (v := num (Nat.gcd n2 d1)) rfl rfl (by kernel_rfl) (by kernel_rfl) rfl (yb_lda rfl (by kernel_rfl) (.tail _ (.head _)) Tryd.underlying25 rfl size25) (by simp only [List.setIfInBounds_toArray, List.set_cons_succ, List.set_cons_zero] <;> rfl) ?_
  refine wpU_vY (i := 7) (v := num (n2 / Nat.gcd n2 d1)) rfl rfl (by kernel_rfl) (by kernel_rfl) rfl (yb_call (f := 49) (args := #[num n2, num (Nat.gcd n2 d1)]) (fun _ => by kernel_rfl) fun W hW => quotient_any n2 (Nat.gcd n2 d1) hn2 hp hpp W) (by simp only [List.setIfInBounds_toArray, List.set_cons_succ, List.set_cons_zero] <;> rfl) ?_
  refine wpU_vY (i := 8) (v := wid (n1 / Nat.gcd n1 d2 * (n2 / Nat.gcd n2 d1))) rfl rfl (by kernel_rfl) (by kernel_rfl) rfl (yb_call (f := 51) (args := #[num (n1 / Nat.gcd n1 d2), num (n2 / Nat.gcd n2 d1)]) (fun _ => by kernel_rfl) fun W hW => times_any (n1 / Nat.gcd n1 d2) (n2 / Nat.gcd n2 d1) q1 q2 W) (by simp only [List.setIfInBounds_toArray, List.set_cons_succ, List.set_cons_zero] <;> rfl) ?_
  refine wpU_newY (i := 9) (obi := .cells (fa 18 (fun _ => 0)) 56 (0, 0)) rfl rfl rfl (by kernel_rfl) (fun _ _ => rfl) (fun _ => by simp only [List.setIfInBounds_toArray, List.set_cons_succ, List.set_cons_zero] <;> rfl) fun k Bk Fk => ?_
  simp only [List.forall_mem_cons] at Fk
  refine wpU_sY [(k, .cells (fa 18 (dg (n1 / Nat.gcd n1 d2 * (n2 / Nat.gcd n2 d1)))) 56 (0, 0)), (g, .cells (fa 8 (dg (Nat.gcd n1 d2))) 25 (0, 0)), (h, .cells (fa 8 (dg (Nat.gcd n2 d1))) 25 (0, 0)), (w.heap.size, .cells (frcC (s1) (n1) (d1)) 27 (0, 0)), (w.heap.size + 1, .cells (frcC (s2) (n2) (d2)) 27 (0, 0)), (w.heap.size + 1 + 1, .cells (frcC (false) (0) (0)) 27 (0, 0))] (i := 10) rfl (by kernel_rfl) rfl rfl rfl
    (st_a rfl rfl rfl (.head _) (by omega) size65 (by intro p hp; simp only [List.mem_cons, List.not_mem_nil, or_false] at hp; rcases hp with rfl | rfl | rfl | rfl | rfl | rfl; exact .inl rfl; exact .inr ⟨by simp, by simp only; omega⟩; exact .inr ⟨by simp, by simp only; omega⟩; exact .inr ⟨by simp, by simp only; omega⟩; exact .inr ⟨by simp, by simp only; omega⟩; exact .inr ⟨by simp, by simp only; omega⟩)) ?_
  refine wpU_done (by kernel_rfl) (fun W5 hW5 => ?_) _
  clear hW4
  go_wp2_with fail
  refine wp_region_U (W0 := w) [(k, .cells (fa 18 (dg (n1 / Nat.gcd n1 d2 * (n2 / Nat.gcd n2 d1)))) 56 (0, 0)), (g, .cells (fa 8 (dg (Nat.gcd n1 d2))) 25 (0, 0)), (h, .cells (fa 8 (dg (Nat.gcd n2 d1))) 25 (0, 0)), (w.heap.size, .cells (frcC (s1) (n1) (d1)) 27 (0, 0)), (w.heap.size + 1, .cells (frcC (s2) (n2) (d2)) 27 (0, 0)), (w.heap.size + 1 + 1, .cells (frcC (false) (0) (0)) 27 (0, 0))] (by kernel_rfl) (hW5) ?_
  refine wpU_pY (i := 0) (v := .pointer (some ⟨w.heap.size, 9, none⟩)) rfl rfl (by kernel_rfl) (by kernel_rfl) rfl (fun _ => by kernel_rfl) (by simp only [List.setIfInBounds_toArray, List.set_cons_succ, List.set_cons_zero] <;> rfl) ?_
  refine wpU_vY (i := 1) (v := num (d1)) rfl rfl (by kernel_rfl) (by kernel_rfl) rfl (yb_load rfl (by kernel_rfl) (.tail _ (.tail _ (.tail _ (.head _)))) Tryd.underlying25 rfl size25 (by simp) (frc_den (s1) (n1) (d1))) (by simp only [List.setIfInBounds_toArray, List.set_cons_succ, List.set_cons_zero] <;> rfl) ?_
  refine wpU_vY (i := 2) (v := num (Nat.gcd n2 d1)) rfl rfl (by kernel_rfl) (by kernel_rfl) rfl (yb_lda rfl (by kernel_rfl) (.tail _ (.tail _ (.head _))) Tryd.underlying25 rfl size25) (by simp only [List.setIfInBounds_toArray, List.set_cons_succ, List.set_cons_zero] <;> rfl) ?_
  refine wpU_vY (i := 3) (v := num (d1 / Nat.gcd n2 d1)) rfl rfl (by kernel_rfl) (by kernel_rfl) rfl (yb_call (f := 49) (args := #[num d1, num (Nat.gcd n2 d1)]) (fun _ => by kernel_rfl) fun W hW => quotient_any d1 (Nat.gcd n2 d1) hd1 hp hpp W) (by simp only [List.setIfInBounds_toArray, List.set_cons_succ, List.set_cons_zero] <;> rfl) ?_
  refine wpU_pY (i := 4) (v := .pointer (some ⟨w.heap.size + 1, 9, none⟩)) rfl rfl (by kernel_rfl) (by kernel_rfl) rfl (fun _ => by kernel_rfl) (by simp only [List.setIfInBounds_toArray, List.set_cons_succ, List.set_cons_zero] <;> rfl) ?_
  refine wpU_vY (i := 5) (v := num (d2)) rfl rfl (by kernel_rfl) (by kernel_rfl) rfl (yb_load rfl (by kernel_rfl) (.tail _ (.tail _ (.tail _ (.tail _ (.head _))))) Tryd.underlying25 rfl size25 (by simp) (frc_den (s2) (n2) (d2))) (by simp only [List.setIfInBounds_toArray, List.set_cons_succ, List.set_cons_zero] <;> rfl) ?_
  refine wpU_vY (i := 6) (v := num (Nat.gcd n1 d2)) rfl rfl (by kernel_rfl) (by kernel_rfl) rfl (yb_lda rfl (by kernel_rfl) (.tail _ (.head _)) Tryd.underlying25 rfl size25) (by simp only [List.setIfInBounds_toArray, List.set_cons_succ, List.set_cons_zero] <;> rfl) ?_
  refine wpU_vY (i := 7) (v := num (d2 / Nat.gcd n1 d2)) rfl rfl (by kernel_rfl) (by kernel_rfl) rfl (yb_call (f := 49) (args := #[num d2, num (Nat.gcd n1 d2)]) (fun _ => by kernel_rfl) fun W hW => quotient_any d2 (Nat.gcd n1 d2) hd2 ho hop W) (by simp only [List.setIfInBounds_toArray, List.set_cons_succ, List.set_cons_zero] <;> rfl) ?_
  refine wpU_vY (i := 8) (v := wid (d1 / Nat.gcd n2 d1 * (d2 / Nat.gcd n1 d2))) rfl rfl (by kernel_rfl) (by kernel_rfl) rfl (yb_call (f := 51) (args := #[num (d1 / Nat.gcd n2 d1), num (d2 / Nat.gcd n1 d2)]) (fun _ => by kernel_rfl) fun W hW => times_any (d1 / Nat.gcd n2 d1) (d2 / Nat.gcd n1 d2) q3 q4 W) (by simp only [List.setIfInBounds_toArray, List.set_cons_succ, List.set_cons_zero] <;> rfl) ?_
  refine wpU_newY (i := 9) (obi := .cells (fa 18 (fun _ => 0)) 56 (0, 0)) rfl rfl rfl (by kernel_rfl) (fun _ _ => rfl) (fun _ => by simp only [List.setIfInBounds_toArray, List.set_cons_succ, List.set_cons_zero] <;> rfl) fun l Bl Fl => ?_
  simp only [List.forall_mem_cons] at Fl
  refine wpU_sY [(l, .cells (fa 18 (dg (d1 / Nat.gcd n2 d1 * (d2 / Nat.gcd n1 d2)))) 56 (0, 0)), (k, .cells (fa 18 (dg (n1 / Nat.gcd n1 d2 * (n2 / Nat.gcd n2 d1)))) 56 (0, 0)), (g, .cells (fa 8 (dg (Nat.gcd n1 d2))) 25 (0, 0)), (h, .cells (fa 8 (dg (Nat.gcd n2 d1))) 25 (0, 0)), (w.heap.size, .cells (frcC (s1) (n1) (d1)) 27 (0, 0)), (w.heap.size + 1, .cells (frcC (s2) (n2) (d2)) 27 (0, 0)), (w.heap.size + 1 + 1, .cells (frcC (false) (0) (0)) 27 (0, 0))] (i := 10) rfl (by kernel_rfl) rfl rfl rfl
    (st_a rfl rfl rfl (.head _) (by omega) size65 (by intro p hp; simp only [List.mem_cons, List.not_mem_nil, or_false] at hp; rcases hp with rfl | rfl | rfl | rfl | rfl | rfl | rfl; exact .inl rfl; exact .inr ⟨by simp, by simp only; omega⟩; exact .inr ⟨by simp, by simp only; omega⟩; exact .inr ⟨by simp, by simp only; omega⟩; exact .inr ⟨by simp, by simp only; omega⟩; exact .inr ⟨by simp, by simp only; omega⟩; exact .inr ⟨by simp, by simp only; omega⟩)) ?_
  refine wpU_done (by kernel_rfl) (fun W6 hW6 => ?_) _
  clear hW5
  have HL := Lib.hid hW6
  clear hW6 ho hp hop hpp q1 q2 q3 q4 hn1 hd1 hn2 hd2 h1 h2
  have c1 := frc_cell (HL.out.2 _ (.tail _ (.tail _ (.tail _ (.tail _ (.head _))))))
  have c2 := frc_cell (HL.out.2 _ (.tail _ (.tail _ (.tail _ (.tail _ (.tail _ (.head _)))))))
  go_wp2_with (first
    | (refine wpList_lda rfl rfl rfl (HL.out.2 _ (.tail _ (.head _))) Tryd.underlying56 rfl size65 ?_)
    | (refine wpList_lda rfl rfl rfl (HL.out.2 _ (.head _)) Tryd.underlying56 rfl size65 ?_)
    | (go_at_call 52; refine (HPK.out _).mono ?_; rintro e w5 ⟨rfl, hb1⟩; have HM := Lib.hid (HL.out.below hb1); clear hb1 c1 c2; rw [HPV.out])
    | (refine wpList_stf (neg := s') (n := n') (d := d') (neg' := false) (n' := 0) (d' := 0) rfl rfl rfl rfl (HM.out.2 _ (.tail _ (.tail _ (.tail _ (.tail _ (.tail _ (.tail _ (.head _)))))))) size27 ?_))
  exact bodyPost_ret (res_cell_tmp rfl rfl (setRow_heap _ _ _ _ _ _ (HM.out.2 _ (.tail _ (.tail _ (.tail _ (.tail _ (.tail _ (.tail _ (.head _))))))))) Tryd.underlying27 rfl (by rw [size27, frcC_size])) rfl ⟨by rw [HPV.out]; rfl, below_setRow HM.out.1 (by omega) _⟩
end Go.Proofs.YtalmflgkbmnghaaDoor
namespace Go.Proofs.YtalmflgkbmnghaaDoor
open Go.RowKit Tf

set_option maxRecDepth 100000 in
set_option maxHeartbeats 400000 in
theorem plus_any (a b : Nat) (ha : a < R 18) (hb : b < R 18) (hab : a + b < R 18) (w : World) :
    Calls Tryd.prog 31 #[wid a, wid b] w fun e w' => e = .returned (wid (a + b)) ∧ Below w.heap.size w w' := by
  unfold wid
  go_enter Tryd.func31, Tryd.ntmps31
  go_wp2
  go_loopw [5, 8] (fun c i wr => ∃ k c0 Pv : Nat, k ≤ 18 ∧ c0 ≤ 1 ∧ Hid (Pv + c0 * R k = a + b % R k) ∧ Pv < R 18 ∧ c = .int .u64 c0 ∧ i = .int .i64 k ∧ Below w.heap.size w wr ∧
      wr.heap[w.heap.size]? = some (.cells (fa 18 (dg Pv)) 56 (0, 0)) ∧ wr.heap[w.heap.size + 1]? = some (.cells (fa 18 (dg b)) 56 (0, 0)) ∧ wr.heap[w.heap.size + 1 + 1]? = some (.cells (fa 18 (fun _ => 0)) 56 (0, 0)))
    (fun _ i _ => 18 - (intOf i).toNat)
  case atStart =>
    refine ⟨0, 0, a, by omega, by omega, ?_, ha, rfl, rfl, below3 _ _ _ _, (heap3 _ _ _ _).1, (heap3 _ _ _ _).2.1, (heap3 _ _ _ _).2.2⟩
    unfold Hid; rw [R_zero, Nat.mod_one, Nat.zero_mul]
  case round =>
    obtain ⟨k, c0, Pv, hk, hc, he, hP, rfl, rfl, hB, e0, e1, e2⟩ := hrel
    by_cases hlt : k < 18
    · have h1 := blk_cell e0 hlt
      have h2 := blk_cell e1 hlt
      have h3 : wr.frozen? ⟨w.heap.size, k, none⟩ = false := blk_free e0
      have b1 := dg_lt Pv k
      have b2 := dg_lt b k
      have hlt' : ((k : Nat) : Int) < 18 := by omega
      have E0 := Lib.hid e0
      have E1 := Lib.hid e1
      have E2 := Lib.hid e2
      clear e0 e1 e2
      go_wp2
      go_quiet (fail)
      go_wp2
      go_roundw
      case rel =>
        obtain ⟨t, ht⟩ : ∃ t, t = dg Pv k + dg b k + c0 := ⟨_, rfl⟩
        have hv : t % 4294967296 < 4294967296 := Nat.mod_lt _ (by omega)
        rw [show ((dg Pv k : Int) + dg b k + c0) % 4294967296 = ((t % 4294967296 : Nat) : Int) from by omega]
        refine ⟨k + 1, t / 4294967296, setd Pv k (t % 4294967296), by omega, by omega, ?_, setd_lt hP hlt hv, ?_, by go_num, ?_, ?_, ?_, ?_⟩
        · exact plus_step he.out (by omega)
        · exact congrArg (Value.int .u64) (by omega)
        · exact (belowN hB nq).setCell (Nat.le_refl _) _
        · exact blk_set (w := wr.drewN nq) E0.out hlt hv
        · rw [heap_setCell_other _ _ _ _ (by simp)]; exact E1.out
        · rw [heap_setCell_other _ _ _ _ (by simp; omega)]; exact E2.out
      case measure => (simp [intOf] <;> omega)
    · obtain rfl : k = 18 := by omega
      have hfin : Pv = a + b := by
        have h := he.out
        rw [Nat.mod_eq_of_lt hb] at h
        have h0 := R_pos 18
        rcases Nat.eq_zero_or_pos c0 with h1 | h1
        · subst h1; omega
        · have : 1 * R 18 ≤ c0 * R 18 := Nat.mul_le_mul_right _ h1
          omega
      have E2 := Lib.hid e2
      subst hfin
      obtain ⟨d, hu, hd⟩ := under65
      clear e1 e2 he
      go_wp2_with (first
        | (refine wpList_lda rfl rfl rfl e0 hu hd size65 ?_)
        | (refine wpList_sta rfl rfl rfl rfl E2.out size65 ?_))
      exact bodyPost_ret (res_cell rfl rfl (setRow_heap _ _ _ _ _ _ E2.out) hu hd (by rw [size65, fa_size])) rfl ⟨rfl, below_setRow hB (by omega) _⟩
end Go.Proofs.YtalmflgkbmnghaaDoor
namespace Go.Proofs.YtalmflgkbmnghaaDoor
open Go.RowKit Tf

set_option maxRecDepth 100000 in
set_option maxHeartbeats 400000 in
theorem minus_any (a b : Nat) (ha : a < R 18) (hba : b ≤ a) (w : World) :
    Calls Tryd.prog 70 #[wid a, wid b] w fun e w' => e = .returned (wid (a - b)) ∧ Below w.heap.size w w' := by
  unfold wid
  have hb : b < R 18 := by omega
  go_enter Tryd.func70, Tryd.ntmps70
  go_wp2
  go_loopw [5, 8] (fun c i wr => ∃ k c0 Pv : Nat, k ≤ 18 ∧ c0 ≤ 1 ∧ Hid (Pv + b % R k = a + c0 * R k) ∧ Pv < R 18 ∧ c = .int .u64 c0 ∧ i = .int .i64 k ∧ Below w.heap.size w wr ∧
      wr.heap[w.heap.size]? = some (.cells (fa 18 (dg Pv)) 56 (0, 0)) ∧ wr.heap[w.heap.size + 1]? = some (.cells (fa 18 (dg b)) 56 (0, 0)) ∧ wr.heap[w.heap.size + 1 + 1]? = some (.cells (fa 18 (fun _ => 0)) 56 (0, 0)))
    (fun _ i _ => 18 - (intOf i).toNat)
  case atStart =>
    refine ⟨0, 0, a, by omega, by omega, ?_, ha, rfl, rfl, below3 _ _ _ _, (heap3 _ _ _ _).1, (heap3 _ _ _ _).2.1, (heap3 _ _ _ _).2.2⟩
    unfold Hid; rw [R_zero, Nat.mod_one, Nat.zero_mul]
  case round =>
    obtain ⟨k, c0, Pv, hk, hc, he, hP, rfl, rfl, hB, e0, e1, e2⟩ := hrel
    by_cases hlt : k < 18
    · have h1 := blk_cell e0 hlt
      have h2 := blk_cell e1 hlt
      have h3 : wr.frozen? ⟨w.heap.size, k, none⟩ = false := blk_free e0
      have b1 := dg_lt Pv k
      have b2 := dg_lt b k
      have hlt' : ((k : Nat) : Int) < 18 := by omega
      have E0 := Lib.hid e0
      have E1 := Lib.hid e1
      have E2 := Lib.hid e2
      clear e0 e1 e2
      obtain ⟨v, c1, hv, hc1, hvc, hx, hy⟩ := sub_limb b1 b2 hc
      have HX := Lib.hid hx
      have HY := Lib.hid hy
      clear hx hy
      go_wp2
      go_quiet (fail)
      go_wp2
      go_roundw
      case rel =>
        rw [HX.out, HY.out]
        refine ⟨k + 1, c1, setd Pv k v, by omega, by omega, minus_step he.out hvc, setd_lt hP hlt hv, rfl, by go_num, ?_, ?_, ?_, ?_⟩
        · exact (belowN hB nq).setCell (Nat.le_refl _) _
        · exact blk_set (w := wr.drewN nq) E0.out hlt hv
        · rw [heap_setCell_other _ _ _ _ (by simp)]; exact E1.out
        · rw [heap_setCell_other _ _ _ _ (by simp; omega)]; exact E2.out
      case measure => (simp [intOf] <;> omega)
    · obtain rfl : k = 18 := by omega
      have hfin : Pv = a - b := by
        have h := he.out
        rw [Nat.mod_eq_of_lt hb] at h
        have h0 := R_pos 18
        rcases Nat.eq_zero_or_pos c0 with h1 | h1
        · subst h1; omega
        · have : 1 * R 18 ≤ c0 * R 18 := Nat.mul_le_mul_right _ h1
          omega
      have E2 := Lib.hid e2
      subst hfin
      obtain ⟨d, hu, hd⟩ := under65
      clear e1 e2 he
      go_wp2_with (first
        | (refine wpList_lda rfl rfl rfl e0 hu hd size65 ?_)
        | (refine wpList_sta rfl rfl rfl rfl E2.out size65 ?_))
      exact bodyPost_ret (res_cell rfl rfl (setRow_heap _ _ _ _ _ _ E2.out) hu hd (by rw [size65, fa_size])) rfl ⟨rfl, below_setRow hB (by omega) _⟩
end Go.Proofs.YtalmflgkbmnghaaDoor
namespace Go.Proofs.YtalmflgkbmnghaaDoor
open Go.RowKit Tf

def cmpN (a b : Nat) : Int := if a < b then -1 else if b < a then 1 else 0
theorem cmp_less {a b k : Nat} (h : a / R (k + 1) = b / R (k + 1)) (hd : dg a k < dg b k) : a < b := by
  have h1 := div_succ a k
  have h2 := div_succ b k
  rw [h] at h1
  rcases Nat.lt_or_ge a b with h3 | h3
  · exact h3
  · have := Nat.div_le_div_right (c := R k) h3
    omega
theorem cmp_step {a b k : Nat} (h : a / R (k + 1) = b / R (k + 1)) (hd : dg a k = dg b k) : a / R k = b / R k := by
  rw [div_succ a k, div_succ b k, h, hd]

set_option maxRecDepth 100000 in
set_option maxHeartbeats 400000 in
theorem compare_any (a b : Nat) (ha : a < R 18) (hb : b < R 18) (w : World) :
    Calls Tryd.prog 69 #[wid a, wid b] w fun e w' => e = .returned (.int .i64 (cmpN a b)) ∧ Below w.heap.size w w' := by
  unfold wid
  go_enter Tryd.func69, Tryd.ntmps69
  go_wp2
  go_loopw [5] (fun i wr => ∃ k : Nat, k ≤ 18 ∧ Hid (a / R k = b / R k) ∧ i = .int .i64 ((k : Int) - 1) ∧ Below w.heap.size w wr ∧
      wr.heap[w.heap.size]? = some (.cells (fa 18 (dg a)) 56 (0, 0)) ∧ wr.heap[w.heap.size + 1]? = some (.cells (fa 18 (dg b)) 56 (0, 0)))
    (fun i _ => (intOf i + 1).toNat)
  case atStart =>
    refine ⟨18, by omega, ?_, rfl, below2 _ _ _, (heap2 _ _ _).1, (heap2 _ _ _).2⟩
    unfold Hid; rw [Nat.div_eq_of_lt ha, Nat.div_eq_of_lt hb]
  case round =>
    obtain ⟨k, hk, he, rfl, hB, e0, e1⟩ := hrel
    rcases Nat.eq_zero_or_pos k with rfl | hpos
    · have hab : a = b := by have := he.out; rwa [R_zero, Nat.div_one, Nat.div_one] at this
      have HB := Lib.hid hB
      have HAB := Lib.hid hab
      clear hab e0 e1
      go_wp2
      go_ret
      exact ⟨ret_int (by rw [HAB.out]; simp [cmpN]), HB.out⟩
    · obtain ⟨j, rfl⟩ : ∃ j, k = j + 1 := ⟨k - 1, by omega⟩
      have ej : (((j + 1 : Nat) : Int) - 1) = j := by omega
      rw [ej]
      have hlt : j < 18 := by omega
      have h1 := blk_cell e0 hlt
      have h2 := blk_cell e1 hlt
      have b1 := dg_lt a j
      have b2 := dg_lt b j
      have hlt' : ((j : Nat) : Int) < 18 := by omega
      have E0 := Lib.hid e0
      have E1 := Lib.hid e1
      clear e0 e1 ej
      rcases Nat.lt_trichotomy (dg a j) (dg b j) with hd | hd | hd
      · have hr := cmp_less he.out hd
        go_wp2
        go_quiet (fail)
        go_wp2
        go_ret
        exact ⟨ret_int (by rw [cmpN, if_pos hr]), belowN hB _⟩
      · have HS := Lib.hid (cmp_step he.out hd)
        have hx : decide (dg a j < dg b j) = false := by rw [hd]; simp
        have hy : decide (dg b j < dg a j) = false := by rw [hd]; simp
        have hx' : decide ((dg a j : Int) < dg b j) = false := by rw [hd]; simp
        have hy' : decide ((dg b j : Int) < dg a j) = false := by rw [hd]; simp
        clear hd
        go_wp2
        go_quiet (fail)
        go_wp2
        go_quiet (fail)
        go_wp2
        go_roundw
        case rel => exact ⟨j, by omega, HS, rfl, belowN hB _, E0.out, E1.out⟩
        case measure => (simp [intOf] <;> omega)
      · have hr := cmp_less he.out.symm hd
        have hx : decide ((dg a j : Int) < dg b j) = false := by simp; omega
        have hx' : decide (dg a j < dg b j) = false := by simp; omega
        go_wp2
        go_quiet (fail)
        go_wp2
        go_quiet (fail)
        go_wp2
        go_ret
        exact ⟨ret_int (by rw [cmpN, if_neg (by omega), if_pos hr]), belowN (belowN hB _) _⟩
end Go.Proofs.YtalmflgkbmnghaaDoor
namespace Go.Proofs.YtalmflgkbmnghaaDoor
open Go.RowKit Tf
def psS (x y : Bool) (a b : Nat) : Bool := if x = y then x else if a < b then y else x
def psN (x y : Bool) (a b : Nat) : Nat := if x = y then a + b else if a < b then b - a else a - b

set_option maxRecDepth 100000 in
set_option maxHeartbeats 1000000 in
theorem plusSigned_any (x y : Bool) (a b : Nat) (hab : a + b < R 18) (w : World) :
    Calls Tryd.prog 50 #[.bool x, wid a, .bool y, wid b] w fun e w' => e = .returned (.tuple #[.bool (psS x y a b), wid (psN x y a b)]) ∧ Below w.heap.size w w' := by
  have ha : a < R 18 := by omega
  have hb : b < R 18 := by omega
  unfold wid
  go_enter Tryd.func50, Tryd.ntmps50
  go_upto_region 1 with (fail)
  have hK := KS.three w (.cells (fa 18 (dg a)) 56) (.cells (fa 18 (dg b)) 56) (.cells (fa 18 (fun _ => 0)) 56)
  obtain ⟨W, hW⟩ : ∃ W, W = ((w.alloc (.cells (fa 18 (dg a)) 56)).alloc (.cells (fa 18 (dg b)) 56)).alloc (.cells (fa 18 (fun _ => 0)) 56) := ⟨_, rfl⟩
  rw [← hW] at hK
  rw [fa_zero18] at hW
  rw [← hW]
  clear hW
  have HK := Lib.hid hK
  clear hK
  have HN := Lib.hid (⟨hab, ha, hb⟩ : a + b < R 18 ∧ a < R 18 ∧ b < R 18)
  clear hab ha hb
  have hcmp : (a < b ∧ cmpN a b = -1) ∨ (¬ a < b ∧ b ≤ a ∧ (cmpN a b = 0 ∨ cmpN a b = 1)) := by
    unfold cmpN; split
    · exact .inl ⟨by assumption, rfl⟩
    · refine .inr ⟨by assumption, by omega, ?_⟩
      split
      · exact .inr rfl
      · exact .inl rfl
  have HC := Lib.hid hcmp
  clear hcmp
  by_cases hxy : x = y
  · have HV := Lib.hid (show psS x y a b = x ∧ psN x y a b = a + b from ⟨if_pos hxy, if_pos hxy⟩)
    have hbe : (x == y) = true := by simp [hxy]
    clear hxy
    go_wp2_with (first
      | (refine wpList_lda rfl rfl rfl (HK.out.2 _ (.head _)) Tryd.underlying56 rfl size65 ?_)
      | (refine wpList_lda rfl rfl rfl (HK.out.2 _ (.tail _ (.head _))) Tryd.underlying56 rfl size65 ?_)
      | (go_at_call 31; refine (plus_any a b HN.out.2.1 HN.out.2.2 HN.out.1 _).mono ?_; rintro e w1 ⟨rfl, hb1⟩; have HK2 := Lib.hid (HK.out.below hb1); clear hb1; unfold wid)
      | (refine wpList_sta (f := dg (a + b)) (f' := fun _ => 0) rfl rfl rfl rfl (HK2.out.2 _ (.tail _ (.tail _ (.head _)))) size65 ?_))
    refine bodyPost_ret (res_tmp_cell rfl rfl (setRow_heap _ _ _ _ _ _ (HK2.out.2 _ (.tail _ (.tail _ (.head _))))) Tryd.underlying56 rfl (by rw [size65, fa_size])) rfl ⟨?_, below_setRow HK2.out.1 (by omega) _⟩
    rw [HV.out.1, HV.out.2]; rfl
  · have hbe : (x == y) = false := by simp [hxy]
    have HX := Lib.hid hxy
    clear hxy
    have HV := Lib.hid (show (a < b → psS x y a b = y ∧ psN x y a b = b - a) ∧ (¬ a < b → psS x y a b = x ∧ psN x y a b = a - b) from
      ⟨fun h => ⟨by rw [psS, if_neg HX.out, if_pos h], by rw [psN, if_neg HX.out, if_pos h]⟩, fun h => ⟨by rw [psS, if_neg HX.out, if_neg h], by rw [psN, if_neg HX.out, if_neg h]⟩⟩)
    rcases HC.out with ⟨h1, h2⟩ | ⟨h1, h2, h3⟩
    · obtain ⟨v1, v2⟩ := HV.out.1 h1
      have V1 := Lib.hid v1
      have V2 := Lib.hid v2
      have H1 := Lib.hid h1
      clear HC HV v1 v2 h1
      go_wp2_with (first
        | (refine wpList_lda rfl rfl rfl (HK.out.2 _ (.head _)) Tryd.underlying56 rfl size65 ?_)
        | (refine wpList_lda rfl rfl rfl (HK.out.2 _ (.tail _ (.head _))) Tryd.underlying56 rfl size65 ?_)
        | (go_at_call 69; refine (compare_any a b HN.out.2.1 HN.out.2.2 _).mono ?_; rintro e w1 ⟨rfl, hb1⟩; have HK2 := Lib.hid (HK.out.below hb1); clear hb1; rw [h2])
        | (refine wpList_lda rfl rfl rfl (HK2.out.2 _ (.head _)) Tryd.underlying56 rfl size65 ?_)
        | (refine wpList_lda rfl rfl rfl (HK2.out.2 _ (.tail _ (.head _))) Tryd.underlying56 rfl size65 ?_)
        | (go_at_call 70; refine (minus_any b a HN.out.2.2 (Nat.le_of_lt H1.out) _).mono ?_; rintro e w2 ⟨rfl, hb1⟩; have HK3 := Lib.hid (HK2.out.below hb1); clear hb1; unfold wid)
        | (refine wpList_sta (f := dg (b - a)) (f' := fun _ => 0) rfl rfl rfl rfl (HK3.out.2 _ (.tail _ (.tail _ (.head _)))) size65 ?_))
      refine bodyPost_ret (res_tmp_cell rfl rfl (setRow_heap _ _ _ _ _ _ (HK3.out.2 _ (.tail _ (.tail _ (.head _))))) Tryd.underlying56 rfl (by rw [size65, fa_size])) rfl ⟨?_, below_setRow HK3.out.1 (by omega) _⟩
      rw [V1.out, V2.out]; rfl
    · obtain ⟨v1, v2⟩ := HV.out.2 h1
      have V1 := Lib.hid v1
      have V2 := Lib.hid v2
      have H1 := Lib.hid h2
      clear HC HV v1 v2 h1 h2
      rcases h3 with h3 | h3
      all_goals
        go_wp2_with (first
          | (refine wpList_lda rfl rfl rfl (HK.out.2 _ (.head _)) Tryd.underlying56 rfl size65 ?_)
          | (refine wpList_lda rfl rfl rfl (HK.out.2 _ (.tail _ (.head _))) Tryd.underlying56 rfl size65 ?_)
          | (go_at_call 69; refine (compare_any a b HN.out.2.1 HN.out.2.2 _).mono ?_; rintro e w1 ⟨rfl, hb1⟩; have HK2 := Lib.hid (HK.out.below hb1); clear hb1; rw [h3])
          | (refine wpList_lda rfl rfl rfl (HK2.out.2 _ (.head _)) Tryd.underlying56 rfl size65 ?_)
          | (refine wpList_lda rfl rfl rfl (HK2.out.2 _ (.tail _ (.head _))) Tryd.underlying56 rfl size65 ?_)
          | (go_at_call 70; refine (minus_any a b HN.out.2.1 H1.out _).mono ?_; rintro e w2 ⟨rfl, hb1⟩; have HK3 := Lib.hid (HK2.out.below hb1); clear hb1; unfold wid)
          | (refine wpList_sta (f := dg (a - b)) (f' := fun _ => 0) rfl rfl rfl rfl (HK3.out.2 _ (.tail _ (.tail _ (.head _)))) size65 ?_))
        refine bodyPost_ret (res_tmp_cell rfl rfl (setRow_heap _ _ _ _ _ _ (HK3.out.2 _ (.tail _ (.tail _ (.head _))))) Tryd.underlying56 rfl (by rw [size65, fa_size])) rfl ⟨?_, below_setRow HK3.out.1 (by omega) _⟩
        rw [V1.out, V2.out]; rfl
end Go.Proofs.YtalmflgkbmnghaaDoor
namespace Tf
open Go Go.RowKit Go.Proofs.YtalmflgkbmnghaaDoor
theorem KS.newvar2 {w w1 : World} {K : List (Nat × Obj)} {cs cs' ds ds' : Array Value} {t u : TypeId} (h : KS w K w1) : KS w ((w1.heap.size, .cells cs' t (0, 0)) :: (w1.heap.size + 1, .cells ds' u (0, 0)) :: K)
    ((((w1.alloc (.cells cs t (0, 0))).alloc (.cells ds u (0, 0))).setRow w1.heap.size cs').setRow (w1.heap.size + 1) ds') := by
  have h2 := (h.alloc (.cells cs t (0, 0))).alloc (.cells ds u (0, 0))
  rw [size1] at h2
  have hlt : ∀ p ∈ K, p.1 < w1.heap.size := fun p hp => lt_of_block (h.2 p hp)
  have h3 := KS.put (K' := (w1.heap.size + 1, .cells ds u (0, 0)) :: (w1.heap.size, .cells cs' t (0, 0)) :: K) h2 h.1.size (.tail _ (.head _)) (by
    intro p hp
    rcases List.mem_cons.1 hp with rfl | hp
    · exact .inr ⟨.head _, by simp only; omega⟩
    · rcases List.mem_cons.1 hp with rfl | hp
      · exact .inl rfl
      · exact .inr ⟨.tail _ (.tail _ hp), by have := hlt p hp; omega⟩)
  exact KS.put h3 (by have := h.1.size; omega) (.head _) (by
    intro p hp
    rcases List.mem_cons.1 hp with rfl | hp
    · exact .inr ⟨.tail _ (.head _), by simp only; omega⟩
    · rcases List.mem_cons.1 hp with rfl | hp
      · exact .inl rfl
      · exact .inr ⟨.tail _ (.tail _ hp), by have := hlt p hp; omega⟩)

end Tf
namespace Go.Proofs.YtalmflgkbmnghaaDoor
open Go.RowKit Tf
variable [ShLZ]
theorem heap2_2s (w : World) (A B : Obj) (cs : Array Value) : (((w.alloc A).alloc B).setRow w.heap.size cs).heap[w.heap.size + 1]? = some B := by
  rw [setRow_other _ _ _ _ (by omega)]; exact (heap2 w A B).2
theorem yb_ldb {W0 : World} {o : Oper} {a : Act} {K : List (Nat × Obj)} {x : Operand} {g : Nat} {s : Bool} {n d : Nat} {t : TypeId} (ho : o.op = .load 4 x) (hx : a.eval x = .pointer (some ⟨g, 0, none⟩)) (hm : (g, .cells (frcC s n d) t (0, 0)) ∈ K) :
    ∀ w, KS W0 K w → ∀ K' : Act → World → Prop, (∀ w', Below w.heap.size w w' → K' (a.put o.dst (.bool s)) w') → Oper.wp Tryd.prog o a w K' (fun _ _ _ => False) := by
  intro w hw K' hk
  have hc := frc_cell (hw.2 _ hm)
  unfold Oper.wp execOp
  simp only [ho, hx]
  go_simp
  exact hk w (Below.refl _ _)

set_option maxRecDepth 100000 in
set_option maxHeartbeats 2000000 in
theorem add_walk (s1 s2 S : Bool) (n1 d1 n2 d2 c ov q2 u v N l : Nat) (s' : Bool) (n' d' : Nat) (ee : Int) (RV : Value) (hc : c < R 8) (hc1 : c = 1 → RV = packV S N (d1 * d2)) (hc2 : c ≠ 1 → RV = packV S (N / l) (ov * (d2 / l)))
    (HPV : Hid (RV = .tuple #[.agg (frcC s' n' d'), .int .i64 ee]))
    (Cgcd : Hid (∀ W, Calls Tryd.prog 48 #[num d1, num d2] W fun e w' => e = .returned (num c) ∧ Below W.heap.size W w'))
    (Cov : Hid (∀ W, Calls Tryd.prog 49 #[num d1, num c] W fun e w' => e = .returned (num ov) ∧ Below W.heap.size W w'))
    (Cq2 : Hid (∀ W, Calls Tryd.prog 49 #[num d2, num c] W fun e w' => e = .returned (num q2) ∧ Below W.heap.size W w'))
    (Cu : Hid (∀ W, Calls Tryd.prog 51 #[num n1, num q2] W fun e w' => e = .returned (wid u) ∧ Below W.heap.size W w'))
    (Cv : Hid (∀ W, Calls Tryd.prog 51 #[num n2, num ov] W fun e w' => e = .returned (wid v) ∧ Below W.heap.size W w'))
    (Cps : Hid (∀ W, Calls Tryd.prog 50 #[.bool s1, wid u, .bool s2, wid v] W fun e w' => e = .returned (.tuple #[.bool S, wid N]) ∧ Below W.heap.size W w'))
    (Ct : Hid (∀ W, Calls Tryd.prog 51 #[num d1, num d2] W fun e w' => e = .returned (wid (d1 * d2)) ∧ Below W.heap.size W w'))
    (Cdv : Hid (∀ W, Calls Tryd.prog 29 #[wid N, num c] W fun e w' => e = .returned (.tuple #[wid (N / c), num (N % c)]) ∧ Below W.heap.size W w'))
    (Cl : Hid (∀ W, Calls Tryd.prog 48 #[num (N % c), num c] W fun e w' => e = .returned (num l) ∧ Below W.heap.size W w'))
    (Cdl : Hid (∀ W, Calls Tryd.prog 29 #[wid N, num l] W fun e w' => e = .returned (.tuple #[wid (N / l), num (N % l)]) ∧ Below W.heap.size W w'))
    (Cdq : Hid (∀ W, Calls Tryd.prog 49 #[num d2, num l] W fun e w' => e = .returned (num (d2 / l)) ∧ Below W.heap.size W w'))
    (Cod : Hid (∀ W, Calls Tryd.prog 51 #[num ov, num (d2 / l)] W fun e w' => e = .returned (wid (ov * (d2 / l))) ∧ Below W.heap.size W w'))
    (CP1 : Hid (∀ W, Calls Tryd.prog 52 #[.bool S, wid N, wid (d1 * d2)] W fun e w' => e = .returned (packV S N (d1 * d2)) ∧ Below W.heap.size W w'))
    (CP2 : Hid (∀ W, Calls Tryd.prog 52 #[.bool S, wid (N / l), wid (ov * (d2 / l))] W fun e w' => e = .returned (packV S (N / l) (ov * (d2 / l))) ∧ Below W.heap.size W w'))
    (w : World) :
    Calls Tryd.prog 26 #[frc s1 n1 d1, frc s2 n2 d2] w fun e w' => e = .returned RV ∧ Below w.heap.size w w' := by
  have hc1' := Lib.hid hc1
  have hc2' := Lib.hid hc2
  clear hc1 hc2
  unfold frc
  go_enter Tryd.func26, Tryd.ntmps26
  go_upto_region 1 with (fail)
  have hK := KS.three w (.cells (frcC s1 n1 d1) 27) (.cells (frcC s2 n2 d2) 27) (.cells (frcC false 0 0) 27)
  obtain ⟨W, hW⟩ : ∃ W, W = ((w.alloc (.cells (frcC s1 n1 d1) 27)).alloc (.cells (frcC s2 n2 d2) 27)).alloc (.cells (frcC false 0 0) 27) := ⟨_, rfl⟩
  rw [← hW] at hK
  rw [frc_zero] at hW
  rw [← hW]
  clear hW
  have HK := Lib.hid hK
  clear hK
  go_upto_region 2 with (first
    | (refine wpList_ldd rfl rfl rfl (HK.out.2 _ (.head _)) Tryd.underlying25 rfl size25 ?_)
    | (refine wpList_ldd rfl rfl rfl (HK.out.2 _ (.tail _ (.head _))) Tryd.underlying25 rfl size25 ?_)
    | (go_at_call 48; refine (Cgcd.out _).mono ?_; rintro e w1 ⟨rfl, hb1⟩; have HK1 := Lib.hid (HK.out.below hb1); clear hb1; unfold num)
    | (refine wpList_sta (f := dg c) (f' := fun _ => 0) rfl rfl rfl rfl (heap1 w1 _) size25 ?_))
  obtain ⟨Bgc, Fgc⟩ := HK1.out.fresh
  have HK2 := Lib.hid (HK1.out.newvar (cs := fa 8 (fun _ => 0)) (cs' := fa 8 (dg (c))) (t := 25))
  simp only [List.forall_mem_cons] at Fgc
  rw [← fa_zero8]
  generalize (w1.alloc (.cells (fa 8 (fun _ => 0)) 25)).setRow w1.heap.size (fa 8 (dg (c))) = W1 at *
  clear HK1
  generalize w1.heap.size = gc at *
  clear HK
  go_upto_region 3 with (first
    | (refine wpList_ldd rfl rfl rfl (HK2.out.2 _ (.tail _ (.head _))) Tryd.underlying25 rfl size25 ?_)
    | (refine wpList_lda rfl rfl rfl (HK2.out.2 _ (.head _)) Tryd.underlying25 rfl size25 ?_)
    | (go_at_call 49; refine (Cov.out _).mono ?_; rintro e w2 ⟨rfl, hb1⟩; have HK3 := Lib.hid (HK2.out.below hb1); clear hb1; unfold num)
    | (refine wpList_sta (f := dg ov) (f' := fun _ => 0) rfl rfl rfl rfl (heap1 w2 _) size25 ?_))
  obtain ⟨Bgo, Fgo⟩ := HK3.out.fresh
  have HK4 := Lib.hid (HK3.out.newvar (cs := fa 8 (fun _ => 0)) (cs' := fa 8 (dg (ov))) (t := 25))
  simp only [List.forall_mem_cons] at Fgo
  rw [← fa_zero8]
  generalize (w2.alloc (.cells (fa 8 (fun _ => 0)) 25)).setRow w2.heap.size (fa 8 (dg (ov))) = W2 at *
  clear HK3
  generalize w2.heap.size = go at *
  clear HK2
  go_wp2_with fail
  refine wp_region_U (W0 := w) [(go, .cells (fa 8 (dg ov)) 25 (0, 0)), (gc, .cells (fa 8 (dg c)) 25 (0, 0)), (w.heap.size, .cells (frcC (s1) (n1) (d1)) 27 (0, 0)), (w.heap.size + 1, .cells (frcC (s2) (n2) (d2)) 27 (0, 0)), (w.heap.size + 1 + 1, .cells (frcC (false) (0) (0)) 27 (0, 0))] (by kernel_rfl) (HK4.out) ?_
  refine wpU_pY (i := 0) (v := .pointer (some ⟨w.heap.size, 0, none⟩)) rfl rfl (by kernel_rfl) (by kernel_rfl) rfl (fun _ => by kernel_rfl) (by simp only [List.setIfInBounds_toArray, List.set_cons_succ, List.set_cons_zero] <;> rfl) ?_
  refine wpU_vY (i := 1) (v := .bool s1) rfl rfl (by kernel_rfl) (by kernel_rfl) rfl (yb_ldb rfl (by kernel_rfl) (.tail _ (.tail _ (.head _)))) (by simp only [List.setIfInBounds_toArray, List.set_cons_succ, List.set_cons_zero] <;> rfl) ?_
  refine wpU_pY (i := 2) (v := .pointer (some ⟨w.heap.size, 1, none⟩)) rfl rfl (by kernel_rfl) (by kernel_rfl) rfl (fun _ => by kernel_rfl) (by simp only [List.setIfInBounds_toArray, List.set_cons_succ, List.set_cons_zero] <;> rfl) ?_
  refine wpU_vY (i := 3) (v := num (n1)) rfl rfl (by kernel_rfl) (by kernel_rfl) rfl (yb_load rfl (by kernel_rfl) (.tail _ (.tail _ (.head _))) Tryd.underlying25 rfl size25 (by simp) (frc_num (s1) (n1) (d1))) (by simp only [List.setIfInBounds_toArray, List.set_cons_succ, List.set_cons_zero] <;> rfl) ?_
  refine wpU_pY (i := 4) (v := .pointer (some ⟨w.heap.size + 1, 9, none⟩)) rfl rfl (by kernel_rfl) (by kernel_rfl) rfl (fun _ => by kernel_rfl) (by simp only [List.setIfInBounds_toArray, List.set_cons_succ, List.set_cons_zero] <;> rfl) ?_
  refine wpU_vY (i := 5) (v := num (d2)) rfl rfl (by kernel_rfl) (by kernel_rfl) rfl (yb_load rfl (by kernel_rfl) (.tail _ (.tail _ (.tail _ (.head _)))) Tryd.underlying25 rfl size25 (by simp) (frc_den (s2) (n2) (d2))) (by simp only [List.setIfInBounds_toArray, List.set_cons_succ, List.set_cons_zero] <;> rfl) ?_
  refine wpU_vY (i := 6) (v := num c) rfl rfl (by kernel_rfl) (by kernel_rfl) rfl (yb_lda rfl (by kernel_rfl) (.tail _ (.head _)) Tryd.underlying25 rfl size25) (by simp only [List.setIfInBounds_toArray, List.set_cons_succ, List.set_cons_zero] <;> rfl) ?_
  refine wpU_vY (i := 7) (v := num q2) rfl rfl (by kernel_rfl) (by kernel_rfl) rfl (yb_call (f := 49) (args := #[num d2, num c]) (fun _ => by kernel_rfl) fun W hW => Cq2.out W) (by simp only [List.setIfInBounds_toArray, List.set_cons_succ, List.set_cons_zero] <;> rfl) ?_
  refine wpU_vY (i := 8) (v := wid u) rfl rfl (by kernel_rfl) (by kernel_rfl) rfl (yb_call (f := 51) (args := #[num n1, num q2]) (fun _ => by kernel_rfl) fun W hW => Cu.out W) (by simp only [List.setIfInBounds_toArray, List.set_cons_succ, List.set_cons_zero] <;> rfl) ?_
  refine wpU_pY (i := 9) (v := .pointer (some ⟨w.heap.size + 1, 0, none⟩)) rfl rfl (by kernel_rfl) (by kernel_rfl) rfl (fun _ => by kernel_rfl) (by simp only [List.setIfInBounds_toArray, List.set_cons_succ, List.set_cons_zero] <;> rfl) ?_
  refine wpU_vY (i := 10) (v := .bool s2) rfl rfl (by kernel_rfl) (by kernel_rfl) rfl (yb_ldb rfl (by kernel_rfl) (.tail _ (.tail _ (.tail _ (.head _))))) (by simp only [List.setIfInBounds_toArray, List.set_cons_succ, List.set_cons_zero] <;> rfl) ?_
  refine wpU_pY (i := 11) (v := .pointer (some ⟨w.heap.size + 1, 1, none⟩)) rfl rfl (by kernel_rfl) (by kernel_rfl) rfl (fun _ => by kernel_rfl) (by simp only [List.setIfInBounds_toArray, List.set_cons_succ, List.set_cons_zero] <;> rfl) ?_
  refine wpU_vY (i := 12) (v := num (n2)) rfl rfl (by kernel_rfl) (by kernel_rfl) rfl (yb_load rfl (by kernel_rfl) (.tail _ (.tail _ (.tail _ (.head _)))) Tryd.underlying25 rfl size25 (by simp) (frc_num (s2) (n2) (d2))) (by simp only [List.setIfInBounds_toArray, List.set_cons_succ, List.set_cons_zero] <;> rfl) ?_
  refine wpU_vY (i := 13) (v := num ov) rfl rfl (by kernel_rfl) (by kernel_rfl) rfl (yb_lda rfl (by kernel_rfl) (.head _) Tryd.underlying25 rfl size25) (by simp only [List.setIfInBounds_toArray, List.set_cons_succ, List.set_cons_zero] <;> rfl) ?_
  refine wpU_vY (i := 14) (v := wid v) rfl rfl (by kernel_rfl) (by kernel_rfl) rfl (yb_call (f := 51) (args := #[num n2, num ov]) (fun _ => by kernel_rfl) fun W hW => Cv.out W) (by simp only [List.setIfInBounds_toArray, List.set_cons_succ, List.set_cons_zero] <;> rfl) ?_
  refine wpU_vY (i := 15) (v := .tuple #[.bool S, wid N]) rfl rfl (by kernel_rfl) (by kernel_rfl) rfl (yb_call (f := 50) (args := #[.bool s1, wid u, .bool s2, wid v]) (fun _ => by kernel_rfl) fun W hW => Cps.out W) (by simp only [List.setIfInBounds_toArray, List.set_cons_succ, List.set_cons_zero] <;> rfl) ?_
  refine wpU_pY (i := 16) (v := .tuple #[.bool S, wid N]) rfl rfl (by kernel_rfl) (by kernel_rfl) rfl (fun _ => by kernel_rfl) (by simp only [List.setIfInBounds_toArray, List.set_cons_succ, List.set_cons_zero] <;> rfl) ?_
  refine wpU_pY (i := 17) (v := .bool S) rfl rfl (by kernel_rfl) (by kernel_rfl) rfl (fun _ => by kernel_rfl) (by simp only [List.setIfInBounds_toArray, List.set_cons_succ, List.set_cons_zero] <;> rfl) ?_
  refine wpU_pY (i := 18) (v := wid N) rfl rfl (by kernel_rfl) (by kernel_rfl) rfl (fun _ => by kernel_rfl) (by simp only [List.setIfInBounds_toArray, List.set_cons_succ, List.set_cons_zero] <;> rfl) ?_
  refine wpU_newY (i := 19) (obi := .cells (fa 18 (fun _ => 0)) 56 (0, 0)) rfl rfl rfl (by kernel_rfl) (fun _ _ => rfl) (fun _ => by simp only [List.setIfInBounds_toArray, List.set_cons_succ, List.set_cons_zero] <;> rfl) fun gn Bgn Fgn => ?_
  simp only [List.forall_mem_cons] at Fgn
  refine wpU_pY (i := 20) (v := .bool S) rfl rfl (by kernel_rfl) (by kernel_rfl) rfl (fun _ => by kernel_rfl) (by simp only [List.setIfInBounds_toArray, List.set_cons_succ, List.set_cons_zero] <;> rfl) ?_
  refine wpU_sY [(gn, .cells (fa 18 (dg N)) 56 (0, 0)), (go, .cells (fa 8 (dg ov)) 25 (0, 0)), (gc, .cells (fa 8 (dg c)) 25 (0, 0)), (w.heap.size, .cells (frcC (s1) (n1) (d1)) 27 (0, 0)), (w.heap.size + 1, .cells (frcC (s2) (n2) (d2)) 27 (0, 0)), (w.heap.size + 1 + 1, .cells (frcC (false) (0) (0)) 27 (0, 0))] (i := 21) rfl (by kernel_rfl) rfl rfl rfl
    (st_a rfl rfl rfl (.head _) (by omega) size65 (by intro p hp; simp only [List.mem_cons, List.not_mem_nil, or_false] at hp; rcases hp with rfl | rfl | rfl | rfl | rfl | rfl; exact .inl rfl; exact .inr ⟨by simp, by simp only; omega⟩; exact .inr ⟨by simp, by simp only; omega⟩; exact .inr ⟨by simp, by simp only; omega⟩; exact .inr ⟨by simp, by simp only; omega⟩; exact .inr ⟨by simp, by simp only; omega⟩)) ?_
  refine wpU_done (by kernel_rfl) (fun W4 hW4 => ?_) _
  have HK5 := Lib.hid hW4
  clear hW4 HK4
  by_cases h1 : c = 1
  · have HPK : Hid (∀ W, Calls Tryd.prog 52 #[.bool S, wid N, wid (d1 * d2)] W fun e w' => e = .returned RV ∧ Below W.heap.size W w') := by
      unfold Hid; rw [hc1'.out h1]; exact CP1.out
    subst h1
    go_wp2_with (first
      | (refine wpList_lda rfl rfl rfl (HK5.out.2 _ (.tail _ (.tail _ (.head _)))) Tryd.underlying25 rfl size25 ?_))
    refine wp_region_U (W0 := w) [(gn, .cells (fa 18 (dg N)) 56 (0, 0)), (go, .cells (fa 8 (dg ov)) 25 (0, 0)), (gc, .cells (fa 8 (dg 1)) 25 (0, 0)), (w.heap.size, .cells (frcC (s1) (n1) (d1)) 27 (0, 0)), (w.heap.size + 1, .cells (frcC (s2) (n2) (d2)) 27 (0, 0)), (w.heap.size + 1 + 1, .cells (frcC (false) (0) (0)) 27 (0, 0))] (by kernel_rfl) (HK5.out) ?_
    refine wpU_pY (i := 0) (v := .bool S) rfl rfl (by kernel_rfl) (by kernel_rfl) rfl (fun _ => by kernel_rfl) (by simp only [List.setIfInBounds_toArray, List.set_cons_succ, List.set_cons_zero] <;> rfl) ?_
    refine wpU_vY (i := 1) (v := wid N) rfl rfl (by kernel_rfl) (by kernel_rfl) rfl (yb_lda rfl (by kernel_rfl) (.head _) Tryd.underlying56 rfl size65) (by simp only [List.setIfInBounds_toArray, List.set_cons_succ, List.set_cons_zero] <;> rfl) ?_
    refine wpU_pY (i := 2) (v := .pointer (some ⟨w.heap.size, 9, none⟩)) rfl rfl (by kernel_rfl) (by kernel_rfl) rfl (fun _ => by kernel_rfl) (by simp only [List.setIfInBounds_toArray, List.set_cons_succ, List.set_cons_zero] <;> rfl) ?_
    refine wpU_vY (i := 3) (v := num (d1)) rfl rfl (by kernel_rfl) (by kernel_rfl) rfl (yb_load rfl (by kernel_rfl) (.tail _ (.tail _ (.tail _ (.head _)))) Tryd.underlying25 rfl size25 (by simp) (frc_den (s1) (n1) (d1))) (by simp only [List.setIfInBounds_toArray, List.set_cons_succ, List.set_cons_zero] <;> rfl) ?_
    refine wpU_pY (i := 4) (v := .pointer (some ⟨w.heap.size + 1, 9, none⟩)) rfl rfl (by kernel_rfl) (by kernel_rfl) rfl (fun _ => by kernel_rfl) (by simp only [List.setIfInBounds_toArray, List.set_cons_succ, List.set_cons_zero] <;> rfl) ?_
    refine wpU_vY (i := 5) (v := num (d2)) rfl rfl (by kernel_rfl) (by kernel_rfl) rfl (yb_load rfl (by kernel_rfl) (.tail _ (.tail _ (.tail _ (.tail _ (.head _))))) Tryd.underlying25 rfl size25 (by simp) (frc_den (s2) (n2) (d2))) (by simp only [List.setIfInBounds_toArray, List.set_cons_succ, List.set_cons_zero] <;> rfl) ?_
    refine wpU_vY (i := 6) (v := wid (d1 * d2)) rfl rfl (by kernel_rfl) (by kernel_rfl) rfl (yb_call (f := 51) (args := #[num d1, num d2]) (fun _ => by kernel_rfl) fun W hW => Ct.out W) (by simp only [List.setIfInBounds_toArray, List.set_cons_succ, List.set_cons_zero] <;> rfl) ?_
    refine wpU_vY (i := 7) (v := .tuple #[.agg (frcC s' n' d'), .int .i64 ee]) rfl rfl (by kernel_rfl) (by kernel_rfl) rfl (yb_call (f := 52) (args := #[.bool S, wid N, wid (d1 * d2)]) (fun _ => by kernel_rfl) fun W hW => by rw [← HPV.out]; exact HPK.out W) (by simp only [List.setIfInBounds_toArray, List.set_cons_succ, List.set_cons_zero] <;> rfl) ?_
    refine wpU_pY (i := 8) (v := .agg (frcC s' n' d')) rfl rfl (by kernel_rfl) (by kernel_rfl) rfl (fun _ => by kernel_rfl) (by simp only [List.setIfInBounds_toArray, List.set_cons_succ, List.set_cons_zero] <;> rfl) ?_
    refine wpU_pY (i := 9) (v := .int .i64 ee) rfl rfl (by kernel_rfl) (by kernel_rfl) rfl (fun _ => by kernel_rfl) (by simp only [List.setIfInBounds_toArray, List.set_cons_succ, List.set_cons_zero] <;> rfl) ?_
    refine wpU_sY [(gn, .cells (fa 18 (dg N)) 56 (0, 0)), (go, .cells (fa 8 (dg ov)) 25 (0, 0)), (gc, .cells (fa 8 (dg 1)) 25 (0, 0)), (w.heap.size, .cells (frcC (s1) (n1) (d1)) 27 (0, 0)), (w.heap.size + 1, .cells (frcC (s2) (n2) (d2)) 27 (0, 0)), (w.heap.size + 1 + 1, .cells (frcC (s') (n') (d')) 27 (0, 0))] (i := 10) rfl (by kernel_rfl) rfl rfl rfl
      (st_f (neg := s') (n := n') (d := d') rfl (by kernel_rfl) (by kernel_rfl) (.tail _ (.tail _ (.tail _ (.tail _ (.tail _ (.head _)))))) (by omega) size27 (by intro p hp; simp only [List.mem_cons, List.not_mem_nil, or_false] at hp; rcases hp with rfl | rfl | rfl | rfl | rfl | rfl; exact .inr ⟨by simp, by simp only; omega⟩; exact .inr ⟨by simp, by simp only; omega⟩; exact .inr ⟨by simp, by simp only; omega⟩; exact .inr ⟨by simp, by simp only; omega⟩; exact .inr ⟨by simp, by simp only; omega⟩; exact .inl rfl)) ?_
    refine wpU_pY (i := 11) (v := .int .i64 ee) rfl rfl (by kernel_rfl) (by kernel_rfl) rfl (fun _ => by kernel_rfl) (by simp only [List.setIfInBounds_toArray, List.set_cons_succ, List.set_cons_zero] <;> rfl) ?_
    refine wpU_done (by kernel_rfl) (fun W4 hW4 => ?_) _
    go_wp2_with fail
    exact bodyPost_ret (res_cell_tmp rfl rfl (hW4.2 _ (.tail _ (.tail _ (.tail _ (.tail _ (.tail _ (.head _))))))) Tryd.underlying27 rfl (by rw [size27, frcC_size])) rfl ⟨by rw [HPV.out]; rfl, hW4.1⟩
  · have HPK : Hid (∀ W, Calls Tryd.prog 52 #[.bool S, wid (N / l), wid (ov * (d2 / l))] W fun e w' => e = .returned RV ∧ Below W.heap.size W w') := by
      unfold Hid; rw [hc2'.out h1]; exact CP2.out
    go_upto_region 6 with (first
      | (refine wpList_lda rfl rfl rfl (HK5.out.2 _ (.tail _ (.tail _ (.head _)))) Tryd.underlying25 rfl size25 ?_))
    go_upto_region 7 with (first
      | (refine wpList_lda rfl rfl rfl (HK5.out.2 _ (.head _)) Tryd.underlying56 rfl size65 ?_)
      | (refine wpList_lda rfl rfl rfl (HK5.out.2 _ (.tail _ (.tail _ (.head _)))) Tryd.underlying25 rfl size25 ?_)
      | (go_at_call 29; refine (Cdv.out _).mono ?_; rintro e w3 ⟨rfl, hb1⟩; have HK6 := Lib.hid (HK5.out.below hb1); clear hb1; unfold wid num)
      | (refine wpList_sta (f := dg (N / c)) (f' := fun _ => 0) rfl rfl rfl rfl (heap2 w3 _ _).1 size65 ?_)
      | (refine wpList_sta (f := dg (N % c)) (f' := fun _ => 0) rfl rfl rfl rfl (heap2_2s w3 _ _ _) size25 ?_))
    obtain ⟨Bx, Fx⟩ := HK6.out.fresh
    have HK7 := Lib.hid (HK6.out.newvar2 (cs := fa 18 (fun _ => 0)) (cs' := fa 18 (dg (N / c))) (t := 56) (ds := fa 8 (fun _ => 0)) (ds' := fa 8 (dg (N % c))) (u := 25))
    simp only [List.forall_mem_cons] at Fx
    rw [← fa_zero8, ← fa_zero18]
    generalize (((w3.alloc (.cells (fa 18 (fun _ => 0)) 56)).alloc (.cells (fa 8 (fun _ => 0)) 25)).setRow w3.heap.size (fa 18 (dg (N / c)))).setRow (w3.heap.size + 1) (fa 8 (dg (N % c))) = W3 at *
    clear HK6 HK5
    generalize w3.heap.size = gx at *
    go_upto_region 8 with (first
      | (refine wpList_lda rfl rfl rfl (HK7.out.2 _ (.tail _ (.head _))) Tryd.underlying25 rfl size25 ?_)
      | (refine wpList_lda rfl rfl rfl (HK7.out.2 _ (.tail _ (.tail _ (.tail _ (.tail _ (.head _)))))) Tryd.underlying25 rfl size25 ?_)
      | (go_at_call 48; refine (Cl.out _).mono ?_; rintro e w4 ⟨rfl, hb1⟩; have HK8 := Lib.hid (HK7.out.below hb1); clear hb1; unfold num)
      | (refine wpList_sta (f := dg l) (f' := fun _ => 0) rfl rfl rfl rfl (heap1 w4 _) size25 ?_))
    obtain ⟨Bgl, Fgl⟩ := HK8.out.fresh
    have HK9 := Lib.hid (HK8.out.newvar (cs := fa 8 (fun _ => 0)) (cs' := fa 8 (dg (l))) (t := 25))
    simp only [List.forall_mem_cons] at Fgl
    rw [← fa_zero8]
    generalize (w4.alloc (.cells (fa 8 (fun _ => 0)) 25)).setRow w4.heap.size (fa 8 (dg (l))) = W4 at *
    clear HK8
    generalize w4.heap.size = gl at *
    clear HK7
    go_upto_region 9 with (first
      | (refine wpList_lda rfl rfl rfl (HK9.out.2 _ (.tail _ (.tail _ (.tail _ (.head _))))) Tryd.underlying56 rfl size65 ?_)
      | (refine wpList_lda rfl rfl rfl (HK9.out.2 _ (.head _)) Tryd.underlying25 rfl size25 ?_)
      | (go_at_call 29; refine (Cdl.out _).mono ?_; rintro e w5 ⟨rfl, hb1⟩; have HKa := Lib.hid (HK9.out.below hb1); clear hb1; unfold wid num)
      | (refine wpList_sta (f := dg (N / l)) (f' := dg N) rfl rfl rfl rfl (HKa.out.2 _ (.tail _ (.tail _ (.tail _ (.head _))))) size65 ?_))
    have HKb : Hid (KS w [(gl, .cells (fa 8 (dg l)) 25 (0, 0)), (gx, .cells (fa 18 (dg (N / c))) 56 (0, 0)), (gx + 1, .cells (fa 8 (dg (N % c))) 25 (0, 0)), (gn, .cells (fa 18 (dg (N / l))) 56 (0, 0)), (go, .cells (fa 8 (dg ov)) 25 (0, 0)), (gc, .cells (fa 8 (dg c)) 25 (0, 0)), (w.heap.size, .cells (frcC (s1) (n1) (d1)) 27 (0, 0)), (w.heap.size + 1, .cells (frcC (s2) (n2) (d2)) 27 (0, 0)), (w.heap.size + 1 + 1, .cells (frcC (false) (0) (0)) 27 (0, 0))] (w5.setRow gn (fa 18 (dg (N / l))))) := HKa.out.put (by omega) (.tail _ (.tail _ (.tail _ (.head _)))) (by intro p hp; simp only [List.mem_cons, List.not_mem_nil, or_false] at hp; rcases hp with rfl | rfl | rfl | rfl | rfl | rfl | rfl | rfl | rfl; exact .inr ⟨by simp, by simp only; omega⟩; exact .inr ⟨by simp, by simp only; omega⟩; exact .inr ⟨by simp, by simp only; omega⟩; exact .inl rfl; exact .inr ⟨by simp, by simp only; omega⟩; exact .inr ⟨by simp, by simp only; omega⟩; exact .inr ⟨by simp, by simp only; omega⟩; exact .inr ⟨by simp, by simp only; omega⟩; exact .inr ⟨by simp, by simp only; omega⟩)
    generalize w5.setRow gn (fa 18 (dg (N / l))) = W5 at *
    clear HKa HK9
    go_wp2_with fail
    refine wp_region_U (W0 := w) [(gl, .cells (fa 8 (dg l)) 25 (0, 0)), (gx, .cells (fa 18 (dg (N / c))) 56 (0, 0)), (gx + 1, .cells (fa 8 (dg (N % c))) 25 (0, 0)), (gn, .cells (fa 18 (dg (N / l))) 56 (0, 0)), (go, .cells (fa 8 (dg ov)) 25 (0, 0)), (gc, .cells (fa 8 (dg c)) 25 (0, 0)), (w.heap.size, .cells (frcC (s1) (n1) (d1)) 27 (0, 0)), (w.heap.size + 1, .cells (frcC (s2) (n2) (d2)) 27 (0, 0)), (w.heap.size + 1 + 1, .cells (frcC (false) (0) (0)) 27 (0, 0))] (by kernel_rfl) (HKb.out) ?_
    refine wpU_pY (i := 0) (v := .bool S) rfl rfl (by kernel_rfl) (by kernel_rfl) rfl (fun _ => by kernel_rfl) (by simp only [List.setIfInBounds_toArray, List.set_cons_succ, List.set_cons_zero] <;> rfl) ?_
    refine wpU_vY (i := 1) (v := wid (N / l)) rfl rfl (by kernel_rfl) (by kernel_rfl) rfl (yb_lda rfl (by kernel_rfl) (.tail _ (.tail _ (.tail _ (.head _)))) Tryd.underlying56 rfl size65) (by simp only [List.setIfInBounds_toArray, List.set_cons_succ, List.set_cons_zero] <;> rfl) ?_
    refine wpU_vY (i := 2) (v := num ov) rfl rfl (by kernel_rfl) (by kernel_rfl) rfl (yb_lda rfl (by kernel_rfl) (.tail _ (.tail _ (.tail _ (.tail _ (.head _))))) Tryd.underlying25 rfl size25) (by simp only [List.setIfInBounds_toArray, List.set_cons_succ, List.set_cons_zero] <;> rfl) ?_
    refine wpU_pY (i := 3) (v := .pointer (some ⟨w.heap.size + 1, 9, none⟩)) rfl rfl (by kernel_rfl) (by kernel_rfl) rfl (fun _ => by kernel_rfl) (by simp only [List.setIfInBounds_toArray, List.set_cons_succ, List.set_cons_zero] <;> rfl) ?_
    refine wpU_vY (i := 4) (v := num (d2)) rfl rfl (by kernel_rfl) (by kernel_rfl) rfl (yb_load rfl (by kernel_rfl) (.tail _ (.tail _ (.tail _ (.tail _ (.tail _ (.tail _ (.tail _ (.head _)))))))) Tryd.underlying25 rfl size25 (by simp) (frc_den (s2) (n2) (d2))) (by simp only [List.setIfInBounds_toArray, List.set_cons_succ, List.set_cons_zero] <;> rfl) ?_
    refine wpU_vY (i := 5) (v := num l) rfl rfl (by kernel_rfl) (by kernel_rfl) rfl (yb_lda rfl (by kernel_rfl) (.head _) Tryd.underlying25 rfl size25) (by simp only [List.setIfInBounds_toArray, List.set_cons_succ, List.set_cons_zero] <;> rfl) ?_
    refine wpU_vY (i := 6) (v := num (d2 / l)) rfl rfl (by kernel_rfl) (by kernel_rfl) rfl (yb_call (f := 49) (args := #[num d2, num l]) (fun _ => by kernel_rfl) fun W hW => Cdq.out W) (by simp only [List.setIfInBounds_toArray, List.set_cons_succ, List.set_cons_zero] <;> rfl) ?_
    refine wpU_vY (i := 7) (v := wid (ov * (d2 / l))) rfl rfl (by kernel_rfl) (by kernel_rfl) rfl (yb_call (f := 51) (args := #[num ov, num (d2 / l)]) (fun _ => by kernel_rfl) fun W hW => Cod.out W) (by simp only [List.setIfInBounds_toArray, List.set_cons_succ, List.set_cons_zero] <;> rfl) ?_
    refine wpU_vY (i := 8) (v := .tuple #[.agg (frcC s' n' d'), .int .i64 ee]) rfl rfl (by kernel_rfl) (by kernel_rfl) rfl (yb_call (f := 52) (args := #[.bool S, wid (N / l), wid (ov * (d2 / l))]) (fun _ => by kernel_rfl) fun W hW => by rw [← HPV.out]; exact HPK.out W) (by simp only [List.setIfInBounds_toArray, List.set_cons_succ, List.set_cons_zero] <;> rfl) ?_
    refine wpU_pY (i := 9) (v := .agg (frcC s' n' d')) rfl rfl (by kernel_rfl) (by kernel_rfl) rfl (fun _ => by kernel_rfl) (by simp only [List.setIfInBounds_toArray, List.set_cons_succ, List.set_cons_zero] <;> rfl) ?_
    refine wpU_pY (i := 10) (v := .int .i64 ee) rfl rfl (by kernel_rfl) (by kernel_rfl) rfl (fun _ => by kernel_rfl) (by simp only [List.setIfInBounds_toArray, List.set_cons_succ, List.set_cons_zero] <;> rfl) ?_
    refine wpU_sY [(gl, .cells (fa 8 (dg l)) 25 (0, 0)), (gx, .cells (fa 18 (dg (N / c))) 56 (0, 0)), (gx + 1, .cells (fa 8 (dg (N % c))) 25 (0, 0)), (gn, .cells (fa 18 (dg (N / l))) 56 (0, 0)), (go, .cells (fa 8 (dg ov)) 25 (0, 0)), (gc, .cells (fa 8 (dg c)) 25 (0, 0)), (w.heap.size, .cells (frcC (s1) (n1) (d1)) 27 (0, 0)), (w.heap.size + 1, .cells (frcC (s2) (n2) (d2)) 27 (0, 0)), (w.heap.size + 1 + 1, .cells (frcC (s') (n') (d')) 27 (0, 0))] (i := 11) rfl (by kernel_rfl) rfl rfl rfl
      (st_f (neg := s') (n := n') (d := d') rfl (by kernel_rfl) (by kernel_rfl) (.tail _ (.tail _ (.tail _ (.tail _ (.tail _ (.tail _ (.tail _ (.tail _ (.head _))))))))) (by omega) size27 (by intro p hp; simp only [List.mem_cons, List.not_mem_nil, or_false] at hp; rcases hp with rfl | rfl | rfl | rfl | rfl | rfl | rfl | rfl | rfl; exact .inr ⟨by simp, by simp only; omega⟩; exact .inr ⟨by simp, by simp only; omega⟩; exact .inr ⟨by simp, by simp only; omega⟩; exact .inr ⟨by simp, by simp only; omega⟩; exact .inr ⟨by simp, by simp only; omega⟩; exact .inr ⟨by simp, by simp only; omega⟩; exact .inr ⟨by simp, by simp only; omega⟩; exact .inr ⟨by simp, by simp only; omega⟩; exact .inl rfl)) ?_
    refine wpU_pY (i := 12) (v := .int .i64 ee) rfl rfl (by kernel_rfl) (by kernel_rfl) rfl (fun _ => by kernel_rfl) (by simp only [List.setIfInBounds_toArray, List.set_cons_succ, List.set_cons_zero] <;> rfl) ?_
    refine wpU_done (by kernel_rfl) (fun W4 hW4 => ?_) _
    go_wp2_with fail
    exact bodyPost_ret (res_cell_tmp rfl rfl (hW4.2 _ (.tail _ (.tail _ (.tail _ (.tail _ (.tail _ (.tail _ (.tail _ (.tail _ (.head _)))))))))) Tryd.underlying27 rfl (by rw [size27, frcC_size])) rfl ⟨by rw [HPV.out]; rfl, hW4.1⟩
end Go.Proofs.YtalmflgkbmnghaaDoor
namespace Go.Proofs.YtalmflgkbmnghaaDoor
open Go.RowKit Tf

set_option maxHeartbeats 400000 in
theorem magnitude_any (n : Int) (h1 : -9223372036854775808 ≤ n) (h2 : n ≤ 9223372036854775807) (w : World) :
    Calls Tryd.prog 20 #[.int .i64 n] w fun e w' => e = .returned (.int .u64 (n.natAbs : Int)) ∧ w = w' := by
  go_enter Tryd.func20, Tryd.ntmps20
  by_cases h : n < 0
  all_goals
    go_wp2
    go_ret
    refine ⟨ret_int ?_, rfl⟩
    first | omega | (simp only [wrap64, IntKind.wrap_u64]; omega)
end Go.Proofs.YtalmflgkbmnghaaDoor
namespace Go.Proofs.YtalmflgkbmnghaaDoor
open Go.RowKit Tf
theorem run_build27 (s : Bool) (n d : Nat) (w : World) : (Instr.build 27 #[(0, .bool s), (1, .agg (fa 8 (dg n))), (2, .agg (fa 8 (dg d)))]).run Tryd.prog w = .ok (.agg (frcC s n d)) w := by kernel_rfl
theorem run_build27_one (s : Bool) (n : Nat) (w : World) : (Instr.build 27 #[(0, .bool s), (1, .agg (fa 8 (dg n))), (2, .agg #[.int .u32 1, .int .u32 0, .int .u32 0, .int .u32 0, .int .u32 0, .int .u32 0, .int .u32 0, .int .u32 0])]).run Tryd.prog w = .ok (.agg (frcC s n 1)) w := by
  rw [← fa_one8]; exact run_build27 s n 1 w

theorem wpList_bf {ops : Array Oper} {rest : List Oper} {o : Oper} {a : Act} {w : World} {Q : Exit → Act → World → Prop} (hgd : o.guard = none) {x y z : Operand} {s : Bool} {n d : Nat} (ho : o.op = .build 27 #[(0, x), (1, y), (2, z)])
    (hx : a.eval x = .bool s) (hy : a.eval y = .agg (fa 8 (dg n))) (hz : a.eval z = .agg (fa 8 (dg d)))
    (h : wpList Tryd.prog ops Q rest (a.put o.dst (.agg (frcC s n d))) w) : wpList Tryd.prog ops Q (o :: rest) a w :=
  wpList_plain hgd fun _ hK => by
    unfold Oper.wp execOp
    simp only [ho]
    have hm : (#[((0 : Nat), x), (1, y), (2, z)].map fun (i, x) => (i, a.eval x)) = #[(0, .bool s), (1, .agg (fa 8 (dg n))), (2, .agg (fa 8 (dg d)))] := by
      simp [hx, hy, hz]
    rw [Sem.run_bind]
    have hr := run_build27 s n d w
    rw [← hm] at hr
    rw [hr]
    exact hK _ _ h
set_option maxRecDepth 100000 in
set_option maxHeartbeats 1000000 in
theorem of_any (n : Int) (h1 : -9223372036854775808 ≤ n) (h2 : n ≤ 9223372036854775807) (w : World) :
    Calls Tryd.prog 9 #[.int .i64 n] w fun e w' => e = .returned (frc (decide (n < 0)) n.natAbs 1) ∧ Below w.heap.size w w' := by
  have HM := Lib.hid (fun W => magnitude_any n h1 h2 W)
  have h3 : n.natAbs < 18446744073709551616 := by omega
  clear h1 h2
  generalize n.natAbs = m at *
  have H3 := Lib.hid h3
  clear h3
  unfold frc
  go_enter Tryd.func9, Tryd.ntmps9
  go_upto_region 1 with (fail)
  have hK := KS.one w (.cells (frcC false 0 0) 27)
  obtain ⟨W, hW⟩ : ∃ W, W = w.alloc (.cells (frcC false 0 0) 27) := ⟨_, rfl⟩
  rw [← hW] at hK
  rw [frc_zero] at hW
  rw [← hW]
  clear hW
  have HK := Lib.hid hK
  clear hK
  go_wp2_with (first
    | (go_at_call 20; refine (HM.out _).mono ?_; rintro e w1 ⟨rfl, rfl⟩)
    | (go_at_call 22; refine (fromSmall_any m H3.out _).mono ?_; rintro e w1 ⟨rfl, hb1⟩; have HK2 := Lib.hid (HK.out.below hb1); clear hb1; unfold num)
    | (refine wpList_bf (s := decide (n < 0)) (n := m) (d := 1) rfl rfl rfl rfl (by rw [fa_one8]; rfl) ?_)
    | (refine wpList_stf (neg := decide (n < 0)) (n := m) (d := 1) (neg' := false) (n' := 0) (d' := 0) rfl rfl rfl rfl (HK2.out.2 _ (.head _)) size27 ?_))
  exact bodyPost_ret (res_cell rfl rfl (setRow_heap _ _ _ _ _ _ (HK2.out.2 _ (.head _))) Tryd.underlying27 rfl (by rw [size27, frcC_size])) rfl ⟨rfl, below_setRow HK2.out.1 (by omega) _⟩
end Go.Proofs.YtalmflgkbmnghaaDoor
namespace Go.Proofs.YtalmflgkbmnghaaDoor
open Go.RowKit Tf
variable [ShLZ]
theorem frc_nil_build (w : World) : (Instr.build 27 #[]).run Tryd.prog w = .ok (.agg (frcC false 0 0)) w := by rw [frc_zero]; kernel_rfl

set_option maxRecDepth 100000 in
set_option maxHeartbeats 1000000 in
theorem ratio_any (a b : Int) (a1 : -9223372036854775808 ≤ a) (a2 : a ≤ 9223372036854775807) (b1 : -9223372036854775808 ≤ b) (b2 : b ≤ 9223372036854775807) (hb : b ≠ 0) (w : World) :
    Calls Tryd.prog 6 #[.int .i64 a, .int .i64 b] w fun e w' => e = .returned (.tuple #[frc (decide (a ≠ 0) && (decide (a < 0) != decide (b < 0))) (a.natAbs / Nat.gcd a.natAbs b.natAbs) (b.natAbs / Nat.gcd a.natAbs b.natAbs), .int .i64 0]) ∧ Below w.heap.size w w' := by
  have HA := Lib.hid (fun W => magnitude_any a a1 a2 W)
  have HB := Lib.hid (fun W => magnitude_any b b1 b2 W)
  have x1 : a.natAbs < 18446744073709551616 := by omega
  have y1 : b.natAbs < 18446744073709551616 := by omega
  have y0 : 0 < b.natAbs := by omega
  clear a1 a2 b1 b2
  generalize a.natAbs = x at *
  generalize b.natAbs = y at *
  have HY := Lib.hid y0
  have HX := Lib.hid (⟨x1, y1, Nat.gcd_pos_of_pos_right x y0⟩ : x < 18446744073709551616 ∧ y < 18446744073709551616 ∧ 0 < Nat.gcd x y)
  clear x1 y1 y0
  unfold frc
  have hbz : (b == 0) = false := by simp [hb]
  go_enter Tryd.func6, Tryd.ntmps6
  go_upto_region 1 with (fail)
  have hK := KS.one w (.cells (frcC false 0 0) 27)
  obtain ⟨W, hW⟩ : ∃ W, W = w.alloc (.cells (frcC false 0 0) 27) := ⟨_, rfl⟩
  rw [← hW] at hK
  rw [frc_zero] at hW
  rw [← hW]
  clear hW
  have HK := Lib.hid hK
  clear hK
  by_cases ha : a = 0
  · subst ha
    go_wp2_with (first
      | (go_at_call 20; with_reducible refine (HA.out _).mono ?_; rintro e w1 ⟨rfl, rfl⟩)
      | (go_at_call 20; with_reducible refine (HB.out _).mono ?_; rintro e w1 ⟨rfl, rfl⟩)
      | (go_at_call 21; refine (gcdSmall_any x y HX.out.1 HX.out.2.1 _).mono ?_; rintro e w2 ⟨rfl, hb1⟩; have HK2 := Lib.hid (HK.out.below hb1); clear hb1))
    have X1 := HX.out.1
    have Y1 := HX.out.2.1
    have G0 := HX.out.2.2
    have G1 : Nat.gcd x y < 18446744073709551616 := Nat.lt_of_le_of_lt (Nat.gcd_le_right x HY.out) Y1
    refine wp_region_U (W0 := w) [(w.heap.size, .cells (frcC (false) (0) (0)) 27 (0, 0))] (by kernel_rfl) (HK2.out) ?_
    refine wpU_pY (i := 0) (v := .bool (false)) rfl rfl (by kernel_rfl) (by kernel_rfl) rfl (fun _ => by kernel_rfl) (by simp only [List.setIfInBounds_toArray, List.set_cons_succ, List.set_cons_zero] <;> rfl) ?_
    refine wpU_pY (i := 1) (v := .int .u64 (x : Int)) rfl rfl (by kernel_rfl) (by kernel_rfl) rfl (fun _ => by kernel_rfl) (by simp only [List.setIfInBounds_toArray, List.set_cons_succ, List.set_cons_zero] <;> rfl) ?_
    refine wpU_pY (i := 2) (v := .int .u64 ((Nat.gcd x y : Nat) : Int)) rfl rfl (by kernel_rfl) (by kernel_rfl) rfl (fun _ => by kernel_rfl) (by simp only [List.setIfInBounds_toArray, List.set_cons_succ, List.set_cons_zero] <;> rfl) ?_
    refine wpU_pY (i := 3) (v := .int .u64 ((x / Nat.gcd x y : Nat) : Int)) rfl rfl (by kernel_rfl) (by kernel_rfl) rfl (run_binY rfl (vx := .int .u64 (x : Int)) (vy := .int .u64 ((Nat.gcd x y : Nat) : Int)) (by kernel_rfl) (by kernel_rfl) fun w => run_quo64 w G1 G0 X1) (by simp only [List.setIfInBounds_toArray, List.set_cons_succ, List.set_cons_zero] <;> rfl) ?_
    refine wpU_vY (i := 4) (v := num (x / Nat.gcd x y)) rfl rfl (by kernel_rfl) (by kernel_rfl) rfl (yb_call (f := 22) (args := #[.int .u64 ((x / Nat.gcd x y : Nat) : Int)]) (fun _ => by kernel_rfl) fun W hW => fromSmall_any (x / Nat.gcd x y) (Nat.lt_of_le_of_lt (Nat.div_le_self _ _) X1) W) (by simp only [List.setIfInBounds_toArray, List.set_cons_succ, List.set_cons_zero] <;> rfl) ?_
    refine wpU_pY (i := 5) (v := .int .u64 (y : Int)) rfl rfl (by kernel_rfl) (by kernel_rfl) rfl (fun _ => by kernel_rfl) (by simp only [List.setIfInBounds_toArray, List.set_cons_succ, List.set_cons_zero] <;> rfl) ?_
    refine wpU_pY (i := 6) (v := .int .u64 ((Nat.gcd x y : Nat) : Int)) rfl rfl (by kernel_rfl) (by kernel_rfl) rfl (fun _ => by kernel_rfl) (by simp only [List.setIfInBounds_toArray, List.set_cons_succ, List.set_cons_zero] <;> rfl) ?_
    refine wpU_pY (i := 7) (v := .int .u64 ((y / Nat.gcd x y : Nat) : Int)) rfl rfl (by kernel_rfl) (by kernel_rfl) rfl (run_binY rfl (vx := .int .u64 (y : Int)) (vy := .int .u64 ((Nat.gcd x y : Nat) : Int)) (by kernel_rfl) (by kernel_rfl) fun w => run_quo64 w G1 G0 Y1) (by simp only [List.setIfInBounds_toArray, List.set_cons_succ, List.set_cons_zero] <;> rfl) ?_
    refine wpU_vY (i := 8) (v := num (y / Nat.gcd x y)) rfl rfl (by kernel_rfl) (by kernel_rfl) rfl (yb_call (f := 22) (args := #[.int .u64 ((y / Nat.gcd x y : Nat) : Int)]) (fun _ => by kernel_rfl) fun W hW => fromSmall_any (y / Nat.gcd x y) (Nat.lt_of_le_of_lt (Nat.div_le_self _ _) Y1) W) (by simp only [List.setIfInBounds_toArray, List.set_cons_succ, List.set_cons_zero] <;> rfl) ?_
    refine wpU_pY (i := 9) (v := frc (false) (x / Nat.gcd x y) (y / Nat.gcd x y)) rfl rfl (by kernel_rfl) (by kernel_rfl) rfl (fun _ => by kernel_rfl) (by simp only [List.setIfInBounds_toArray, List.set_cons_succ, List.set_cons_zero] <;> rfl) ?_
    refine wpU_sY [(w.heap.size, .cells (frcC (false) (x / Nat.gcd x y) (y / Nat.gcd x y)) 27 (0, 0))] (i := 10) rfl (by kernel_rfl) rfl rfl rfl
      (st_f (neg := false) (n := x / Nat.gcd x y) (d := y / Nat.gcd x y) rfl (by kernel_rfl) (by kernel_rfl) (.head _) (by omega) size27 (by intro p hp; simp only [List.mem_cons, List.not_mem_nil, or_false] at hp; rcases hp with rfl; exact .inl rfl)) ?_
    refine wpU_pY (i := 11) (v := .int .i64 0) rfl rfl (by kernel_rfl) (by kernel_rfl) rfl (fun _ => by kernel_rfl) (by simp only [List.setIfInBounds_toArray, List.set_cons_succ, List.set_cons_zero] <;> rfl) ?_
    refine wpU_done (by kernel_rfl) (fun W4 hW4 => ?_) _
    go_wp2_with fail
    refine bodyPost_ret (res_cell_tmp rfl rfl (hW4.2 _ (.head _)) Tryd.underlying27 rfl (by rw [size27, frcC_size])) rfl ⟨?_, hW4.1⟩
    simp [frc]
  · have hab : (a != 0) = true := by simp [ha]
    go_wp2_with (first
      | (go_at_call 20; with_reducible refine (HA.out _).mono ?_; rintro e w1 ⟨rfl, rfl⟩)
      | (go_at_call 20; with_reducible refine (HB.out _).mono ?_; rintro e w1 ⟨rfl, rfl⟩)
      | (go_at_call 21; refine (gcdSmall_any x y HX.out.1 HX.out.2.1 _).mono ?_; rintro e w2 ⟨rfl, hb1⟩; have HK2 := Lib.hid (HK.out.below hb1); clear hb1))
    have X1 := HX.out.1
    have Y1 := HX.out.2.1
    have G0 := HX.out.2.2
    have G1 : Nat.gcd x y < 18446744073709551616 := Nat.lt_of_le_of_lt (Nat.gcd_le_right x HY.out) Y1
    refine wp_region_U (W0 := w) [(w.heap.size, .cells (frcC (false) (0) (0)) 27 (0, 0))] (by kernel_rfl) (HK2.out) ?_
    refine wpU_pY (i := 0) (v := .bool (decide (a < 0) != decide (b < 0))) rfl rfl (by kernel_rfl) (by kernel_rfl) rfl (fun _ => by kernel_rfl) (by simp only [List.setIfInBounds_toArray, List.set_cons_succ, List.set_cons_zero] <;> rfl) ?_
    refine wpU_pY (i := 1) (v := .int .u64 (x : Int)) rfl rfl (by kernel_rfl) (by kernel_rfl) rfl (fun _ => by kernel_rfl) (by simp only [List.setIfInBounds_toArray, List.set_cons_succ, List.set_cons_zero] <;> rfl) ?_
    refine wpU_pY (i := 2) (v := .int .u64 ((Nat.gcd x y : Nat) : Int)) rfl rfl (by kernel_rfl) (by kernel_rfl) rfl (fun _ => by kernel_rfl) (by simp only [List.setIfInBounds_toArray, List.set_cons_succ, List.set_cons_zero] <;> rfl) ?_
    refine wpU_pY (i := 3) (v := .int .u64 ((x / Nat.gcd x y : Nat) : Int)) rfl rfl (by kernel_rfl) (by kernel_rfl) rfl (run_binY rfl (vx := .int .u64 (x : Int)) (vy := .int .u64 ((Nat.gcd x y : Nat) : Int)) (by kernel_rfl) (by kernel_rfl) fun w => run_quo64 w G1 G0 X1) (by simp only [List.setIfInBounds_toArray, List.set_cons_succ, List.set_cons_zero] <;> rfl) ?_
    refine wpU_vY (i := 4) (v := num (x / Nat.gcd x y)) rfl rfl (by kernel_rfl) (by kernel_rfl) rfl (yb_call (f := 22) (args := #[.int .u64 ((x / Nat.gcd x y : Nat) : Int)]) (fun _ => by kernel_rfl) fun W hW => fromSmall_any (x / Nat.gcd x y) (Nat.lt_of_le_of_lt (Nat.div_le_self _ _) X1) W) (by simp only [List.setIfInBounds_toArray, List.set_cons_succ, List.set_cons_zero] <;> rfl) ?_
    refine wpU_pY (i := 5) (v := .int .u64 (y : Int)) rfl rfl (by kernel_rfl) (by kernel_rfl) rfl (fun _ => by kernel_rfl) (by simp only [List.setIfInBounds_toArray, List.set_cons_succ, List.set_cons_zero] <;> rfl) ?_
    refine wpU_pY (i := 6) (v := .int .u64 ((Nat.gcd x y : Nat) : Int)) rfl rfl (by kernel_rfl) (by kernel_rfl) rfl (fun _ => by kernel_rfl) (by simp only [List.setIfInBounds_toArray, List.set_cons_succ, List.set_cons_zero] <;> rfl) ?_
    refine wpU_pY (i := 7) (v := .int .u64 ((y / Nat.gcd x y : Nat) : Int)) rfl rfl (by kernel_rfl) (by kernel_rfl) rfl (run_binY rfl (vx := .int .u64 (y : Int)) (vy := .int .u64 ((Nat.gcd x y : Nat) : Int)) (by kernel_rfl) (by kernel_rfl) fun w => run_quo64 w G1 G0 Y1) (by simp only [List.setIfInBounds_toArray, List.set_cons_succ, List.set_cons_zero] <;> rfl) ?_
    refine wpU_vY (i := 8) (v := num (y / Nat.gcd x y)) rfl rfl (by kernel_rfl) (by kernel_rfl) rfl (yb_call (f := 22) (args := #[.int .u64 ((y / Nat.gcd x y : Nat) : Int)]) (fun _ => by kernel_rfl) fun W hW => fromSmall_any (y / Nat.gcd x y) (Nat.lt_of_le_of_lt (Nat.div_le_self _ _) Y1) W) (by simp only [List.setIfInBounds_toArray, List.set_cons_succ, List.set_cons_zero] <;> rfl) ?_
    refine wpU_pY (i := 9) (v := frc (decide (a < 0) != decide (b < 0)) (x / Nat.gcd x y) (y / Nat.gcd x y)) rfl rfl (by kernel_rfl) (by kernel_rfl) rfl (fun _ => by kernel_rfl) (by simp only [List.setIfInBounds_toArray, List.set_cons_succ, List.set_cons_zero] <;> rfl) ?_
    refine wpU_sY [(w.heap.size, .cells (frcC (decide (a < 0) != decide (b < 0)) (x / Nat.gcd x y) (y / Nat.gcd x y)) 27 (0, 0))] (i := 10) rfl (by kernel_rfl) rfl rfl rfl
      (st_f (neg := decide (a < 0) != decide (b < 0)) (n := x / Nat.gcd x y) (d := y / Nat.gcd x y) rfl (by kernel_rfl) (by kernel_rfl) (.head _) (by omega) size27 (by intro p hp; simp only [List.mem_cons, List.not_mem_nil, or_false] at hp; rcases hp with rfl; exact .inl rfl)) ?_
    refine wpU_pY (i := 11) (v := .int .i64 0) rfl rfl (by kernel_rfl) (by kernel_rfl) rfl (fun _ => by kernel_rfl) (by simp only [List.setIfInBounds_toArray, List.set_cons_succ, List.set_cons_zero] <;> rfl) ?_
    refine wpU_done (by kernel_rfl) (fun W4 hW4 => ?_) _
    go_wp2_with fail
    refine bodyPost_ret (res_cell_tmp rfl rfl (hW4.2 _ (.head _)) Tryd.underlying27 rfl (by rw [size27, frcC_size])) rfl ⟨?_, hW4.1⟩
    simp [frc, ha]

set_option maxRecDepth 100000 in
set_option maxHeartbeats 400000 in
theorem ratio_zero (a : Int) (w : World) :
    Calls Tryd.prog 6 #[.int .i64 a, .int .i64 0] w fun e w' => e = .returned (.tuple #[frc false 0 0, .int .i64 2]) ∧ Below w.heap.size w w' := by
  unfold frc
  go_enter Tryd.func6, Tryd.ntmps6
  go_upto_region 1 with (fail)
  have hK := KS.one w (.cells (frcC false 0 0) 27)
  obtain ⟨W, hW⟩ : ∃ W, W = w.alloc (.cells (frcC false 0 0) 27) := ⟨_, rfl⟩
  rw [← hW] at hK
  rw [frc_zero] at hW
  rw [← hW]
  clear hW
  have HK := Lib.hid hK
  clear hK
  go_wp2_with (first
    | (refine wpList_stf (neg := false) (n := 0) (d := 0) (neg' := false) (n' := 0) (d' := 0) rfl rfl rfl (by rw [frc_zero]; rfl) (HK.out.2 _ (.head _)) size27 ?_))
  exact bodyPost_ret (res_cell_tmp rfl rfl (setRow_heap _ _ _ _ _ _ (HK.out.2 _ (.head _))) Tryd.underlying27 rfl (by rw [size27, frcC_size])) rfl ⟨rfl, below_setRow HK.out.1 (by omega) _⟩
end Go.Proofs.YtalmflgkbmnghaaDoor
namespace Go.Proofs.YtalmflgkbmnghaaDoor
open Go.RowKit Tf
variable [ShLZ]
def addV (s1 : Bool) (n1 d1 : Nat) (s2 : Bool) (n2 d2 : Nat) : Value :=
  packV (psS s1 s2 (n1 * (d2 / Nat.gcd d1 d2)) (n2 * (d1 / Nat.gcd d1 d2)))
    (psN s1 s2 (n1 * (d2 / Nat.gcd d1 d2)) (n2 * (d1 / Nat.gcd d1 d2)) / Nat.gcd (psN s1 s2 (n1 * (d2 / Nat.gcd d1 d2)) (n2 * (d1 / Nat.gcd d1 d2))) (Nat.gcd d1 d2))
    (d1 / Nat.gcd d1 d2 * (d2 / Nat.gcd (psN s1 s2 (n1 * (d2 / Nat.gcd d1 d2)) (n2 * (d1 / Nat.gcd d1 d2))) (Nat.gcd d1 d2)))
theorem psN_le (x y : Bool) (a b : Nat) : psN x y a b ≤ a + b := by
  unfold psN; split
  · exact Nat.le_refl _
  · split <;> omega
theorem two_R16 {u v : Nat} (hu : u < R 16) (hv : v < R 16) : u + v < R 17 := by rw [R_succ]; omega
theorem mul_lt16 {a b : Nat} (ha : a < R 8) (hb : b < R 8) : a * b < R 16 := by
  have h : a * b < R (8 + 8) := by rw [R_add]; exact Nat.mul_lt_mul'' ha hb
  exact h
theorem add_any (s1 s2 : Bool) (n1 d1 n2 d2 : Nat) (hn1 : n1 < R 8) (hd1 : d1 < R 8) (hn2 : n2 < R 8) (hd2 : d2 < R 8) (h1 : 0 < d1) (h2 : 0 < d2) (w : World) :
    Calls Tryd.prog 26 #[frc s1 n1 d1, frc s2 n2 d2] w fun e w' => e = .returned (addV s1 n1 d1 s2 n2 d2) ∧ Below w.heap.size w w' := by
  unfold addV
  have hc0 : 0 < Nat.gcd d1 d2 := Nat.gcd_pos_of_pos_right d1 h2
  have hc : Nat.gcd d1 d2 < R 8 := Nat.lt_of_le_of_lt (Nat.gcd_le_right d1 h2) hd2
  have hq : d2 / Nat.gcd d1 d2 < R 8 := Nat.lt_of_le_of_lt (Nat.div_le_self _ _) hd2
  have ho : d1 / Nat.gcd d1 d2 < R 8 := Nat.lt_of_le_of_lt (Nat.div_le_self _ _) hd1
  have HG := fun W => gcd_any d1 d2 hd1 hd2 W
  have HO := fun W => quotient_any d1 (Nat.gcd d1 d2) hd1 hc hc0 W
  have HQ := fun W => quotient_any d2 (Nat.gcd d1 d2) hd2 hc hc0 W
  generalize Nat.gcd d1 d2 = c at *
  generalize hqd : d2 / c = q2 at *
  generalize hod : d1 / c = ov at *
  have hu : n1 * q2 < R 16 := mul_lt16 hn1 hq
  have hv : n2 * ov < R 16 := mul_lt16 hn2 ho
  have HU := fun W => times_any n1 q2 hn1 hq W
  have HV := fun W => times_any n2 ov hn2 ho W
  generalize n1 * q2 = u at *
  generalize n2 * ov = v at *
  have huv := two_R16 hu hv
  have hN : psN s1 s2 u v < R 17 := Nat.lt_of_le_of_lt (psN_le s1 s2 u v) huv
  have HP := fun W => plusSigned_any s1 s2 u v (lt_R_of_le huv (by omega)) W
  generalize psN s1 s2 u v = N at *
  generalize psS s1 s2 u v = S at *
  have hl0 : 0 < Nat.gcd N c := Nat.gcd_pos_of_pos_right N hc0
  have hl : Nat.gcd N c < R 8 := Nat.lt_of_le_of_lt (Nat.gcd_le_right N hc0) hc
  have hlg : Nat.gcd (N % c) c = Nat.gcd N c := by rw [Nat.gcd_comm N c, Nat.gcd_rec c N]
  have HL := fun W => gcd_any (N % c) c (Nat.lt_trans (Nat.mod_lt N hc0) hc) hc W
  rw [hlg] at HL
  have hone : c = 1 → Nat.gcd N c = 1 := fun h => by rw [h, Nat.gcd_one_right]
  clear hlg
  generalize Nat.gcd N c = l at *
  have hdl : d2 / l < R 8 := Nat.lt_of_le_of_lt (Nat.div_le_self _ _) hd2
  have hNl : N / l < R 17 := Nat.lt_of_le_of_lt (Nat.div_le_self _ _) hN
  obtain ⟨s', n', d', ee, hpv⟩ := packV_shape S (N / l) (ov * (d2 / l))
  exact add_walk s1 s2 S n1 d1 n2 d2 c ov q2 u v N l s' n' d' ee (packV S (N / l) (ov * (d2 / l))) hc
    (fun h => by rw [hone h, Nat.div_one, Nat.div_one, ← hod, h, Nat.div_one]) (fun _ => rfl) hpv HG HO HQ HU HV HP (fun W => times_any d1 d2 hd1 hd2 W)
    (fun W => divide_any N c hN hc hc0 W) HL (fun W => divide_any N l hN hl hl0 W) (fun W => quotient_any d2 l hd2 hl hl0 W) (fun W => times_any ov (d2 / l) ho hdl W)
    (fun W => pack_any S N (d1 * d2) (lt_R_of_le hN (by omega)) (lt_R_of_le (mul_lt16 hd1 hd2) (by omega)) W)
    (fun W => pack_any S (N / l) (ov * (d2 / l)) (lt_R_of_le hNl (by omega)) (lt_R_of_le (mul_lt16 ho hdl) (by omega)) W) w
end Go.Proofs.YtalmflgkbmnghaaDoor
namespace Go.Proofs.YtalmflgkbmnghaaDoor
open Go.RowKit Tf
variable [ShLZ]
def argV : Value := .tuple #[.agg (frcC false 0 0), .int .i64 2]
theorem right_den {s : Bool} {n d : Nat} (h : rightB s n d = true) : 0 < d := by
  unfold rightB at h
  split at h
  · simp at h; omega
  · simp at h; omega

set_option maxRecDepth 100000 in
set_option maxHeartbeats 2000000 in
theorem Add_any (s1 s2 : Bool) (n1 d1 n2 d2 : Nat) (hn1 : n1 < R 8) (hd1 : d1 < R 8) (hn2 : n2 < R 8) (hd2 : d2 < R 8) (w : World) :
    Calls Tryd.prog 12 #[frc s1 n1 d1, frc s2 n2 d2] w fun e w' => e = .returned (if (rightB s1 n1 d1 && rightB s2 n2 d2) = true then addV s1 n1 d1 s2 n2 d2 else argV) ∧ Below w.heap.size w w' := by
  have HR1 := Lib.hid (fun W => right_any s1 n1 d1 hn1 hd1 W)
  have HR2 := Lib.hid (fun W => right_any s2 n2 d2 hn2 hd2 W)
  unfold Hid frc at HR1 HR2
  have HC : rightB s1 n1 d1 = true → rightB s2 n2 d2 = true → Hid (∀ W, Calls Tryd.prog 26 #[.agg (frcC s1 n1 d1), .agg (frcC s2 n2 d2)] W fun e w' => e = .returned (addV s1 n1 d1 s2 n2 d2) ∧ Below W.heap.size W w') := fun h1 h2 W =>
    add_any s1 s2 n1 d1 n2 d2 hn1 hd1 hn2 hd2 (right_den h1) (right_den h2) W
  obtain ⟨s', n', d', ee, hp⟩ : ∃ s' n' d' e, addV s1 n1 d1 s2 n2 d2 = .tuple #[.agg (frcC s' n' d'), .int .i64 e] := packV_shape _ _ _
  have HP := Lib.hid hp
  clear hp hn1 hd1 hn2 hd2
  unfold frc
  generalize addV s1 n1 d1 s2 n2 d2 = CV at *
  generalize rightB s1 n1 d1 = r1 at *
  generalize rightB s2 n2 d2 = r2 at *
  have HR1 := Lib.hid HR1
  have HR2 := Lib.hid HR2
  go_enter Tryd.func12, Tryd.ntmps12
  go_upto_region 1 with (fail)
  have hK := KS.three w (.cells (frcC s1 n1 d1) 27) (.cells (frcC s2 n2 d2) 27) (.cells (frcC false 0 0) 27)
  obtain ⟨W, hW⟩ : ∃ W, W = ((w.alloc (.cells (frcC s1 n1 d1) 27)).alloc (.cells (frcC s2 n2 d2) 27)).alloc (.cells (frcC false 0 0) 27) := ⟨_, rfl⟩
  rw [← hW] at hK
  rw [frc_zero] at hW
  rw [← hW]
  clear hW
  have HK := Lib.hid hK
  clear hK
  cases r1
  · have HV := Lib.hid (show (if (false && r2) = true then CV else argV) = argV from rfl)
    clear HC
    go_wp2_with (first
      | (refine wpList_ldf rfl rfl rfl (HK.out.2 _ (.head _)) Tryd.underlying27 rfl size27 ?_)
      | (refine wpList_guard rfl ?_; refine wpList_ldf rfl rfl rfl (HK1.out.2 _ (.tail _ (.head _))) Tryd.underlying27 rfl size27 ?_)
      | (go_at_call 25; with_reducible refine (HR1.out _).mono ?_; rintro e w1 ⟨rfl, hb1⟩; have HK1 := Lib.hid (HK.out.below hb1); clear hb1)
      | (go_at_call 25; with_reducible refine (HR2.out _).mono ?_; rintro e w2 ⟨rfl, hb1⟩; have HK2 := Lib.hid (HK1.out.below hb1); clear hb1)
      | (refine wpList_stf (neg := false) (n := 0) (d := 0) (neg' := false) (n' := 0) (d' := 0) rfl rfl rfl (by rw [frc_zero]; rfl) (HK1.out.2 _ (.tail _ (.tail _ (.head _)))) size27 ?_))
    exact bodyPost_ret (res_cell_tmp rfl rfl (setRow_heap _ _ _ _ _ _ (HK1.out.2 _ (.tail _ (.tail _ (.head _))))) Tryd.underlying27 rfl (by rw [size27, frcC_size])) rfl ⟨rfl, below_setRow HK1.out.1 (by omega) _⟩
  · cases r2
    · have HV := Lib.hid (show (if (true && false) = true then CV else argV) = argV from rfl)
      clear HC
      go_wp2_with (first
        | (refine wpList_ldf rfl rfl rfl (HK.out.2 _ (.head _)) Tryd.underlying27 rfl size27 ?_)
        | (refine wpList_guard rfl ?_; refine wpList_ldf rfl rfl rfl (HK1.out.2 _ (.tail _ (.head _))) Tryd.underlying27 rfl size27 ?_)
        | (go_at_call 25; with_reducible refine (HR1.out _).mono ?_; rintro e w1 ⟨rfl, hb1⟩; have HK1 := Lib.hid (HK.out.below hb1); clear hb1)
        | (go_at_call 25; with_reducible refine (HR2.out _).mono ?_; rintro e w2 ⟨rfl, hb1⟩; have HK2 := Lib.hid (HK1.out.below hb1); clear hb1)
        | (refine wpList_stf (neg := false) (n := 0) (d := 0) (neg' := false) (n' := 0) (d' := 0) rfl rfl rfl (by rw [frc_zero]; rfl) (HK2.out.2 _ (.tail _ (.tail _ (.head _)))) size27 ?_))
      exact bodyPost_ret (res_cell_tmp rfl rfl (setRow_heap _ _ _ _ _ _ (HK2.out.2 _ (.tail _ (.tail _ (.head _))))) Tryd.underlying27 rfl (by rw [size27, frcC_size])) rfl ⟨rfl, below_setRow HK2.out.1 (by omega) _⟩
    skip
    have HC2 := HC rfl rfl
    clear HC
    go_wp2_with (first
      | (refine wpList_ldf rfl rfl rfl (HK.out.2 _ (.head _)) Tryd.underlying27 rfl size27 ?_)
      | (refine wpList_guard rfl ?_; refine wpList_ldf rfl rfl rfl (HK1.out.2 _ (.tail _ (.head _))) Tryd.underlying27 rfl size27 ?_)
      | (go_at_call 25; with_reducible refine (HR1.out _).mono ?_; rintro e w1 ⟨rfl, hb1⟩; have HK1 := Lib.hid (HK.out.below hb1); clear hb1)
      | (go_at_call 25; with_reducible refine (HR2.out _).mono ?_; rintro e w2 ⟨rfl, hb1⟩; have HK2 := Lib.hid (HK1.out.below hb1); clear hb1)
      | (refine wpList_ldf rfl rfl rfl (HK2.out.2 _ (.head _)) Tryd.underlying27 rfl size27 ?_)
      | (refine wpList_ldf rfl rfl rfl (HK2.out.2 _ (.tail _ (.head _))) Tryd.underlying27 rfl size27 ?_)
      | (go_at_call 26; refine (HC2.out _).mono ?_; rintro e w3 ⟨rfl, hb1⟩; have HK3 := Lib.hid (HK2.out.below hb1); clear hb1; rw [HP.out])
      | (refine wpList_stf (neg := s') (n := n') (d := d') (neg' := false) (n' := 0) (d' := 0) rfl rfl rfl rfl (HK3.out.2 _ (.tail _ (.tail _ (.head _)))) size27 ?_))
    exact bodyPost_ret (res_cell_tmp rfl rfl (setRow_heap _ _ _ _ _ _ (HK3.out.2 _ (.tail _ (.tail _ (.head _))))) Tryd.underlying27 rfl (by rw [size27, frcC_size])) rfl ⟨by show _ = Ending.returned CV; rw [HP.out]; rfl, below_setRow HK3.out.1 (by omega) _⟩

def mulV (s1 : Bool) (n1 d1 : Nat) (s2 : Bool) (n2 d2 : Nat) : Value := packV (s1 != s2) (n1 / Nat.gcd n1 d2 * (n2 / Nat.gcd n2 d1)) (d1 / Nat.gcd n2 d1 * (d2 / Nat.gcd n1 d2))

set_option maxRecDepth 100000 in
set_option maxHeartbeats 2000000 in
theorem Mul_any (s1 s2 : Bool) (n1 d1 n2 d2 : Nat) (hn1 : n1 < R 8) (hd1 : d1 < R 8) (hn2 : n2 < R 8) (hd2 : d2 < R 8) (w : World) :
    Calls Tryd.prog 14 #[frc s1 n1 d1, frc s2 n2 d2] w fun e w' => e = .returned (if (rightB s1 n1 d1 && rightB s2 n2 d2) = true then mulV s1 n1 d1 s2 n2 d2 else argV) ∧ Below w.heap.size w w' := by
  have HR1 := Lib.hid (fun W => right_any s1 n1 d1 hn1 hd1 W)
  have HR2 := Lib.hid (fun W => right_any s2 n2 d2 hn2 hd2 W)
  unfold Hid frc at HR1 HR2
  have HC : rightB s1 n1 d1 = true → rightB s2 n2 d2 = true → Hid (∀ W, Calls Tryd.prog 27 #[.agg (frcC s1 n1 d1), .agg (frcC s2 n2 d2)] W fun e w' => e = .returned (mulV s1 n1 d1 s2 n2 d2) ∧ Below W.heap.size W w') := fun h1 h2 W =>
    mul_any s1 s2 n1 d1 n2 d2 hn1 hd1 hn2 hd2 (right_den h1) (right_den h2) W
  obtain ⟨s', n', d', ee, hp⟩ : ∃ s' n' d' e, mulV s1 n1 d1 s2 n2 d2 = .tuple #[.agg (frcC s' n' d'), .int .i64 e] := packV_shape _ _ _
  have HP := Lib.hid hp
  clear hp hn1 hd1 hn2 hd2
  unfold frc
  generalize mulV s1 n1 d1 s2 n2 d2 = CV at *
  generalize rightB s1 n1 d1 = r1 at *
  generalize rightB s2 n2 d2 = r2 at *
  have HR1 := Lib.hid HR1
  have HR2 := Lib.hid HR2
  go_enter Tryd.func14, Tryd.ntmps14
  go_upto_region 1 with (fail)
  have hK := KS.three w (.cells (frcC s1 n1 d1) 27) (.cells (frcC s2 n2 d2) 27) (.cells (frcC false 0 0) 27)
  obtain ⟨W, hW⟩ : ∃ W, W = ((w.alloc (.cells (frcC s1 n1 d1) 27)).alloc (.cells (frcC s2 n2 d2) 27)).alloc (.cells (frcC false 0 0) 27) := ⟨_, rfl⟩
  rw [← hW] at hK
  rw [frc_zero] at hW
  rw [← hW]
  clear hW
  have HK := Lib.hid hK
  clear hK
  cases r1
  · have HV := Lib.hid (show (if (false && r2) = true then CV else argV) = argV from rfl)
    clear HC
    go_wp2_with (first
      | (refine wpList_ldf rfl rfl rfl (HK.out.2 _ (.head _)) Tryd.underlying27 rfl size27 ?_)
      | (refine wpList_guard rfl ?_; refine wpList_ldf rfl rfl rfl (HK1.out.2 _ (.tail _ (.head _))) Tryd.underlying27 rfl size27 ?_)
      | (go_at_call 25; with_reducible refine (HR1.out _).mono ?_; rintro e w1 ⟨rfl, hb1⟩; have HK1 := Lib.hid (HK.out.below hb1); clear hb1)
      | (go_at_call 25; with_reducible refine (HR2.out _).mono ?_; rintro e w2 ⟨rfl, hb1⟩; have HK2 := Lib.hid (HK1.out.below hb1); clear hb1)
      | (refine wpList_stf (neg := false) (n := 0) (d := 0) (neg' := false) (n' := 0) (d' := 0) rfl rfl rfl (by rw [frc_zero]; rfl) (HK1.out.2 _ (.tail _ (.tail _ (.head _)))) size27 ?_))
    exact bodyPost_ret (res_cell_tmp rfl rfl (setRow_heap _ _ _ _ _ _ (HK1.out.2 _ (.tail _ (.tail _ (.head _))))) Tryd.underlying27 rfl (by rw [size27, frcC_size])) rfl ⟨rfl, below_setRow HK1.out.1 (by omega) _⟩
  · cases r2
    · have HV := Lib.hid (show (if (true && false) = true then CV else argV) = argV from rfl)
      clear HC
      go_wp2_with (first
        | (refine wpList_ldf rfl rfl rfl (HK.out.2 _ (.head _)) Tryd.underlying27 rfl size27 ?_)
        | (refine wpList_guard rfl ?_; refine wpList_ldf rfl rfl rfl (HK1.out.2 _ (.tail _ (.head _))) Tryd.underlying27 rfl size27 ?_)
        | (go_at_call 25; with_reducible refine (HR1.out _).mono ?_; rintro e w1 ⟨rfl, hb1⟩; have HK1 := Lib.hid (HK.out.below hb1); clear hb1)
        | (go_at_call 25; with_reducible refine (HR2.out _).mono ?_; rintro e w2 ⟨rfl, hb1⟩; have HK2 := Lib.hid (HK1.out.below hb1); clear hb1)
        | (refine wpList_stf (neg := false) (n := 0) (d := 0) (neg' := false) (n' := 0) (d' := 0) rfl rfl rfl (by rw [frc_zero]; rfl) (HK2.out.2 _ (.tail _ (.tail _ (.head _)))) size27 ?_))
      exact bodyPost_ret (res_cell_tmp rfl rfl (setRow_heap _ _ _ _ _ _ (HK2.out.2 _ (.tail _ (.tail _ (.head _))))) Tryd.underlying27 rfl (by rw [size27, frcC_size])) rfl ⟨rfl, below_setRow HK2.out.1 (by omega) _⟩
    skip
    have HC2 := HC rfl rfl
    clear HC
    go_wp2_with (first
      | (refine wpList_ldf rfl rfl rfl (HK.out.2 _ (.head _)) Tryd.underlying27 rfl size27 ?_)
      | (refine wpList_guard rfl ?_; refine wpList_ldf rfl rfl rfl (HK1.out.2 _ (.tail _ (.head _))) Tryd.underlying27 rfl size27 ?_)
      | (go_at_call 25; with_reducible refine (HR1.out _).mono ?_; rintro e w1 ⟨rfl, hb1⟩; have HK1 := Lib.hid (HK.out.below hb1); clear hb1)
      | (go_at_call 25; with_reducible refine (HR2.out _).mono ?_; rintro e w2 ⟨rfl, hb1⟩; have HK2 := Lib.hid (HK1.out.below hb1); clear hb1)
      | (refine wpList_ldf rfl rfl rfl (HK2.out.2 _ (.head _)) Tryd.underlying27 rfl size27 ?_)
      | (refine wpList_ldf rfl rfl rfl (HK2.out.2 _ (.tail _ (.head _))) Tryd.underlying27 rfl size27 ?_)
      | (go_at_call 27; refine (HC2.out _).mono ?_; rintro e w3 ⟨rfl, hb1⟩; have HK3 := Lib.hid (HK2.out.below hb1); clear hb1; rw [HP.out])
      | (refine wpList_stf (neg := s') (n := n') (d := d') (neg' := false) (n' := 0) (d' := 0) rfl rfl rfl rfl (HK3.out.2 _ (.tail _ (.tail _ (.head _)))) size27 ?_))
    exact bodyPost_ret (res_cell_tmp rfl rfl (setRow_heap _ _ _ _ _ _ (HK3.out.2 _ (.tail _ (.tail _ (.head _))))) Tryd.underlying27 rfl (by rw [size27, frcC_size])) rfl ⟨by show _ = Ending.returned CV; rw [HP.out]; rfl, below_setRow HK3.out.1 (by omega) _⟩
end Go.Proofs.YtalmflgkbmnghaaDoor

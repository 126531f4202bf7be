import Derived.Test.YthpooalhibedpaaDoorG01
import Derived.Test.YthpooalhibedpaaDoorG00
import Derived.RangeFuncNested
import Derived.RangeFuncBound
import Derived.RangeFuncCalls
import Derived.RangeFuncLeaves
import Derived.Shelf.Abstract
import Derived.Shelf.RegionOpen
import Derived.OwnWalkIn
import Derived.TacticsInMore
import Derived.LoopNIn
import Derived.LoopIn
import Derived.OrdersIn
import Derived.RangeFuncFrom
import Derived.Laws.MakeOwn
/- Part of the proof: L8a, L8b, L8c, Ia, If, RF0, L8d, L8e, TE0, TN0. -/
set_option linter.unusedVariables false
set_option linter.unusedSimpArgs false
set_option linter.unusedSectionVars false
/- Slot: what the layer says, in plain lists. -/
namespace Go.Proofs.YthpooalhibedpaaDoor
open Go Go.RowKit Tw
structure Slt where
  col : Int
  tier : Int
  half : Nat
def sltC (x : Slt) : List Value := [.int .i64 x.col, .int .i64 x.tier, .int .u8 ((x.half : Nat) : Int)]
theorem sltC_len (x : Slt) : (sltC x).length = 3 := rfl
theorem sltC_one (x : Slt) : ∀ v ∈ sltC x, v.oneCell' = true := fun v hv => by
  simp only [sltC, List.mem_cons, List.not_mem_nil, or_false] at hv
  rcases hv with rfl | rfl | rfl <;> rfl
def slt0 : Slt := ⟨0, 0, 0⟩
def sltOk (x : Slt) : Prop := (-9223372036854775808 ≤ x.col ∧ x.col ≤ 9223372036854775807) ∧ (-9223372036854775808 ≤ x.tier ∧ x.tier ≤ 9223372036854775807) ∧ x.half ≤ 255
def eqS (a b : Slt) : Bool := decide (a.col = b.col) && (decide (a.tier = b.tier) && decide (a.half = b.half))
theorem eqS_iff {a b : Slt} : eqS a b = true ↔ a = b := by
  cases a; cases b
  simp [eqS]
theorem eqS_refl (a : Slt) : eqS a a = true := eqS_iff.2 rfl
theorem eqS_no {a b : Slt} (h : eqS a b = false) : a ≠ b := fun e => by rw [eqS_iff.2 e] at h; cases h
-- how two slots lie to one another
def ovl (a b : Nat) : Bool := decide (a = b) || (decide (a = 0) || decide (b = 0))
def meetS (a b : Slt) : Bool := decide (a.col = b.col) && (decide (a.tier = b.tier) && ovl a.half b.half)
def overS (a b : Slt) : Bool := decide (a.col = b.col) && (decide (b.tier < a.tier) && ovl a.half b.half)
def cmpI (a b : Int) : Int := if a < b then -1 else if b < a then 1 else 0
def orI : List Int → Int
  | [] => 0
  | n :: l => if n = 0 then orI l else n
def cmpS (a b : Slt) : Int := orI [cmpI a.col b.col, cmpI a.tier b.tier, cmpI ((a.half : Nat) : Int) ((b.half : Nat) : Int)]
def belowS (x : Slt) (l : List Slt) (h : Nat) : Bool := (fst (eqS ⟨x.col, x.tier - 1, h⟩) l).isSome
def heldS (x : Slt) (l : List Slt) : Bool := decide (x.tier ≤ 0) || (belowS x l x.half || (decide (x.half = 0) && (belowS x l 1 && belowS x l 2)))
-- the slots of a ship
def hsX (z : Nat) : List Nat := if z = 20 then [1, 2] else if z = 40 then [0] else []
def exS (cs : List Col) (c t : Int) : Bool := elB cs c && (!decide (t < 0) && decide (t < (elC col0 cs c).tiers))
def hasH (z h : Nat) : Bool := (fst (fun m => decide (h = m)) (hsX z)).isSome
def rightS (cs : List Col) (x : Slt) (z : Nat) : Bool := exS cs x.col x.tier && hasH z x.half
def tierS (z k t : Nat) : List Slt := (hsX z).map fun h => ⟨((k : Nat) : Int), ((t : Nat) : Int), h⟩
def colSl (z k : Nat) (n : Int) : List Slt := (List.range n.toNat).flatMap (tierS z k)
def slotsF (z : Nat) : Nat → List Col → List Slt
  | _, [] => []
  | k, c :: cs => colSl z k c.tiers ++ slotsF z (k + 1) cs
def slotsX (cs : List Col) (z : Nat) : List Slt := slotsF z 0 cs
def posT : List Col → Nat
  | [] => 0
  | c :: cs => c.tiers.toNat + posT cs
theorem hsX_len (z : Nat) : (hsX z).length ≤ 2 := by
  unfold hsX
  split
  · exact Nat.le_refl _
  · split
    · decide
    · exact Nat.zero_le _
theorem tierS_len (z k t : Nat) : (tierS z k t).length = (hsX z).length := by simp [tierS]
theorem colSl_len (z k : Nat) (n : Int) : (colSl z k n).length = n.toNat * (hsX z).length := by
  unfold colSl
  rw [List.length_flatMap]
  simp only [tierS_len]
  rw [List.map_const', List.sum_replicate_nat, List.length_range]
theorem slotsF_len (z : Nat) (cs : List Col) : ∀ k, (slotsF z k cs).length = posT cs * (hsX z).length := by
  induction cs with
  | nil => intro k; simp [slotsF, posT]
  | cons c cs ih => intro k; simp only [slotsF, posT, List.length_append, colSl_len, ih, Nat.add_mul]
theorem slots_len (cs : List Col) (z : Nat) : (slotsX cs z).length = posT cs * (hsX z).length := slotsF_len z cs 0
theorem posT_le {cs : List Col} {m : Nat} (h : ∀ c ∈ cs, c.tiers ≤ ((m : Nat) : Int)) : posT cs ≤ cs.length * m := by
  induction cs with
  | nil => simp [posT]
  | cons c cs ih =>
    have h1 := h c (.head _)
    have h2 := ih fun d hd => h d (.tail _ hd)
    simp only [posT, List.length_cons, Nat.add_mul, Nat.one_mul]
    omega
theorem hasH_iff {z h : Nat} : hasH z h = true ↔ h ∈ hsX z := by
  unfold hasH
  constructor
  · intro hh
    cases hf : fst (fun m => decide (h = m)) (hsX z) with
    | none => rw [hf] at hh; cases hh
    | some k =>
      obtain ⟨x, h1, h2, _⟩ := fst_some hf
      have h2 : h = x := by simpa using h2
      exact h2 ▸ List.mem_of_getElem? h1
  · intro hm
    cases hf : fst (fun m => decide (h = m)) (hsX z) with
    | none => have := fst_none hf h hm; simp at this
    | some k => rfl
theorem hsX_mem {z h : Nat} (hm : h ∈ hsX z) : (z = 20 ∧ (h = 1 ∨ h = 2)) ∨ (z = 40 ∧ h = 0) := by
  unfold hsX at hm
  split at hm
  · left; simp at hm; exact ⟨by assumption, hm⟩
  · split at hm
    · right; simp at hm; exact ⟨by assumption, hm⟩
    · cases hm
theorem belowS_iff {x : Slt} {l : List Slt} {h : Nat} : belowS x l h = true ↔ (⟨x.col, x.tier - 1, h⟩ : Slt) ∈ l := by
  unfold belowS
  constructor
  · intro hh
    cases hf : fst (eqS ⟨x.col, x.tier - 1, h⟩) l with
    | none => rw [hf] at hh; cases hh
    | some k =>
      obtain ⟨y, h1, h2, _⟩ := fst_some hf
      exact (eqS_iff.1 h2) ▸ List.mem_of_getElem? h1
  · intro hm
    cases hf : fst (eqS ⟨x.col, x.tier - 1, h⟩) l with
    | none => have := fst_none hf _ hm; rw [eqS_refl] at this; cases this
    | some k => rfl
theorem colSl_mem {z k : Nat} {n : Int} {x : Slt} : x ∈ colSl z k n ↔ x.col = ((k : Nat) : Int) ∧ 0 ≤ x.tier ∧ x.tier < n ∧ x.half ∈ hsX z := by
  unfold colSl tierS
  simp only [List.mem_flatMap, List.mem_range, List.mem_map]
  constructor
  · rintro ⟨t, ht, h, hh, rfl⟩
    exact ⟨rfl, by simp only; omega, by simp only; omega, hh⟩
  · rintro ⟨h1, h2, h3, h4⟩
    refine ⟨x.tier.toNat, by omega, x.half, h4, ?_⟩
    cases x
    simp only [Slt.mk.injEq, and_true] at h1 h2 ⊢
    exact ⟨h1.symm, Int.toNat_of_nonneg h2⟩
theorem slotsF_mem {z : Nat} {cs : List Col} : ∀ {k : Nat} {x : Slt}, x ∈ slotsF z k cs ↔ ∃ (j : Nat) (c : Col), cs[j]? = some c ∧ x.col = ((k + j : Nat) : Int) ∧ 0 ≤ x.tier ∧ x.tier < c.tiers ∧ x.half ∈ hsX z := by
  induction cs with
  | nil => intro k x; simp [slotsF]
  | cons d cs ih =>
    intro k x
    simp only [slotsF, List.mem_append, colSl_mem, ih]
    constructor
    · rintro (⟨h1, h2⟩ | ⟨j, c, h0, h1, h2⟩)
      · exact ⟨0, d, rfl, h1, h2⟩
      · exact ⟨j + 1, c, by simpa using h0, by rw [h1]; congr 1; omega, h2⟩
    · rintro ⟨j, c, h0, h1, h2⟩
      cases j with
      | zero => simp at h0; subst h0; exact .inl ⟨h1, h2⟩
      | succ j => exact .inr ⟨j, c, by simpa using h0, by rw [h1]; congr 1; omega, h2⟩
theorem exS_iff {cs : List Col} {n t : Int} : exS cs n t = true ↔ ∃ (j : Nat) (c : Col), cs[j]? = some c ∧ n = ((j : Nat) : Int) ∧ 0 ≤ t ∧ t < c.tiers := by
  unfold exS
  constructor
  · intro h
    simp only [Bool.and_eq_true, Bool.not_eq_true', decide_eq_false_iff_not, decide_eq_true_eq] at h
    obtain ⟨h1, h2, h3⟩ := el_mem (d := col0) h.1
    exact ⟨n.toNat, _, h1, by omega, by omega, h.2.2⟩
  · rintro ⟨j, c, hj, rfl, h1, h2⟩
    obtain ⟨e1, e2⟩ := el_in (d := col0) (l := cs) (n := ((j : Nat) : Int)) (by omega) (by simpa using hj)
    rw [e1, e2]
    simp; omega
theorem slots_mem {cs : List Col} {z : Nat} {x : Slt} : x ∈ slotsX cs z ↔ rightS cs x z = true := by
  unfold slotsX rightS
  rw [slotsF_mem, Bool.and_eq_true, exS_iff, hasH_iff]
  constructor
  · rintro ⟨j, c, h0, h1, h2, h3, h4⟩
    exact ⟨⟨j, c, h0, by rw [h1]; congr 1; omega, h2, h3⟩, h4⟩
  · rintro ⟨⟨j, c, h0, h1, h2, h3⟩, h4⟩
    exact ⟨j, c, h0, by rw [h1]; congr 1; omega, h2, h3, h4⟩
-- their order
def ltS (a b : Slt) : Prop := a.col < b.col ∨ (a.col = b.col ∧ (a.tier < b.tier ∨ (a.tier = b.tier ∧ a.half < b.half)))
theorem cmpI_lt {a b : Int} (h : a < b) : cmpI a b = -1 := if_pos h
theorem cmpI_eq {a : Int} : cmpI a a = 0 := by unfold cmpI; rw [if_neg (by omega), if_neg (by omega)]
theorem cmpI_gt {a b : Int} (h : b < a) : cmpI a b = 1 := by unfold cmpI; rw [if_neg (by omega), if_pos h]
theorem cmpI_cases (a b : Int) : (a < b ∧ cmpI a b = -1) ∨ (a = b ∧ cmpI a b = 0) ∨ (b < a ∧ cmpI a b = 1) := by
  rcases Int.lt_trichotomy a b with h | h | h
  · exact .inl ⟨h, cmpI_lt h⟩
  · exact .inr (.inl ⟨h, by rw [h]; exact cmpI_eq⟩)
  · exact .inr (.inr ⟨h, cmpI_gt h⟩)
theorem cmpS_cases (a b : Slt) : (ltS a b ∧ cmpS a b = -1) ∨ (a = b ∧ cmpS a b = 0) ∨ (ltS b a ∧ cmpS a b = 1) := by
  unfold cmpS
  rcases cmpI_cases a.col b.col with ⟨h, e⟩ | ⟨h, e⟩ | ⟨h, e⟩
  · exact .inl ⟨.inl h, by simp [orI, e]⟩
  · rcases cmpI_cases a.tier b.tier with ⟨h2, e2⟩ | ⟨h2, e2⟩ | ⟨h2, e2⟩
    · exact .inl ⟨.inr ⟨h, .inl h2⟩, by simp [orI, e, e2]⟩
    · rcases cmpI_cases ((a.half : Nat) : Int) ((b.half : Nat) : Int) with ⟨h3, e3⟩ | ⟨h3, e3⟩ | ⟨h3, e3⟩
      · exact .inl ⟨.inr ⟨h, .inr ⟨h2, by omega⟩⟩, by simp [orI, e, e2, e3]⟩
      · refine .inr (.inl ⟨?_, by simp [orI, e, e2, e3]⟩)
        cases a; cases b
        simp only [Slt.mk.injEq] at h h2 h3 ⊢
        exact ⟨h, h2, by omega⟩
      · exact .inr (.inr ⟨.inr ⟨h.symm, .inr ⟨h2.symm, by omega⟩⟩, by simp [orI, e, e2, e3]⟩)
    · exact .inr (.inr ⟨.inr ⟨h.symm, .inl h2⟩, by simp [orI, e, e2]⟩)
  · exact .inr (.inr ⟨.inl h, by simp [orI, e]⟩)
theorem ltS_trans {a b c : Slt} (h : ltS a b) (h2 : ltS b c) : ltS a c := by unfold ltS at *; omega
theorem ltS_irr {a : Slt} (h : ltS a a) : False := by unfold ltS at h; omega
theorem cmpS_lt {a b : Slt} (h : ltS a b) : cmpS a b = -1 := by
  rcases cmpS_cases a b with ⟨_, e⟩ | ⟨rfl, _⟩ | ⟨h2, _⟩
  · exact e
  · exact (ltS_irr h).elim
  · exact (ltS_irr (ltS_trans h h2)).elim
theorem cmpS_gt {a b : Slt} (h : ltS b a) : cmpS a b = 1 := by
  rcases cmpS_cases a b with ⟨h2, _⟩ | ⟨rfl, _⟩ | ⟨_, e⟩
  · exact (ltS_irr (ltS_trans h h2)).elim
  · exact (ltS_irr h).elim
  · exact e
theorem cmpS_eq (a : Slt) : cmpS a a = 0 := by
  rcases cmpS_cases a a with ⟨h2, _⟩ | ⟨_, e⟩ | ⟨h2, _⟩
  · exact (ltS_irr h2).elim
  · exact e
  · exact (ltS_irr h2).elim
theorem hsX_pw (z : Nat) : (hsX z).Pairwise (· < ·) := by
  unfold hsX
  split
  · decide
  · split <;> simp
theorem colSl_pw (z k : Nat) (n : Int) : (colSl z k n).Pairwise ltS := by
  unfold colSl
  rw [List.pairwise_flatMap]
  refine ⟨fun t _ => ?_, List.pairwise_lt_range.imp fun {a b} hab => ?_⟩
  · unfold tierS
    rw [List.pairwise_map]
    exact (hsX_pw z).imp fun {a b} hab => .inr ⟨rfl, .inr ⟨rfl, hab⟩⟩
  · intro x hx y hy
    simp only [tierS, List.mem_map] at hx hy
    obtain ⟨_, _, rfl⟩ := hx
    obtain ⟨_, _, rfl⟩ := hy
    exact .inr ⟨rfl, .inl (by simp only; omega)⟩
theorem slotsF_pw (z : Nat) (cs : List Col) : ∀ k, (slotsF z k cs).Pairwise ltS := by
  induction cs with
  | nil => intro k; exact List.Pairwise.nil
  | cons c cs ih =>
    intro k
    refine List.pairwise_append.2 ⟨colSl_pw z k c.tiers, ih (k + 1), fun x hx y hy => .inl ?_⟩
    obtain ⟨h1, _⟩ := colSl_mem.1 hx
    obtain ⟨j, _, _, h2, _⟩ := slotsF_mem.1 hy
    omega
theorem slots_pw (cs : List Col) (z : Nat) : (slotsX cs z).Pairwise ltS := slotsF_pw z cs 0
theorem slots_next {cs : List Col} {z i j : Nat} {a b : Slt} (hij : i < j) (ha : (slotsX cs z)[i]? = some a) (hb : (slotsX cs z)[j]? = some b) : cmpS a b = -1 := by
  obtain ⟨h1, rfl⟩ := List.getElem?_eq_some_iff.1 ha
  obtain ⟨h2, rfl⟩ := List.getElem?_eq_some_iff.1 hb
  exact cmpS_lt (List.pairwise_iff_getElem.1 (slots_pw cs z) i j h1 h2 hij)
-- names
def codeN (h : Nat) : Nat := if h = 0 then 2 else if h = 1 then 1 else 3
def tierN (t : Nat) (d : Bool) : Nat := (2 * (t + 1) + if d = true then 80 else 0) % 100
def numN (b r t : Nat) (d : Bool) (h : Nat) : Nat := (4 * b + codeN h) * 10000 + r * 100 + tierN t d
def dgB (n : Nat) : UInt8 := UInt8.ofNat (48 + n % 10)
def txtN (n : Nat) : List UInt8 := [dgB (n / 1000000), dgB (n / 100000), dgB (n / 10000), dgB (n / 1000), dgB (n / 100), dgB (n / 10), dgB n]
def nameC (c : Col) (x : Slt) : List UInt8 := txtN (numN c.bay.toNat c.row.toNat x.tier.toNat c.deck x.half)
def nameX (cs : List Col) (x : Slt) : List UInt8 := nameC (elC col0 cs x.col) x
theorem txtN_len (n : Nat) : (txtN n).length = 7 := rfl
theorem dgB_nat (n : Nat) : (dgB n).toNat = 48 + n % 10 := by
  unfold dgB
  rw [UInt8.toNat_ofNat']; omega
def isDg (b : UInt8) : Bool := decide (48 ≤ b.toNat) && decide (b.toNat ≤ 57)
theorem isDg_dgB (n : Nat) : isDg (dgB n) = true := by unfold isDg; rw [dgB_nat]; simp; omega
theorem dgB_of {b : UInt8} (h : isDg b = true) (n : Nat) (hn : n % 10 = b.toNat - 48) : dgB n = b := by
  apply UInt8.toNat_inj.1
  rw [dgB_nat]
  unfold isDg at h
  simp at h
  omega
def decN (l : List UInt8) : Nat := l.foldl (fun n b => 10 * n + (b.toNat - 48)) 0
def digsOk (l : List UInt8) : Bool := decide (l.length = 7) && l.all isDg
theorem decN_txt {n : Nat} (h : n < 10000000) : decN (txtN n) = n := by
  simp only [decN, txtN, List.foldl_cons, List.foldl_nil, dgB_nat]
  omega
theorem txt_decN {l : List UInt8} (h : digsOk l = true) : txtN (decN l) = l ∧ decN l < 10000000 := by
  unfold digsOk at h
  simp only [Bool.and_eq_true, decide_eq_true_eq, List.all_eq_true] at h
  obtain ⟨h1, h2⟩ := h
  rcases l with _ | ⟨b0, _ | ⟨b1, _ | ⟨b2, _ | ⟨b3, _ | ⟨b4, _ | ⟨b5, _ | ⟨b6, _ | ⟨b7, l⟩⟩⟩⟩⟩⟩⟩⟩ <;> simp at h1
  have k0 := h2 b0 (by simp); have k1 := h2 b1 (by simp); have k2 := h2 b2 (by simp); have k3 := h2 b3 (by simp); have k4 := h2 b4 (by simp); have k5 := h2 b5 (by simp); have k6 := h2 b6 (by simp)
  have g : ∀ b : UInt8, isDg b = true → 48 ≤ b.toNat ∧ b.toNat ≤ 57 := fun b hb => by unfold isDg at hb; simpa using hb
  have m0 := g _ k0; have m1 := g _ k1; have m2 := g _ k2; have m3 := g _ k3; have m4 := g _ k4; have m5 := g _ k5; have m6 := g _ k6
  have hd : decN [b0, b1, b2, b3, b4, b5, b6] = 10 * (10 * (10 * (10 * (10 * (10 * (10 * 0 + (b0.toNat - 48)) + (b1.toNat - 48)) + (b2.toNat - 48)) + (b3.toNat - 48)) + (b4.toNat - 48)) + (b5.toNat - 48)) + (b6.toNat - 48) := rfl
  rw [hd]
  refine ⟨?_, by omega⟩
  unfold txtN
  rw [dgB_of k0 _ (by omega), dgB_of k1 _ (by omega), dgB_of k2 _ (by omega), dgB_of k3 _ (by omega), dgB_of k4 _ (by omega), dgB_of k5 _ (by omega), dgB_of k6 _ (by omega)]
def halfB (k : Nat) : Bool := decide (k = 1) || (decide (k = 2) || decide (k = 3))
def halfN (k : Nat) : Nat := if k = 1 then 1 else if k = 3 then 2 else 0
def tierM (n : Nat) : Nat := if n = 0 then 100 else n
def tierD (n : Nat) : Bool := decide (80 < tierM n)
def tierR (n : Nat) : Nat := if 80 < tierM n then tierM n - 80 else tierM n
def tierB (n : Nat) : Bool := decide (tierR n % 2 = 0) && (decide (2 ≤ tierR n) && decide (tierR n ≤ 20))
def placeB (l : List UInt8) : Bool := digsOk l && (halfB (decN l / 10000 % 4) && tierB (decN l % 100))
theorem tier_num {t : Nat} {d : Bool} (ht : t ≤ 9) : tierB (tierN t d) = true ∧ tierD (tierN t d) = d ∧ tierR (tierN t d) / 2 - 1 = t ∧ tierN t d < 100 := by
  cases d with
  | true =>
    have e : tierN t true = (2 * (t + 1) + 80) % 100 := rfl
    rcases Nat.lt_or_ge t 9 with h | h
    · have e2 : tierN t true = 2 * (t + 1) + 80 := by omega
      have em : tierM (tierN t true) = 2 * (t + 1) + 80 := by unfold tierM; rw [if_neg (by omega), e2]
      have er : tierR (tierN t true) = 2 * (t + 1) := by unfold tierR; rw [em, if_pos (by omega)]; omega
      refine ⟨?_, ?_, by rw [er]; omega, by omega⟩
      · unfold tierB; rw [er]; simp <;> omega
      · unfold tierD; rw [em]; simp <;> omega
    · have ht9 : t = 9 := by omega
      subst ht9
      decide
  | false =>
    have e : tierN t false = (2 * (t + 1) + 0) % 100 := rfl
    have e2 : tierN t false = 2 * (t + 1) := by omega
    have em : tierM (tierN t false) = 2 * (t + 1) := by unfold tierM; rw [if_neg (by omega), e2]
    have er : tierR (tierN t false) = 2 * (t + 1) := by unfold tierR; rw [em, if_neg (by omega)]
    refine ⟨?_, ?_, by rw [er]; omega, by omega⟩
    · unfold tierB; rw [er]; simp <;> omega
    · unfold tierD; rw [em]; simp <;> omega
theorem num_tier {n : Nat} (hn : n < 100) (h : tierB n = true) : tierN (tierR n / 2 - 1) (tierD n) = n ∧ tierR n / 2 - 1 ≤ 9 := by
  unfold tierB at h
  simp only [Bool.and_eq_true, decide_eq_true_eq] at h
  obtain ⟨h1, h2, h3⟩ := h
  refine ⟨?_, by omega⟩
  unfold tierN tierD
  unfold tierR at *
  unfold tierM at *
  by_cases h0 : n = 0
  · subst h0; decide
  · simp only [if_neg h0] at *
    by_cases h8 : 80 < n
    · simp only [if_pos h8, decide_eq_true h8, if_true] at *
      omega
    · simp only [if_neg h8, decide_eq_false h8, Bool.false_eq_true, if_false] at *
      omega
theorem half_code {h : Nat} (hh : h ≤ 2) (b : Nat) : halfB ((4 * b + codeN h) % 4) = true ∧ halfN ((4 * b + codeN h) % 4) = h ∧ (4 * b + codeN h) / 4 = b := by
  rcases h with _ | _ | _ | h
  · have e : (4 * b + codeN 0) % 4 = 2 := by show (4 * b + 2) % 4 = _; omega
    rw [e]; exact ⟨rfl, rfl, by show (4 * b + 2) / 4 = b; omega⟩
  · have e : (4 * b + codeN 1) % 4 = 1 := by show (4 * b + 1) % 4 = _; omega
    rw [e]; exact ⟨rfl, rfl, by show (4 * b + 1) / 4 = b; omega⟩
  · have e : (4 * b + codeN 2) % 4 = 3 := by show (4 * b + 3) % 4 = _; omega
    rw [e]; exact ⟨rfl, rfl, by show (4 * b + 3) / 4 = b; omega⟩
  · omega
theorem code_half {m : Nat} (h : halfB (m % 4) = true) : 4 * (m / 4) + codeN (halfN (m % 4)) = m ∧ halfN (m % 4) ≤ 2 := by
  have h4 : m % 4 < 4 := Nat.mod_lt _ (by omega)
  generalize hk : m % 4 = k at *
  rcases k with _ | _ | _ | _ | k
  · simp [halfB] at h
  · exact ⟨by show 4 * (m / 4) + 1 = m; omega, by decide⟩
  · exact ⟨by show 4 * (m / 4) + 2 = m; omega, by decide⟩
  · exact ⟨by show 4 * (m / 4) + 3 = m; omega, by decide⟩
  · omega
theorem codeN_le (h : Nat) : 1 ≤ codeN h ∧ codeN h ≤ 3 := by
  unfold codeN
  split
  · omega
  · split <;> omega
theorem numN_lt {b r t h : Nat} {d : Bool} (hb : b ≤ 39) (hr : r ≤ 30) (ht : t ≤ 9) : numN b r t d h < 10000000 ∧ numN b r t d h / 10000 = 4 * b + codeN h ∧ numN b r t d h / 100 % 100 = r ∧ numN b r t d h % 100 = tierN t d := by
  have h1 := codeN_le h
  have h2 := (tier_num (d := d) ht).2.2.2
  unfold numN
  omega
theorem name_place {b r t h : Nat} {d : Bool} (hb : b ≤ 39) (hr : r ≤ 30) (ht : t ≤ 9) (hh : h ≤ 2) : placeB (txtN (numN b r t d h)) = true ∧ decN (txtN (numN b r t d h)) = numN b r t d h ∧ numN b r t d h / 10000 / 4 = b ∧ numN b r t d h / 100 % 100 = r ∧ tierR (numN b r t d h % 100) / 2 - 1 = t ∧ tierD (numN b r t d h % 100) = d ∧ halfN (numN b r t d h / 10000 % 4) = h := by
  obtain ⟨n1, n2, n3, n4⟩ := numN_lt (h := h) (d := d) hb hr ht
  have hd := decN_txt n1
  obtain ⟨c1, c2, c3⟩ := half_code hh b
  obtain ⟨t1, t2, t3, t4⟩ := tier_num (d := d) ht
  refine ⟨?_, hd, by rw [n2]; exact c3, n3, by rw [n4]; exact t3, by rw [n4]; exact t2, by rw [n2]; exact c2⟩
  unfold placeB
  rw [hd, n2, n4, c1, t1]
  unfold digsOk
  simp [txtN, isDg_dgB]
theorem place_name {l : List UInt8} (h : placeB l = true) : txtN (numN (decN l / 10000 / 4) (decN l / 100 % 100) (tierR (decN l % 100) / 2 - 1) (tierD (decN l % 100)) (halfN (decN l / 10000 % 4))) = l ∧ tierR (decN l % 100) / 2 - 1 ≤ 9 ∧ halfN (decN l / 10000 % 4) ≤ 2 := by
  unfold placeB at h
  simp only [Bool.and_eq_true] at h
  obtain ⟨h1, h2, h3⟩ := h
  obtain ⟨d1, d2⟩ := txt_decN h1
  obtain ⟨c1, c2⟩ := code_half h2
  obtain ⟨t1, t2⟩ := num_tier (Nat.mod_lt _ (by omega)) h3
  refine ⟨?_, t2, c2⟩
  have e : numN (decN l / 10000 / 4) (decN l / 100 % 100) (tierR (decN l % 100) / 2 - 1) (tierD (decN l % 100)) (halfN (decN l / 10000 % 4)) = decN l := by
    unfold numN
    rw [t1, c1]
    omega
  rw [e]; exact d1
def findC (cs : List Col) (l : List UInt8) : Option Nat := fst (isAt ((decN l / 10000 / 4 : Nat) : Int) ((decN l / 100 % 100 : Nat) : Int) (tierD (decN l % 100))) cs
def slotOf (cs : List Col) (l : List UInt8) : Slt := ⟨findN (findC cs l), ((tierR (decN l % 100) / 2 - 1 : Nat) : Int), halfN (decN l / 10000 % 4)⟩
def foundB (cs : List Col) (l : List UInt8) : Bool := (findC cs l).isSome && exS cs (findN (findC cs l)) ((tierR (decN l % 100) / 2 - 1 : Nat) : Int)
def findR (cs : List Col) (os : List Cov) (l : List UInt8) : Slt × Nat :=
  if rightX cs os = true then (if placeB l = true then (if foundB cs l = true then (slotOf cs l, 0) else (slt0, 6)) else (slt0, 80)) else (slt0, 2)
def isSlot (cs : List Col) (x : Slt) : Bool := rightS cs x 20 || rightS cs x 40
def nameR (cs : List Col) (os : List Cov) (x : Slt) : List UInt8 × Nat :=
  if rightX cs os = true then (if isSlot cs x = true then (nameX cs x, 0) else ([], 6)) else ([], 2)
end Go.Proofs.YthpooalhibedpaaDoor
namespace Go.Proofs.YthpooalhibedpaaDoor
open Go Go.RowKit Tw
theorem el_slt : Elem Tryd.prog 35 34 3 24 (.agg #[.int .i64 0, .int .i64 0, .int .u8 0]) := Elem.mk' Tryd.underlying35 (by kernel_rfl) rfl
theorem eq_slt {x y : Slt} {px py : Operand} (w : World) : (do eqGuard .eql 34 px py (.agg (sltC x).toArray) (.agg (sltC y).toArray); binOp .eql 34 (.agg (sltC x).toArray) (.agg (sltC y).toArray) : Sem Value).run Tryd.prog w = .ok (.bool (eqS x y)) w := by
  unfold sltC eqS
  go_simp
  have e2 : (((x.half : Nat) : Int) = ((y.half : Nat) : Int)) = (x.half = y.half) := by apply propext; omega
  simp only [e2]
  by_cases h0 : x.col = y.col <;> by_cases h1 : x.tier = y.tier <;> by_cases h2 : x.half = y.half <;> simp [h0, h1, h2]
theorem ne_slt {x y : Slt} {px py : Operand} (w : World) : (do eqGuard .neq 34 px py (.agg (sltC x).toArray) (.agg (sltC y).toArray); binOp .neq 34 (.agg (sltC x).toArray) (.agg (sltC y).toArray) : Sem Value).run Tryd.prog w = .ok (.bool (!eqS x y)) w := by
  unfold sltC eqS
  go_simp
  have e2 : (((x.half : Nat) : Int) = ((y.half : Nat) : Int)) = (x.half = y.half) := by apply propext; omega
  simp only [e2]
  by_cases h0 : x.col = y.col <;> by_cases h1 : x.tier = y.tier <;> by_cases h2 : x.half = y.half <;> simp [h0, h1, h2]
def u8C (n : Nat) : List Value := [.int .u8 ((n : Nat) : Int)]
theorem u8C_len (n : Nat) : (u8C n).length = 1 := rfl
theorem u8C_one (n : Nat) : ∀ v ∈ u8C n, v.oneCell' = true := fun v hv => by
  cases List.mem_singleton.1 hv; rfl
theorem flat_len' {α : Type} {cells : α → List Value} {sz : Nat} (hc : ∀ y, (cells y).length = sz) (l : List α) : (l.flatMap cells).length = l.length * sz := by
  induction l with
  | nil => simp
  | cons y l ih => rw [List.flatMap_cons, List.length_append, ih, hc, List.length_cons, Nat.add_mul, Nat.one_mul, Nat.add_comm]
theorem blk_out {α : Type} {cells : α → List Value} {sz : Nat} {w W : World} {K : List (Nat × Obj)} {g : Nat} {l : List α} {E : TypeId} (hc : ∀ y, (cells y).length = sz) (hW : KS (w : Base) K W) (hm : (g, .cells (l.flatMap cells).toArray E (0, 0)) ∈ K) (hB : w.heap.size ≤ g) (hl : l.length ≤ maxLen) : OutV w W E sz (.slice (some ⟨g, 0, none⟩) l.length l.length) l.length (l.flatMap cells) :=
  .inr ⟨g, l.length, _, rfl, hB, ⟨by rw [List.size_toArray, flat_len' hc], hl, Nat.le_refl _, flat_len' hc l, by rw [← flat_len' hc l, List.take_length]⟩, hW.2 _ hm⟩

theorem or_step {l : List Int} {k : Nat} {n : Int} (hy : l[k]? = some n) : orI (l.drop k) = if n = 0 then orI (l.drop (k + 1)) else n := by
  obtain ⟨hk, rfl⟩ := List.getElem?_eq_some_iff.1 hy
  rw [List.drop_eq_getElem_cons hk]; rfl
theorem or_end {l : List Int} {k : Nat} (hk : ¬ k < l.length) : orI (l.drop k) = 0 := by
  rw [List.drop_eq_nil_of_le (by omega)]; rfl
set_option maxRecDepth 100000 in
set_option maxHeartbeats 4000000 in
theorem ovl_any (a b : Nat) (w : World) : Calls Tryd.prog 55 #[.int .u8 ((a : Nat) : Int), .int .u8 ((b : Nat) : Int)] w fun e w' => e = .returned (.bool (ovl a b)) ∧ Below w.heap.size w w' := by
  go_enter Tryd.func55, Tryd.ntmps55
  refine wp_seq ?_
  refine wp_region_L (W0 := w) [] (KS.start w) ?_
  refine lm (v := .bool false) rfl rfl ?_
  refine wpL_done (fun W1 hW1 => ?_)
  refine (show Code.wp _ _ _ _ _ from ?_)
  refine wp_seq ?_
  refine wp_region_L (W0 := w) [] (hW1) ?_
  refine lm (v := .int .u8 ((a : Nat) : Int)) rfl rfl ?_
  refine lm (v := .int .u8 ((b : Nat) : Int)) rfl rfl ?_
  refine lp (v := .bool (decide (a = b))) rfl rfl (run_bin rfl (vx := (.int .u8 ((a : Nat) : Int))) (vy := (.int .u8 ((b : Nat) : Int))) (by kernel_rfl) (by kernel_rfl) fun w => bn_eql rfl w) ?_
  refine lm (v := .bool (decide (a = b))) rfl rfl ?_
  cases hd1 : (decide (a = b)) with
  | false =>
    have h1 : ¬ (a = b) := of_decide_eq_false hd1
    clear hd1
    refine lm (v := .int .u8 ((a : Nat) : Int)) rfl rfl ?_
    refine lp (v := .bool (decide (a = 0))) rfl rfl (run_bin rfl (vx := (.int .u8 ((a : Nat) : Int))) (vy := (.int .u8 ((0 : Nat) : Int))) (by kernel_rfl) (by kernel_rfl) fun w => bn_eql rfl w) ?_
    refine lm (v := .bool (decide (a = 0))) rfl rfl ?_
    refine lm (v := .bool (decide (a = 0))) rfl rfl ?_
    cases hd2 : (decide (a = 0)) with
    | false =>
      have h2 : ¬ (a = 0) := of_decide_eq_false hd2
      clear hd2
      refine lm (v := .int .u8 ((b : Nat) : Int)) rfl rfl ?_
      refine lp (v := .bool (decide (b = 0))) rfl rfl (run_bin rfl (vx := (.int .u8 ((b : Nat) : Int))) (vy := (.int .u8 ((0 : Nat) : Int))) (by kernel_rfl) (by kernel_rfl) fun w => bn_eql rfl w) ?_
      refine lm (v := .bool (decide (b = 0))) rfl rfl ?_
      refine lm (v := .bool (decide (b = 0))) rfl rfl ?_
      refine wpL_done (fun W2 hW2 => ?_)
      refine (show Code.wp _ _ _ _ _ from ?_)
      refine wp_ret ?_
      try simp only [inBlock_ret, then_ret]
      refine bodyPost_ret (v := .bool (decide (b = 0))) ?_ rfl ?_
      · kernel_rfl
      · exact ⟨(bool_is (by unfold ovl; simp [*])), hW2.1⟩
    | true =>
      have h2 : a = 0 := of_decide_eq_true hd2
      clear hd2
      refine ln rfl ?_
      refine ln rfl ?_
      refine lm (v := .bool true) rfl rfl ?_
      refine lm (v := .bool true) rfl rfl ?_
      refine wpL_done (fun W3 hW3 => ?_)
      refine (show Code.wp _ _ _ _ _ from ?_)
      refine wp_ret ?_
      try simp only [inBlock_ret, then_ret]
      refine bodyPost_ret (v := .bool true) ?_ rfl ?_
      · kernel_rfl
      · exact ⟨(bool_is (by unfold ovl; simp [*])), hW3.1⟩
  | true =>
    have h1 : a = b := of_decide_eq_true hd1
    clear hd1
    refine ln rfl ?_
    refine ln rfl ?_
    refine lm (v := .bool true) rfl rfl ?_
    refine lm (v := .bool true) rfl rfl ?_
    refine ln rfl ?_
    refine ln rfl ?_
    refine lm (v := .bool true) rfl rfl ?_
    refine lm (v := .bool true) rfl rfl ?_
    refine wpL_done (fun W4 hW4 => ?_)
    refine (show Code.wp _ _ _ _ _ from ?_)
    refine wp_ret ?_
    try simp only [inBlock_ret, then_ret]
    refine bodyPost_ret (v := .bool true) ?_ rfl ?_
    · kernel_rfl
    · exact ⟨(bool_is (by unfold ovl; simp [*])), hW4.1⟩
set_option maxRecDepth 100000 in
set_option maxHeartbeats 4000000 in
theorem Meet_any (a b : Slt) (w : World) : Calls Tryd.prog 21 #[.agg (sltC a).toArray, .agg (sltC b).toArray] w fun e w' => e = .returned (.bool (meetS a b)) ∧ Below w.heap.size w w' := by
  go_enter Tryd.func21, Tryd.ntmps21
  refine wp_seq ?_
  refine wp_region_L (W0 := w) [] (KS.start w) ?_
  refine wpL_new (fun g => .pointer (some ⟨g, 0, none⟩)) (obi := .cells (sltC a).toArray 34 (0, 0)) rfl rfl (fun _ => by kernel_rfl) (fun _ => by simp only [List.setIfInBounds_toArray, List.set_cons_succ, List.set_cons_zero] <;> rfl) fun g1 Bg1 Fg1 => ?_
  refine wpL_new (fun g => .pointer (some ⟨g, 0, none⟩)) (obi := .cells (sltC b).toArray 34 (0, 0)) rfl rfl (fun _ => by kernel_rfl) (fun _ => by simp only [List.setIfInBounds_toArray, List.set_cons_succ, List.set_cons_zero] <;> rfl) fun g2 Bg2 Fg2 => ?_
  obtain dj3_0 : g1 ≠ g2 := by simpa only [dj_app_l, dj_app_r, dj_cons_l, dj_cons_r, dj_nil_l, dj_nil_r, dk_app, dk_cons, dk_nil, and_true, true_and, and_assoc] using (show Dk g2 [(g1, .cells (sltC a).toArray 34 (0, 0))] from Fg2)
  refine lm (v := .bool false) rfl rfl ?_
  refine wpL_done (fun W1 hW1 => ?_)
  refine (show Code.wp _ _ _ _ _ from ?_)
  refine wp_seq ?_
  refine wp_region_L (W0 := w) [(g2, .cells (sltC b).toArray 34 (0, 0)), (g1, .cells (sltC a).toArray 34 (0, 0))] (hW1) ?_
  refine lm (v := .pointer (some ⟨g1, 0, none⟩)) rfl rfl ?_
  refine lv (v := .int .i64 a.col) rfl rfl (yb_cell (off := 0) rfl (by kernel_rfl) (.tail _ (.head _)) Tryd.underlying3 rfl (by kernel_rfl)) ?_
  refine lm (v := .pointer (some ⟨g2, 0, none⟩)) rfl rfl ?_
  refine lv (v := .int .i64 b.col) rfl rfl (yb_cell (off := 0) rfl (by kernel_rfl) (.head _) Tryd.underlying3 rfl (by kernel_rfl)) ?_
  refine lp (v := .bool (decide (a.col = b.col))) rfl rfl (run_bin rfl (vx := (.int .i64 a.col)) (vy := (.int .i64 b.col)) (by kernel_rfl) (by kernel_rfl) fun w => bi_eql rfl w) ?_
  refine lm (v := .bool (decide (a.col = b.col))) rfl rfl ?_
  cases hd1 : (decide (a.col = b.col)) with
  | false =>
    have h1 : ¬ (a.col = b.col) := of_decide_eq_false hd1
    clear hd1
    refine ln rfl ?_
    refine ln rfl ?_
    refine ln rfl ?_
    refine ln rfl ?_
    refine ln rfl ?_
    refine lm (v := .bool false) rfl rfl ?_
    refine lm (v := .bool false) rfl rfl ?_
    refine ln rfl ?_
    refine ln rfl ?_
    refine ln rfl ?_
    refine ln rfl ?_
    refine ln rfl ?_
    refine lm (v := .bool false) rfl rfl ?_
    refine lm (v := .bool false) rfl rfl ?_
    refine wpL_done (fun W2 hW2 => ?_)
    refine (show Code.wp _ _ _ _ _ from ?_)
    refine wp_ret ?_
    try simp only [inBlock_ret, then_ret]
    refine bodyPost_ret (v := .bool false) ?_ rfl ?_
    · kernel_rfl
    · exact ⟨(bool_is (by unfold meetS; simp [*])), hW2.1⟩
  | true =>
    have h1 : a.col = b.col := of_decide_eq_true hd1
    clear hd1
    refine lm (v := .pointer (some ⟨g1, 1, none⟩)) rfl rfl ?_
    refine lv (v := .int .i64 a.tier) rfl rfl (yb_cell (off := 1) rfl (by kernel_rfl) (.tail _ (.head _)) Tryd.underlying3 rfl (by kernel_rfl)) ?_
    refine lm (v := .pointer (some ⟨g2, 1, none⟩)) rfl rfl ?_
    refine lv (v := .int .i64 b.tier) rfl rfl (yb_cell (off := 1) rfl (by kernel_rfl) (.head _) Tryd.underlying3 rfl (by kernel_rfl)) ?_
    refine lp (v := .bool (decide (a.tier = b.tier))) rfl rfl (run_bin rfl (vx := (.int .i64 a.tier)) (vy := (.int .i64 b.tier)) (by kernel_rfl) (by kernel_rfl) fun w => bi_eql rfl w) ?_
    refine lm (v := .bool (decide (a.tier = b.tier))) rfl rfl ?_
    refine lm (v := .bool (decide (a.tier = b.tier))) rfl rfl ?_
    cases hd2 : (decide (a.tier = b.tier)) with
    | false =>
      have h2 : ¬ (a.tier = b.tier) := of_decide_eq_false hd2
      clear hd2
      refine ln rfl ?_
      refine ln rfl ?_
      refine ln rfl ?_
      refine ln rfl ?_
      refine ln rfl ?_
      refine lm (v := .bool false) rfl rfl ?_
      refine lm (v := .bool false) rfl rfl ?_
      refine wpL_done (fun W3 hW3 => ?_)
      refine (show Code.wp _ _ _ _ _ from ?_)
      refine wp_ret ?_
      try simp only [inBlock_ret, then_ret]
      refine bodyPost_ret (v := .bool false) ?_ rfl ?_
      · kernel_rfl
      · exact ⟨(bool_is (by unfold meetS; simp [*])), hW3.1⟩
    | true =>
      have h2 : a.tier = b.tier := of_decide_eq_true hd2
      clear hd2
      refine lm (v := .pointer (some ⟨g1, 2, none⟩)) rfl rfl ?_
      refine lv (v := .int .u8 ((a.half : Nat) : Int)) rfl rfl (yb_cell (off := 2) rfl (by kernel_rfl) (.tail _ (.head _)) Tryd.underlying5 rfl (by kernel_rfl)) ?_
      refine lm (v := .pointer (some ⟨g2, 2, none⟩)) rfl rfl ?_
      refine lv (v := .int .u8 ((b.half : Nat) : Int)) rfl rfl (yb_cell (off := 2) rfl (by kernel_rfl) (.head _) Tryd.underlying5 rfl (by kernel_rfl)) ?_
      refine lv (v := .bool (ovl a.half b.half)) rfl rfl (yb_call (f := 55) (args := #[.int .u8 ((a.half : Nat) : Int), .int .u8 ((b.half : Nat) : Int)]) (fun _ => by kernel_rfl) fun W hW => ovl_any a.half b.half W) ?_
      refine lm (v := .bool (ovl a.half b.half)) rfl rfl ?_
      refine lm (v := .bool (ovl a.half b.half)) rfl rfl ?_
      refine wpL_done (fun W4 hW4 => ?_)
      refine (show Code.wp _ _ _ _ _ from ?_)
      refine wp_ret ?_
      try simp only [inBlock_ret, then_ret]
      refine bodyPost_ret (v := .bool (ovl a.half b.half)) ?_ rfl ?_
      · kernel_rfl
      · exact ⟨(bool_is (by unfold meetS; simp [*])), hW4.1⟩
set_option maxRecDepth 100000 in
set_option maxHeartbeats 4000000 in
theorem Over_any (a b : Slt) (w : World) : Calls Tryd.prog 23 #[.agg (sltC a).toArray, .agg (sltC b).toArray] w fun e w' => e = .returned (.bool (overS a b)) ∧ Below w.heap.size w w' := by
  go_enter Tryd.func23, Tryd.ntmps23
  refine wp_seq ?_
  refine wp_region_L (W0 := w) [] (KS.start w) ?_
  refine wpL_new (fun g => .pointer (some ⟨g, 0, none⟩)) (obi := .cells (sltC a).toArray 34 (0, 0)) rfl rfl (fun _ => by kernel_rfl) (fun _ => by simp only [List.setIfInBounds_toArray, List.set_cons_succ, List.set_cons_zero] <;> rfl) fun g1 Bg1 Fg1 => ?_
  refine wpL_new (fun g => .pointer (some ⟨g, 0, none⟩)) (obi := .cells (sltC b).toArray 34 (0, 0)) rfl rfl (fun _ => by kernel_rfl) (fun _ => by simp only [List.setIfInBounds_toArray, List.set_cons_succ, List.set_cons_zero] <;> rfl) fun g2 Bg2 Fg2 => ?_
  obtain dj3_0 : g1 ≠ g2 := by simpa only [dj_app_l, dj_app_r, dj_cons_l, dj_cons_r, dj_nil_l, dj_nil_r, dk_app, dk_cons, dk_nil, and_true, true_and, and_assoc] using (show Dk g2 [(g1, .cells (sltC a).toArray 34 (0, 0))] from Fg2)
  refine lm (v := .bool false) rfl rfl ?_
  refine wpL_done (fun W1 hW1 => ?_)
  refine (show Code.wp _ _ _ _ _ from ?_)
  refine wp_seq ?_
  refine wp_region_L (W0 := w) [(g2, .cells (sltC b).toArray 34 (0, 0)), (g1, .cells (sltC a).toArray 34 (0, 0))] (hW1) ?_
  refine lm (v := .pointer (some ⟨g1, 0, none⟩)) rfl rfl ?_
  refine lv (v := .int .i64 a.col) rfl rfl (yb_cell (off := 0) rfl (by kernel_rfl) (.tail _ (.head _)) Tryd.underlying3 rfl (by kernel_rfl)) ?_
  refine lm (v := .pointer (some ⟨g2, 0, none⟩)) rfl rfl ?_
  refine lv (v := .int .i64 b.col) rfl rfl (yb_cell (off := 0) rfl (by kernel_rfl) (.head _) Tryd.underlying3 rfl (by kernel_rfl)) ?_
  refine lp (v := .bool (decide (a.col = b.col))) rfl rfl (run_bin rfl (vx := (.int .i64 a.col)) (vy := (.int .i64 b.col)) (by kernel_rfl) (by kernel_rfl) fun w => bi_eql rfl w) ?_
  refine lm (v := .bool (decide (a.col = b.col))) rfl rfl ?_
  cases hd1 : (decide (a.col = b.col)) with
  | false =>
    have h1 : ¬ (a.col = b.col) := of_decide_eq_false hd1
    clear hd1
    refine ln rfl ?_
    refine ln rfl ?_
    refine ln rfl ?_
    refine ln rfl ?_
    refine ln rfl ?_
    refine lm (v := .bool false) rfl rfl ?_
    refine lm (v := .bool false) rfl rfl ?_
    refine ln rfl ?_
    refine ln rfl ?_
    refine ln rfl ?_
    refine ln rfl ?_
    refine ln rfl ?_
    refine lm (v := .bool false) rfl rfl ?_
    refine lm (v := .bool false) rfl rfl ?_
    refine wpL_done (fun W2 hW2 => ?_)
    refine (show Code.wp _ _ _ _ _ from ?_)
    refine wp_ret ?_
    try simp only [inBlock_ret, then_ret]
    refine bodyPost_ret (v := .bool false) ?_ rfl ?_
    · kernel_rfl
    · exact ⟨(bool_is (by unfold overS; simp [*])), hW2.1⟩
  | true =>
    have h1 : a.col = b.col := of_decide_eq_true hd1
    clear hd1
    refine lm (v := .pointer (some ⟨g1, 1, none⟩)) rfl rfl ?_
    refine lv (v := .int .i64 a.tier) rfl rfl (yb_cell (off := 1) rfl (by kernel_rfl) (.tail _ (.head _)) Tryd.underlying3 rfl (by kernel_rfl)) ?_
    refine lm (v := .pointer (some ⟨g2, 1, none⟩)) rfl rfl ?_
    refine lv (v := .int .i64 b.tier) rfl rfl (yb_cell (off := 1) rfl (by kernel_rfl) (.head _) Tryd.underlying3 rfl (by kernel_rfl)) ?_
    refine lp (v := .bool (decide (b.tier < a.tier))) rfl rfl (run_bin rfl (vx := (.int .i64 a.tier)) (vy := (.int .i64 b.tier)) (by kernel_rfl) (by kernel_rfl) fun w => bi_gtr rfl w) ?_
    refine lm (v := .bool (decide (b.tier < a.tier))) rfl rfl ?_
    refine lm (v := .bool (decide (b.tier < a.tier))) rfl rfl ?_
    cases hd2 : (decide (b.tier < a.tier)) with
    | false =>
      have h2 : ¬ (b.tier < a.tier) := of_decide_eq_false hd2
      clear hd2
      refine ln rfl ?_
      refine ln rfl ?_
      refine ln rfl ?_
      refine ln rfl ?_
      refine ln rfl ?_
      refine lm (v := .bool false) rfl rfl ?_
      refine lm (v := .bool false) rfl rfl ?_
      refine wpL_done (fun W3 hW3 => ?_)
      refine (show Code.wp _ _ _ _ _ from ?_)
      refine wp_ret ?_
      try simp only [inBlock_ret, then_ret]
      refine bodyPost_ret (v := .bool false) ?_ rfl ?_
      · kernel_rfl
      · exact ⟨(bool_is (by unfold overS; simp [*])), hW3.1⟩
    | true =>
      have h2 : b.tier < a.tier := of_decide_eq_true hd2
      clear hd2
      refine lm (v := .pointer (some ⟨g1, 2, none⟩)) rfl rfl ?_
      refine lv (v := .int .u8 ((a.half : Nat) : Int)) rfl rfl (yb_cell (off := 2) rfl (by kernel_rfl) (.tail _ (.head _)) Tryd.underlying5 rfl (by kernel_rfl)) ?_
      refine lm (v := .pointer (some ⟨g2, 2, none⟩)) rfl rfl ?_
      refine lv (v := .int .u8 ((b.half : Nat) : Int)) rfl rfl (yb_cell (off := 2) rfl (by kernel_rfl) (.head _) Tryd.underlying5 rfl (by kernel_rfl)) ?_
      refine lv (v := .bool (ovl a.half b.half)) rfl rfl (yb_call (f := 55) (args := #[.int .u8 ((a.half : Nat) : Int), .int .u8 ((b.half : Nat) : Int)]) (fun _ => by kernel_rfl) fun W hW => ovl_any a.half b.half W) ?_
      refine lm (v := .bool (ovl a.half b.half)) rfl rfl ?_
      refine lm (v := .bool (ovl a.half b.half)) rfl rfl ?_
      refine wpL_done (fun W4 hW4 => ?_)
      refine (show Code.wp _ _ _ _ _ from ?_)
      refine wp_ret ?_
      try simp only [inBlock_ret, then_ret]
      refine bodyPost_ret (v := .bool (ovl a.half b.half)) ?_ rfl ?_
      · kernel_rfl
      · exact ⟨(bool_is (by unfold overS; simp [*])), hW4.1⟩
set_option maxRecDepth 100000 in
set_option maxHeartbeats 4000000 in
theorem isNaN_any (x : Int) (w : World) : Calls Tryd.prog 82 #[.int .i64 x] w fun e w' => e = .returned (.bool false) ∧ Below w.heap.size w w' := by
  go_enter Tryd.func82, Tryd.ntmps82
  refine wp_seq ?_
  refine wp_region_L (W0 := w) [] (KS.start w) ?_
  refine lm (v := .bool false) rfl rfl ?_
  refine wpL_done (fun W1 hW1 => ?_)
  refine (show Code.wp _ _ _ _ _ from ?_)
  refine wp_seq ?_
  refine wp_region_L (W0 := w) [] (hW1) ?_
  refine lm (v := .int .i64 x) rfl rfl ?_
  refine lm (v := .int .i64 x) rfl rfl ?_
  refine lp (v := .bool false) rfl rfl (run_bin rfl (vx := (.int .i64 x)) (vy := (.int .i64 x)) (by kernel_rfl) (by kernel_rfl) fun w => bi_neq (decide_eq_true rfl) w) ?_
  refine lm (v := .bool false) rfl rfl ?_
  refine wpL_done (fun W2 hW2 => ?_)
  refine (show Code.wp _ _ _ _ _ from ?_)
  refine wp_ret ?_
  try simp only [inBlock_ret, then_ret]
  refine bodyPost_ret (v := .bool false) ?_ rfl ?_
  · kernel_rfl
  · exact ⟨rfl, hW2.1⟩
set_option maxRecDepth 100000 in
set_option maxHeartbeats 4000000 in
theorem isNaN8_any (x : Nat) (w : World) : Calls Tryd.prog 83 #[.int .u8 ((x : Nat) : Int)] w fun e w' => e = .returned (.bool false) ∧ Below w.heap.size w w' := by
  go_enter Tryd.func83, Tryd.ntmps83
  refine wp_seq ?_
  refine wp_region_L (W0 := w) [] (KS.start w) ?_
  refine lm (v := .bool false) rfl rfl ?_
  refine wpL_done (fun W1 hW1 => ?_)
  refine (show Code.wp _ _ _ _ _ from ?_)
  refine wp_seq ?_
  refine wp_region_L (W0 := w) [] (hW1) ?_
  refine lm (v := .int .u8 ((x : Nat) : Int)) rfl rfl ?_
  refine lm (v := .int .u8 ((x : Nat) : Int)) rfl rfl ?_
  refine lp (v := .bool false) rfl rfl (run_bin rfl (vx := (.int .u8 ((x : Nat) : Int))) (vy := (.int .u8 ((x : Nat) : Int))) (by kernel_rfl) (by kernel_rfl) fun w => bn_neq (decide_eq_true rfl) w) ?_
  refine lm (v := .bool false) rfl rfl ?_
  refine wpL_done (fun W2 hW2 => ?_)
  refine (show Code.wp _ _ _ _ _ from ?_)
  refine wp_ret ?_
  try simp only [inBlock_ret, then_ret]
  refine bodyPost_ret (v := .bool false) ?_ rfl ?_
  · kernel_rfl
  · exact ⟨rfl, hW2.1⟩
set_option maxRecDepth 100000 in
set_option maxHeartbeats 4000000 in
theorem Cmp_any (x y : Int) (w : World) : Calls Tryd.prog 52 #[.int .i64 x, .int .i64 y] w fun e w' => e = .returned (.int .i64 (cmpI x y)) ∧ Below w.heap.size w w' := by
  go_enter Tryd.func52, Tryd.ntmps52
  refine wp_seq ?_
  refine wp_region_L (W0 := w) [] (KS.start w) ?_
  refine lm (v := .int .i64 0) rfl rfl ?_
  refine wpL_done (fun W1 hW1 => ?_)
  refine (show Code.wp _ _ _ _ _ from ?_)
  refine wp_seq ?_
  refine wp_region_L (W0 := w) [] (hW1) ?_
  refine lm (v := .int .i64 x) rfl rfl ?_
  refine lv (v := .bool false) rfl rfl (yb_call (f := 82) (args := #[.int .i64 x]) (fun _ => by kernel_rfl) fun W hW => isNaN_any x W) ?_
  refine lm (v := .bool false) rfl rfl ?_
  refine wpL_done (fun W2 hW2 => ?_)
  refine (show Code.wp _ _ _ _ _ from ?_)
  refine wp_seq ?_
  refine wp_region_L (W0 := w) [] (hW2) ?_
  refine lm (v := .int .i64 y) rfl rfl ?_
  refine lv (v := .bool false) rfl rfl (yb_call (f := 82) (args := #[.int .i64 y]) (fun _ => by kernel_rfl) fun W hW => isNaN_any y W) ?_
  refine lm (v := .bool false) rfl rfl ?_
  refine wpL_done (fun W3 hW3 => ?_)
  refine (show Code.wp _ _ _ _ _ from ?_)
  refine wp_seq ?_
  refine wp_seq ?_
  refine wp_region_L (W0 := w) [] (hW3) ?_
  refine lm (v := .bool false) rfl rfl ?_
  refine wpL_done (fun W4 hW4 => ?_)
  refine (show Code.wp _ _ _ _ _ from ?_)
  refine wp_cond_false rfl ?_
  refine wp_skip ?_
  refine (show Code.wp _ _ _ _ _ from ?_)
  refine wp_seq ?_
  refine wp_seq ?_
  refine wp_region_L (W0 := w) [] (hW4) ?_
  refine lm (v := .bool false) rfl rfl ?_
  refine wpL_done (fun W5 hW5 => ?_)
  refine (show Code.wp _ _ _ _ _ from ?_)
  refine wp_cond_false rfl ?_
  refine wp_skip ?_
  refine (show Code.wp _ _ _ _ _ from ?_)
  refine wp_seq ?_
  refine wp_seq ?_
  refine wp_region_L (W0 := w) [] (hW5) ?_
  refine lm (v := .int .i64 x) rfl rfl ?_
  refine lm (v := .int .i64 y) rfl rfl ?_
  refine lp (v := .bool (decide (x < y))) rfl rfl (run_bin rfl (vx := (.int .i64 x)) (vy := (.int .i64 y)) (by kernel_rfl) (by kernel_rfl) fun w => bi_lss rfl w) ?_
  refine wpL_done (fun W6 hW6 => ?_)
  refine (show Code.wp _ _ _ _ _ from ?_)
  cases hd1 : (decide (x < y)) with
  | false =>
    have h1 : ¬ (x < y) := of_decide_eq_false hd1
    clear hd1
    refine wp_cond_false rfl ?_
    refine wp_skip ?_
    refine (show Code.wp _ _ _ _ _ from ?_)
    refine wp_seq ?_
    refine wp_seq ?_
    refine wp_region_L (W0 := w) [] (hW6) ?_
    refine lm (v := .int .i64 x) rfl rfl ?_
    refine lm (v := .int .i64 y) rfl rfl ?_
    refine lp (v := .bool (decide (y < x))) rfl rfl (run_bin rfl (vx := (.int .i64 x)) (vy := (.int .i64 y)) (by kernel_rfl) (by kernel_rfl) fun w => bi_gtr rfl w) ?_
    refine wpL_done (fun W7 hW7 => ?_)
    refine (show Code.wp _ _ _ _ _ from ?_)
    cases hd2 : (decide (y < x)) with
    | false =>
      have h2 : ¬ (y < x) := of_decide_eq_false hd2
      clear hd2
      refine wp_cond_false rfl ?_
      refine wp_skip ?_
      refine (show Code.wp _ _ _ _ _ from ?_)
      refine wp_seq ?_
      refine wp_region_L (W0 := w) [] (hW7) ?_
      refine lm (v := .int .i64 0) rfl rfl ?_
      refine wpL_done (fun W8 hW8 => ?_)
      refine (show Code.wp _ _ _ _ _ from ?_)
      refine wp_ret ?_
      try simp only [inBlock_ret, then_ret]
      refine bodyPost_ret (v := .int .i64 0) ?_ rfl ?_
      · kernel_rfl
      · exact ⟨(int_is (by unfold cmpI; simp [*])), hW8.1⟩
    | true =>
      have h2 : y < x := of_decide_eq_true hd2
      clear hd2
      refine wp_cond_true rfl ?_
      refine wp_seq ?_
      refine wp_region_L (W0 := w) [] (hW7) ?_
      refine lm (v := .int .i64 1) rfl rfl ?_
      refine wpL_done (fun W9 hW9 => ?_)
      refine (show Code.wp _ _ _ _ _ from ?_)
      refine wp_ret ?_
      try simp only [inBlock_ret, then_ret]
      refine bodyPost_ret (v := .int .i64 1) ?_ rfl ?_
      · kernel_rfl
      · exact ⟨(int_is (by unfold cmpI; simp [*])), hW9.1⟩
  | true =>
    have h1 : x < y := of_decide_eq_true hd1
    clear hd1
    refine wp_cond_true rfl ?_
    refine wp_seq ?_
    refine wp_region_L (W0 := w) [] (hW6) ?_
    refine lm (v := .int .i64 (-1)) rfl rfl ?_
    refine wpL_done (fun W10 hW10 => ?_)
    refine (show Code.wp _ _ _ _ _ from ?_)
    refine wp_ret ?_
    try simp only [inBlock_ret, then_ret]
    refine bodyPost_ret (v := .int .i64 (-1)) ?_ rfl ?_
    · kernel_rfl
    · exact ⟨(int_is (by unfold cmpI; simp [*])), hW10.1⟩
set_option maxRecDepth 100000 in
set_option maxHeartbeats 4000000 in
theorem Cmp8_any (x y : Nat) (w : World) : Calls Tryd.prog 53 #[.int .u8 ((x : Nat) : Int), .int .u8 ((y : Nat) : Int)] w fun e w' => e = .returned (.int .i64 (cmpI ((x : Nat) : Int) ((y : Nat) : Int))) ∧ Below w.heap.size w w' := by
  go_enter Tryd.func53, Tryd.ntmps53
  refine wp_seq ?_
  refine wp_region_L (W0 := w) [] (KS.start w) ?_
  refine lm (v := .int .i64 0) rfl rfl ?_
  refine wpL_done (fun W1 hW1 => ?_)
  refine (show Code.wp _ _ _ _ _ from ?_)
  refine wp_seq ?_
  refine wp_region_L (W0 := w) [] (hW1) ?_
  refine lm (v := .int .u8 ((x : Nat) : Int)) rfl rfl ?_
  refine lv (v := .bool false) rfl rfl (yb_call (f := 83) (args := #[.int .u8 ((x : Nat) : Int)]) (fun _ => by kernel_rfl) fun W hW => isNaN8_any x W) ?_
  refine lm (v := .bool false) rfl rfl ?_
  refine wpL_done (fun W2 hW2 => ?_)
  refine (show Code.wp _ _ _ _ _ from ?_)
  refine wp_seq ?_
  refine wp_region_L (W0 := w) [] (hW2) ?_
  refine lm (v := .int .u8 ((y : Nat) : Int)) rfl rfl ?_
  refine lv (v := .bool false) rfl rfl (yb_call (f := 83) (args := #[.int .u8 ((y : Nat) : Int)]) (fun _ => by kernel_rfl) fun W hW => isNaN8_any y W) ?_
  refine lm (v := .bool false) rfl rfl ?_
  refine wpL_done (fun W3 hW3 => ?_)
  refine (show Code.wp _ _ _ _ _ from ?_)
  refine wp_seq ?_
  refine wp_seq ?_
  refine wp_region_L (W0 := w) [] (hW3) ?_
  refine lm (v := .bool false) rfl rfl ?_
  refine wpL_done (fun W4 hW4 => ?_)
  refine (show Code.wp _ _ _ _ _ from ?_)
  refine wp_cond_false rfl ?_
  refine wp_skip ?_
  refine (show Code.wp _ _ _ _ _ from ?_)
  refine wp_seq ?_
  refine wp_seq ?_
  refine wp_region_L (W0 := w) [] (hW4) ?_
  refine lm (v := .bool false) rfl rfl ?_
  refine wpL_done (fun W5 hW5 => ?_)
  refine (show Code.wp _ _ _ _ _ from ?_)
  refine wp_cond_false rfl ?_
  refine wp_skip ?_
  refine (show Code.wp _ _ _ _ _ from ?_)
  refine wp_seq ?_
  refine wp_seq ?_
  refine wp_region_L (W0 := w) [] (hW5) ?_
  refine lm (v := .int .u8 ((x : Nat) : Int)) rfl rfl ?_
  refine lm (v := .int .u8 ((y : Nat) : Int)) rfl rfl ?_
  refine lp (v := .bool (decide (x < y))) rfl rfl (run_bin rfl (vx := (.int .u8 ((x : Nat) : Int))) (vy := (.int .u8 ((y : Nat) : Int))) (by kernel_rfl) (by kernel_rfl) fun w => bn_lss rfl w) ?_
  refine wpL_done (fun W6 hW6 => ?_)
  refine (show Code.wp _ _ _ _ _ from ?_)
  cases hd1 : (decide (x < y)) with
  | false =>
    have h1 : ¬ (x < y) := of_decide_eq_false hd1
    clear hd1
    refine wp_cond_false rfl ?_
    refine wp_skip ?_
    refine (show Code.wp _ _ _ _ _ from ?_)
    refine wp_seq ?_
    refine wp_seq ?_
    refine wp_region_L (W0 := w) [] (hW6) ?_
    refine lm (v := .int .u8 ((x : Nat) : Int)) rfl rfl ?_
    refine lm (v := .int .u8 ((y : Nat) : Int)) rfl rfl ?_
    refine lp (v := .bool (decide (y < x))) rfl rfl (run_bin rfl (vx := (.int .u8 ((x : Nat) : Int))) (vy := (.int .u8 ((y : Nat) : Int))) (by kernel_rfl) (by kernel_rfl) fun w => bn_gtr rfl w) ?_
    refine wpL_done (fun W7 hW7 => ?_)
    refine (show Code.wp _ _ _ _ _ from ?_)
    cases hd2 : (decide (y < x)) with
    | false =>
      have h2 : ¬ (y < x) := of_decide_eq_false hd2
      clear hd2
      refine wp_cond_false rfl ?_
      refine wp_skip ?_
      refine (show Code.wp _ _ _ _ _ from ?_)
      refine wp_seq ?_
      refine wp_region_L (W0 := w) [] (hW7) ?_
      refine lm (v := .int .i64 0) rfl rfl ?_
      refine wpL_done (fun W8 hW8 => ?_)
      refine (show Code.wp _ _ _ _ _ from ?_)
      refine wp_ret ?_
      try simp only [inBlock_ret, then_ret]
      refine bodyPost_ret (v := .int .i64 0) ?_ rfl ?_
      · kernel_rfl
      · exact ⟨(int_is (by unfold cmpI; simp only [Int.ofNat_lt]; simp [*])), hW8.1⟩
    | true =>
      have h2 : y < x := of_decide_eq_true hd2
      clear hd2
      refine wp_cond_true rfl ?_
      refine wp_seq ?_
      refine wp_region_L (W0 := w) [] (hW7) ?_
      refine lm (v := .int .i64 1) rfl rfl ?_
      refine wpL_done (fun W9 hW9 => ?_)
      refine (show Code.wp _ _ _ _ _ from ?_)
      refine wp_ret ?_
      try simp only [inBlock_ret, then_ret]
      refine bodyPost_ret (v := .int .i64 1) ?_ rfl ?_
      · kernel_rfl
      · exact ⟨(int_is (by unfold cmpI; simp only [Int.ofNat_lt]; simp [*])), hW9.1⟩
  | true =>
    have h1 : x < y := of_decide_eq_true hd1
    clear hd1
    refine wp_cond_true rfl ?_
    refine wp_seq ?_
    refine wp_region_L (W0 := w) [] (hW6) ?_
    refine lm (v := .int .i64 (-1)) rfl rfl ?_
    refine wpL_done (fun W10 hW10 => ?_)
    refine (show Code.wp _ _ _ _ _ from ?_)
    refine wp_ret ?_
    try simp only [inBlock_ret, then_ret]
    refine bodyPost_ret (v := .int .i64 (-1)) ?_ rfl ?_
    · kernel_rfl
    · exact ⟨(int_is (by unfold cmpI; simp only [Int.ofNat_lt]; simp [*])), hW10.1⟩
set_option maxRecDepth 100000 in
set_option maxHeartbeats 4000000 in
theorem Or_any (l : List Int) (p : Option Addr) (c : Nat) (hl : l.length ≤ 4000000000) (w : World) (hp : SLV w p (l.flatMap inC)) : Calls Tryd.prog 51 #[.slice p l.length c] w fun e w' => e = .returned (.int .i64 (orI l)) ∧ Below w.heap.size w w' := by
  have HP := Lib.hid hp
  clear hp
  go_enter Tryd.func51, Tryd.ntmps51
  refine wp_seq ?_
  refine wp_region_L (W0 := w) [] (KS.start w) ?_
  refine lm (v := .int .i64 0) rfl rfl ?_
  refine wpL_done (fun W1 hW1 => ?_)
  refine (show Code.wp _ _ _ _ _ from ?_)
  refine wp_seq ?_
  refine wp_region_L (W0 := w) [] (hW1) ?_
  refine lm (v := .int .i64 0) rfl rfl ?_
  refine wpL_done (fun W2 hW2 => ?_)
  refine (show Code.wp _ _ _ _ _ from ?_)
  refine wp_seq ?_
  refine wp_seq ?_
  refine wp_region_L (W0 := w) [] (hW2) ?_
  refine lm (v := .slice p l.length c) rfl rfl ?_
  refine lp (v := .int .i64 ((l.length : Nat) : Int)) rfl rfl (run_lenL (p := p) (cap := c) (n := l.length) rfl Tryd.underlying63 (by kernel_rfl)) ?_
  refine lm (v := .int .i64 0) rfl rfl ?_
  refine wpL_done (fun W3 hW3 => ?_)
  refine (show Code.wp _ _ _ _ _ from ?_)
  refine wp_block ?_
  go_loopw [8] (fun u8 wr => ∃ (k : Nat), (k ≤ l.length) ∧ (orI l = orI (l.drop k)) ∧ u8 = .int .i64 ((k : Nat) : Int) ∧ KS w [] wr) (fun u8 _ => l.length - (intOf u8).toNat)
  case atStart => exact ⟨0, (Nat.zero_le _), rfl, rfl, (hW3.sub (fun p hp => by first | exact hp | (simp only [List.mem_cons, List.mem_append, List.nil_append, List.not_mem_nil, or_assoc, or_false, false_or] at hp ⊢ <;> grind)))⟩
  case round =>
    obtain ⟨k, hk, hR, rfl, hL4⟩ := hrel
    refine wp_seq ?_
    refine wp_region_L (W0 := w) [] (hL4) ?_
    refine lp (v := .bool (decide (k < l.length))) rfl rfl (run_bin rfl (vx := (.int .i64 ((k : Nat) : Int))) (vy := (.int .i64 ((l.length : Nat) : Int))) (by kernel_rfl) (by kernel_rfl) fun w => bn_lss rfl w) ?_
    refine wpL_done (fun W5 hW5 => ?_)
    refine (show Code.wp _ _ _ _ _ from ?_)
    refine wp_seq ?_
    cases hd1 : (decide (k < l.length)) with
    | false =>
      have h1 : ¬ (k < l.length) := of_decide_eq_false hd1
      clear hd1
      refine wp_cond_false rfl ?_
      refine wp_exit ?_
      refine (show Code.wp _ _ _ _ _ from ?_)
      refine wp_seq ?_
      refine wp_region_L (W0 := w) [] (hW5) ?_
      refine lm (v := .int .i64 0) rfl rfl ?_
      refine lm (v := .int .i64 0) rfl rfl ?_
      refine wpL_done (fun W6 hW6 => ?_)
      refine (show Code.wp _ _ _ _ _ from ?_)
      refine wp_ret ?_
      try simp only [inBlock_ret, then_ret]
      refine bodyPost_ret (v := .int .i64 0) ?_ rfl ?_
      · kernel_rfl
      · exact ⟨(int_is (by rw [hR, or_end h1])), hW6.1⟩
    | true =>
      have h1 : k < l.length := of_decide_eq_true hd1
      clear hd1
      refine wp_cond_true rfl ?_
      refine wp_skip ?_
      refine (show Code.wp _ _ _ _ _ from ?_)
      refine wp_seq ?_
      refine wp_block ?_
      refine wp_seq ?_
      refine wp_region_L (W0 := w) [] (hW5) ?_
      obtain ⟨y1, g1_, f1_, hy1, hp1, hc1⟩ := RL.at (RL.base HP.out) inC_len (by decide) (hW5.sub (fun _ h => by cases h)) (k := k) (by omega)
      refine lp (v := .pointer (some ⟨g1_, f1_ + k * 1, none⟩)) rfl rfl (run_idxQ (p := p) (cap := c) (n := l.length) (j := .i64) (k := k) (sz := 1) rfl Tryd.underlying63 (by kernel_rfl) (by kernel_rfl) hp1 (by kernel_rfl) (by omega)) ?_
      refine lv (v := .int .i64 y1) rfl rfl (yb_rf (v := .int .i64 y1) rfl (by kernel_rfl) (fun W hW => hc1 W (hW.sub (fun _ h => by cases h)) 0 _ rfl) Tryd.underlying3 rfl) ?_
      refine lm (v := .int .i64 y1) rfl rfl ?_
      refine wpL_done (fun W7 hW7 => ?_)
      refine (show Code.wp _ _ _ _ _ from ?_)
      refine wp_seq ?_
      refine wp_region_L (W0 := w) [] (hW7) ?_
      refine lm (v := .int .i64 y1) rfl rfl ?_
      refine lm (v := .int .i64 0) rfl rfl ?_
      refine lp (v := .bool (!(decide (y1 = 0)))) rfl rfl (run_bin rfl (vx := (.int .i64 y1)) (vy := (.int .i64 0)) (by kernel_rfl) (by kernel_rfl) fun w => bi_neq rfl w) ?_
      refine wpL_done (fun W8 hW8 => ?_)
      refine (show Code.wp _ _ _ _ _ from ?_)
      cases hd2 : (decide (y1 = 0)) with
      | false =>
        have h2 : ¬ (y1 = 0) := of_decide_eq_false hd2
        clear hd2
        refine wp_cond_true rfl ?_
        refine wp_seq ?_
        refine wp_region_L (W0 := w) [] (hW8) ?_
        refine lm (v := .int .i64 y1) rfl rfl ?_
        refine lm (v := .int .i64 y1) rfl rfl ?_
        refine wpL_done (fun W9 hW9 => ?_)
        refine (show Code.wp _ _ _ _ _ from ?_)
        refine wp_ret ?_
        try simp only [inBlock_ret, then_ret]
        refine bodyPost_ret (v := .int .i64 y1) ?_ rfl ?_
        · kernel_rfl
        · exact ⟨(int_is (by rw [hR, or_step hy1, if_neg h2])), hW9.1⟩
      | true =>
        have h2 : y1 = 0 := of_decide_eq_true hd2
        clear hd2
        refine wp_cond_false rfl ?_
        refine wp_skip ?_
        refine (show Code.wp _ _ _ _ _ from ?_)
        refine wp_region_L (W0 := w) [] (hW8) ?_
        refine lp (v := .int .i64 (((k + 1) : Nat) : Int)) rfl rfl (run_bin rfl (vx := (.int .i64 ((k : Nat) : Int))) (vy := (.int .i64 ((1 : Nat) : Int))) (by kernel_rfl) (by kernel_rfl) fun w => bn_add (z := (k + 1)) rfl (wr_i64 (by omega)) w) ?_
        refine lm (v := .int .i64 (((k + 1) : Nat) : Int)) rfl rfl ?_
        refine wpL_done (fun W10 hW10 => ?_)
        go_roundw
        case rel =>
          repeat apply Exists.intro
          exact ⟨⟨k + 1, (by omega), (by rw [hR, or_step hy1, if_pos h2]), rfl, (hW10.sub (fun p hp => by first | exact hp | (simp only [List.mem_cons, List.mem_append, List.nil_append, List.not_mem_nil, or_assoc, or_false, false_or] at hp ⊢ <;> grind)))⟩, rfl⟩
        case measure => (show l.length - (intOf (.int .i64 (((k + 1) : Nat) : Int))).toNat < l.length - (intOf (.int .i64 ((k : Nat) : Int))).toNat); simp only [intOf]; omega
set_option maxRecDepth 100000 in
set_option maxHeartbeats 4000000 in
theorem Compare_any (a b : Slt) (w : World) : Calls Tryd.prog 19 #[.agg (sltC a).toArray, .agg (sltC b).toArray] w fun e w' => e = .returned (.int .i64 (cmpS a b)) ∧ Below w.heap.size w w' := by
  go_enter Tryd.func19, Tryd.ntmps19
  refine wp_seq ?_
  refine wp_region_L (W0 := w) [] (KS.start w) ?_
  refine wpL_new (fun g => .pointer (some ⟨g, 0, none⟩)) (obi := .cells (sltC a).toArray 34 (0, 0)) rfl rfl (fun _ => by kernel_rfl) (fun _ => by simp only [List.setIfInBounds_toArray, List.set_cons_succ, List.set_cons_zero] <;> rfl) fun g1 Bg1 Fg1 => ?_
  refine wpL_new (fun g => .pointer (some ⟨g, 0, none⟩)) (obi := .cells (sltC b).toArray 34 (0, 0)) rfl rfl (fun _ => by kernel_rfl) (fun _ => by simp only [List.setIfInBounds_toArray, List.set_cons_succ, List.set_cons_zero] <;> rfl) fun g2 Bg2 Fg2 => ?_
  obtain dj3_0 : g1 ≠ g2 := by simpa only [dj_app_l, dj_app_r, dj_cons_l, dj_cons_r, dj_nil_l, dj_nil_r, dk_app, dk_cons, dk_nil, and_true, true_and, and_assoc] using (show Dk g2 [(g1, .cells (sltC a).toArray 34 (0, 0))] from Fg2)
  refine lm (v := .int .i64 0) rfl rfl ?_
  refine wpL_done (fun W1 hW1 => ?_)
  refine (show Code.wp _ _ _ _ _ from ?_)
  refine wp_seq ?_
  refine wp_region_V (W0 := w) [(g2, .cells (sltC b).toArray 34 (0, 0)), (g1, .cells (sltC a).toArray 34 (0, 0))] (by kernel_rfl) (hW1) ?_
  refine vm (i := 0) (v := .pointer (some ⟨g1, 0, none⟩)) rfl rfl rfl ?_
  refine vv (i := 1) (v := .int .i64 a.col) rfl rfl rfl (yb_cell (off := 0) rfl (by kernel_rfl) (.tail _ (.head _)) Tryd.underlying3 rfl (by kernel_rfl)) ?_
  refine vm (i := 2) (v := .pointer (some ⟨g2, 0, none⟩)) rfl rfl rfl ?_
  refine vv (i := 3) (v := .int .i64 b.col) rfl rfl rfl (yb_cell (off := 0) rfl (by kernel_rfl) (.head _) Tryd.underlying3 rfl (by kernel_rfl)) ?_
  refine vv (i := 4) (v := .int .i64 (cmpI a.col b.col)) rfl rfl rfl (yb_call (f := 52) (args := #[.int .i64 a.col, .int .i64 b.col]) (fun _ => by kernel_rfl) fun W hW => Cmp_any a.col b.col W) ?_
  refine vm (i := 5) (v := .pointer (some ⟨g1, 1, none⟩)) rfl rfl rfl ?_
  refine vv (i := 6) (v := .int .i64 a.tier) rfl rfl rfl (yb_cell (off := 1) rfl (by kernel_rfl) (.tail _ (.head _)) Tryd.underlying3 rfl (by kernel_rfl)) ?_
  refine vm (i := 7) (v := .pointer (some ⟨g2, 1, none⟩)) rfl rfl rfl ?_
  refine vv (i := 8) (v := .int .i64 b.tier) rfl rfl rfl (yb_cell (off := 1) rfl (by kernel_rfl) (.head _) Tryd.underlying3 rfl (by kernel_rfl)) ?_
  refine vv (i := 9) (v := .int .i64 (cmpI a.tier b.tier)) rfl rfl rfl (yb_call (f := 52) (args := #[.int .i64 a.tier, .int .i64 b.tier]) (fun _ => by kernel_rfl) fun W hW => Cmp_any a.tier b.tier W) ?_
  refine vm (i := 10) (v := .pointer (some ⟨g1, 2, none⟩)) rfl rfl rfl ?_
  refine vv (i := 11) (v := .int .u8 ((a.half : Nat) : Int)) rfl rfl rfl (yb_cell (off := 2) rfl (by kernel_rfl) (.tail _ (.head _)) Tryd.underlying5 rfl (by kernel_rfl)) ?_
  refine vm (i := 12) (v := .pointer (some ⟨g2, 2, none⟩)) rfl rfl rfl ?_
  refine vv (i := 13) (v := .int .u8 ((b.half : Nat) : Int)) rfl rfl rfl (yb_cell (off := 2) rfl (by kernel_rfl) (.head _) Tryd.underlying5 rfl (by kernel_rfl)) ?_
  refine vv (i := 14) (v := .int .i64 (cmpI ((a.half : Nat) : Int) ((b.half : Nat) : Int))) rfl rfl rfl (yb_call (f := 53) (args := #[.int .u8 ((a.half : Nat) : Int), .int .u8 ((b.half : Nat) : Int)]) (fun _ => by kernel_rfl) fun W hW => Cmp8_any a.half b.half W) ?_
  refine wpV_ns (fun g => .slice (some ⟨g, 0, none⟩) 3 3) (i := 15) (obi := .cells #[.int .i64 (cmpI a.col b.col), .int .i64 (cmpI a.tier b.tier), .int .i64 (cmpI ((a.half : Nat) : Int) ((b.half : Nat) : Int))] 3 (0, 0)) rfl rfl rfl (by kernel_rfl) (fun _ => by kernel_rfl) (fun _ => by simp only [List.setIfInBounds_toArray, List.set_cons_succ, List.set_cons_zero] <;> rfl) fun g4 Bg4 Fg4 => ?_
  obtain ⟨dj5_0, dj5_1⟩ : g2 ≠ g4 ∧ g1 ≠ g4 := by simpa only [dj_app_l, dj_app_r, dj_cons_l, dj_cons_r, dj_nil_l, dj_nil_r, dk_app, dk_cons, dk_nil, and_true, true_and, and_assoc] using (show Dk g4 [(g2, .cells (sltC b).toArray 34 (0, 0)), (g1, .cells (sltC a).toArray 34 (0, 0))] from Fg4)
  refine vv (i := 16) (v := .int .i64 (orI [(cmpI a.col b.col), (cmpI a.tier b.tier), (cmpI ((a.half : Nat) : Int) ((b.half : Nat) : Int))])) rfl rfl rfl (yb_call (f := 51) (args := #[.slice (some ⟨g4, 0, none⟩) 3 3]) (fun _ => by kernel_rfl) fun W hW => Or_any [(cmpI a.col b.col), (cmpI a.tier b.tier), (cmpI ((a.half : Nat) : Int) ((b.half : Nat) : Int))] (some ⟨g4, 0, none⟩) 3 (Nat.le_of_ble_eq_true rfl) W (blk_slv hW (.head _))) ?_
  refine vm (i := 17) (v := .int .i64 (orI [(cmpI a.col b.col), (cmpI a.tier b.tier), (cmpI ((a.half : Nat) : Int) ((b.half : Nat) : Int))])) rfl rfl rfl ?_
  refine wpV_done (by kernel_rfl) (fun W2 hW2 => ?_) _
  refine (show Code.wp _ _ _ _ _ from ?_)
  refine wp_ret ?_
  try simp only [inBlock_ret, then_ret]
  refine bodyPost_ret (v := .int .i64 (orI [(cmpI a.col b.col), (cmpI a.tier b.tier), (cmpI ((a.half : Nat) : Int) ((b.half : Nat) : Int))])) ?_ rfl ?_
  · kernel_rfl
  · exact ⟨rfl, hW2.1⟩
end Go.Proofs.YthpooalhibedpaaDoor
namespace Go.Proofs.YthpooalhibedpaaDoor
open Go Go.RowKit Tw
set_option maxRecDepth 100000 in
set_option maxHeartbeats 4000000 in
theorem IndexS_any (l : List Slt) (p : Option Addr) (c : Nat) (x : Slt) (hl : l.length ≤ 4000000000) (w : World) (hp : SLV w p (l.flatMap sltC)) : Calls Tryd.prog 84 #[.slice p l.length c, .agg (sltC x).toArray] w fun e w' => e = .returned (.int .i64 (fiN (fst (eqS x) l))) ∧ Below w.heap.size w w' := by
  have HP := Lib.hid hp
  clear hp
  go_enter Tryd.func84, Tryd.ntmps84
  refine wp_seq ?_
  refine wp_region_L (W0 := w) [] (KS.start w) ?_
  refine wpL_new (fun g => .pointer (some ⟨g, 0, none⟩)) (obi := .cells (sltC x).toArray 34 (0, 0)) rfl rfl (fun _ => by kernel_rfl) (fun _ => by simp only [List.setIfInBounds_toArray, List.set_cons_succ, List.set_cons_zero] <;> rfl) fun g1 Bg1 Fg1 => ?_
  refine lm (v := .int .i64 0) rfl rfl ?_
  refine wpL_done (fun W1 hW1 => ?_)
  refine (show Code.wp _ _ _ _ _ from ?_)
  refine wp_seq ?_
  refine wp_seq ?_
  refine wp_region_L (W0 := w) [(g1, .cells (sltC x).toArray 34 (0, 0))] (hW1) ?_
  refine lm (v := .slice p l.length c) rfl rfl ?_
  refine lp (v := .int .i64 ((l.length : Nat) : Int)) rfl rfl (run_lenL (p := p) (cap := c) (n := l.length) rfl Tryd.underlying35 (by kernel_rfl)) ?_
  refine lm (v := .int .i64 0) rfl rfl ?_
  refine wpL_done (fun W2 hW2 => ?_)
  refine (show Code.wp _ _ _ _ _ from ?_)
  refine wp_block ?_
  go_loopw [8] (fun u8 wr => ∃ (k : Nat), (k ≤ l.length) ∧ (fstF (eqS x) 0 (l.take k) = none) ∧ u8 = .int .i64 ((k : Nat) : Int) ∧ KS w [(g1, .cells (sltC x).toArray 34 (0, 0))] wr) (fun u8 _ => l.length - (intOf u8).toNat)
  case atStart => exact ⟨0, (Nat.zero_le _), fst_zero, rfl, (hW2.sub (fun p hp => by first | exact hp | (simp only [List.mem_cons, List.mem_append, List.nil_append, List.not_mem_nil, or_assoc, or_false, false_or] at hp ⊢ <;> grind)))⟩
  case round =>
    obtain ⟨k, hk, hF, rfl, hL3⟩ := hrel
    refine wp_seq ?_
    refine wp_region_L (W0 := w) [(g1, .cells (sltC x).toArray 34 (0, 0))] (hL3) ?_
    refine lp (v := .bool (decide (k < l.length))) rfl rfl (run_bin rfl (vx := (.int .i64 ((k : Nat) : Int))) (vy := (.int .i64 ((l.length : Nat) : Int))) (by kernel_rfl) (by kernel_rfl) fun w => bn_lss rfl w) ?_
    refine wpL_done (fun W4 hW4 => ?_)
    refine (show Code.wp _ _ _ _ _ from ?_)
    refine wp_seq ?_
    cases hd1 : (decide (k < l.length)) with
    | false =>
      have h1 : ¬ (k < l.length) := of_decide_eq_false hd1
      clear hd1
      refine wp_cond_false rfl ?_
      refine wp_exit ?_
      refine (show Code.wp _ _ _ _ _ from ?_)
      refine wp_seq ?_
      refine wp_region_L (W0 := w) [(g1, .cells (sltC x).toArray 34 (0, 0))] (hW4) ?_
      refine lm (v := .int .i64 (-1)) rfl rfl ?_
      refine wpL_done (fun W5 hW5 => ?_)
      refine (show Code.wp _ _ _ _ _ from ?_)
      refine wp_ret ?_
      try simp only [inBlock_ret, then_ret]
      refine bodyPost_ret (v := .int .i64 (-1)) ?_ rfl ?_
      · kernel_rfl
      · exact ⟨(int_is (by rw [fst_end hF h1]; rfl)), hW5.1⟩
    | true =>
      have h1 : k < l.length := of_decide_eq_true hd1
      clear hd1
      refine wp_cond_true rfl ?_
      refine wp_skip ?_
      refine (show Code.wp _ _ _ _ _ from ?_)
      refine wp_seq ?_
      refine wp_block ?_
      refine wp_seq ?_
      refine wp_region_L (W0 := w) [(g1, .cells (sltC x).toArray 34 (0, 0))] (hW4) ?_
      refine lm (v := .int .i64 ((k : Nat) : Int)) rfl rfl ?_
      refine lm (v := .int .i64 ((k : Nat) : Int)) rfl rfl ?_
      refine wpL_done (fun W6 hW6 => ?_)
      refine (show Code.wp _ _ _ _ _ from ?_)
      refine wp_seq ?_
      refine wp_region_V (W0 := w) [(g1, .cells (sltC x).toArray 34 (0, 0))] (by kernel_rfl) (hW6) ?_
      refine vv (i := 0) (v := .agg (sltC x).toArray) rfl rfl rfl (yb_load (n := 3) (off := 0) rfl (by kernel_rfl) (.head _) Tryd.underlying34 rfl (by kernel_rfl) (by first | (simp [Value.cells]; done) | exact Nat.le_of_ble_eq_true rfl) (by kernel_rfl)) ?_
      refine vm (i := 1) (v := .slice p l.length c) rfl rfl rfl ?_
      refine vm (i := 2) (v := .int .i64 ((k : Nat) : Int)) rfl rfl rfl ?_
      obtain ⟨y2, g2_, f2_, hy2, hp2, hc2⟩ := RL.at (RL.base HP.out) sltC_len (by decide) (hW6.sub (fun _ h => by cases h)) (k := k) (by omega)
      refine vp (i := 3) (v := .pointer (some ⟨g2_, f2_ + k * 3, none⟩)) rfl rfl rfl (run_idxQ (p := p) (cap := c) (n := l.length) (j := .i64) (k := k) (sz := 3) rfl Tryd.underlying35 (by kernel_rfl) (by kernel_rfl) hp2 (by kernel_rfl) (by omega)) ?_
      refine vb (i := 4) (v := .agg (sltC y2).toArray) rfl rfl rfl (yb_rs (off := f2_ + k * 3) (cs := sltC y2) rfl (by kernel_rfl) (fun W hW => hc2 W (hW.sub (fun _ h => by cases h))) Tryd.underlying34 rfl (by kernel_rfl)) ?_
      refine vp (i := 5) (v := .bool (eqS x y2)) rfl rfl rfl (run_bin rfl (vx := .agg (sltC x).toArray) (vy := .agg (sltC y2).toArray) (by kernel_rfl) (by kernel_rfl) fun w => eq_slt w) ?_
      refine wpV_done (by kernel_rfl) (fun W7 hW7 => ?_) _
      refine (show Code.wp _ _ _ _ _ from ?_)
      cases h2 : (eqS x y2) with
      | false =>
        refine wp_cond_false rfl ?_
        refine wp_skip ?_
        refine (show Code.wp _ _ _ _ _ from ?_)
        refine wp_region_L (W0 := w) [(g1, .cells (sltC x).toArray 34 (0, 0))] (hW7) ?_
        refine lp (v := .int .i64 (((k + 1) : Nat) : Int)) rfl rfl (run_bin rfl (vx := (.int .i64 ((k : Nat) : Int))) (vy := (.int .i64 ((1 : Nat) : Int))) (by kernel_rfl) (by kernel_rfl) fun w => bn_add (z := (k + 1)) rfl (wr_i64 (by omega)) w) ?_
        refine lm (v := .int .i64 (((k + 1) : Nat) : Int)) rfl rfl ?_
        refine wpL_done (fun W8 hW8 => ?_)
        go_roundw
        case rel =>
          repeat apply Exists.intro
          exact ⟨⟨k + 1, (by omega), (fst_next hF hy2 h2), rfl, (hW8.sub (fun p hp => by first | exact hp | (simp only [List.mem_cons, List.mem_append, List.nil_append, List.not_mem_nil, or_assoc, or_false, false_or] at hp ⊢ <;> grind)))⟩, rfl⟩
        case measure => (show l.length - (intOf (.int .i64 (((k + 1) : Nat) : Int))).toNat < l.length - (intOf (.int .i64 ((k : Nat) : Int))).toNat); simp only [intOf]; omega
      | true =>
        refine wp_cond_true rfl ?_
        refine wp_seq ?_
        refine wp_region_L (W0 := w) [(g1, .cells (sltC x).toArray 34 (0, 0))] (hW7) ?_
        refine lm (v := .int .i64 ((k : Nat) : Int)) rfl rfl ?_
        refine lm (v := .int .i64 ((k : Nat) : Int)) rfl rfl ?_
        refine wpL_done (fun W9 hW9 => ?_)
        refine (show Code.wp _ _ _ _ _ from ?_)
        refine wp_ret ?_
        try simp only [inBlock_ret, then_ret]
        refine bodyPost_ret (v := .int .i64 ((k : Nat) : Int)) ?_ rfl ?_
        · kernel_rfl
        · exact ⟨(int_is (by rw [fst_here hF hy2 h2]; rfl)), hW9.1⟩
set_option maxRecDepth 100000 in
set_option maxHeartbeats 4000000 in
theorem ContainsS_any (l : List Slt) (p : Option Addr) (c : Nat) (x : Slt) (hl : l.length ≤ 4000000000) (w : World) (hp : SLV w p (l.flatMap sltC)) : Calls Tryd.prog 58 #[.slice p l.length c, .agg (sltC x).toArray] w fun e w' => e = .returned (.bool (fst (eqS x) l).isSome) ∧ Below w.heap.size w w' := by
  have HP := Lib.hid hp
  clear hp
  go_enter Tryd.func58, Tryd.ntmps58
  refine wp_seq ?_
  refine wp_region_L (W0 := w) [] (KS.start w) ?_
  refine wpL_new (fun g => .pointer (some ⟨g, 0, none⟩)) (obi := .cells (sltC x).toArray 34 (0, 0)) rfl rfl (fun _ => by kernel_rfl) (fun _ => by simp only [List.setIfInBounds_toArray, List.set_cons_succ, List.set_cons_zero] <;> rfl) fun g1 Bg1 Fg1 => ?_
  refine lm (v := .bool false) rfl rfl ?_
  refine wpL_done (fun W1 hW1 => ?_)
  refine (show Code.wp _ _ _ _ _ from ?_)
  refine wp_seq ?_
  refine wp_region_L (W0 := w) [(g1, .cells (sltC x).toArray 34 (0, 0))] (hW1) ?_
  refine lm (v := .slice p l.length c) rfl rfl ?_
  refine lv (v := .agg (sltC x).toArray) rfl rfl (yb_load (n := 3) (off := 0) rfl (by kernel_rfl) (.head _) Tryd.underlying34 rfl (by kernel_rfl) (by first | (simp [Value.cells]; done) | exact Nat.le_of_ble_eq_true rfl) (by kernel_rfl)) ?_
  refine lv (v := .int .i64 (fiN (fst (eqS x) l))) rfl rfl (yb_call (f := 84) (args := #[.slice p l.length c, .agg (sltC x).toArray]) (fun _ => by kernel_rfl) fun W hW => IndexS_any l p c x (by omega) W ((RL.base HP.out) _ (hW.sub (fun _ h => by cases h)))) ?_
  refine lp (v := .bool (!(decide ((fiN (fst (eqS x) l)) < 0)))) rfl rfl (run_bin rfl (vx := (.int .i64 (fiN (fst (eqS x) l)))) (vy := (.int .i64 0)) (by kernel_rfl) (by kernel_rfl) fun w => bi_geq rfl w) ?_
  refine lm (v := .bool (!(decide ((fiN (fst (eqS x) l)) < 0)))) rfl rfl ?_
  refine wpL_done (fun W2 hW2 => ?_)
  refine (show Code.wp _ _ _ _ _ from ?_)
  refine wp_ret ?_
  try simp only [inBlock_ret, then_ret]
  refine bodyPost_ret (v := .bool (!(decide ((fiN (fst (eqS x) l)) < 0)))) ?_ rfl ?_
  · kernel_rfl
  · exact ⟨(bool_is (fi_ge _)), hW2.1⟩
set_option maxRecDepth 100000 in
set_option maxHeartbeats 4000000 in
theorem IndexU_any (l : List Nat) (p : Option Addr) (c : Nat) (x : Nat) (hl : l.length ≤ 4000000000) (w : World) (hp : SLV w p (l.flatMap u8C)) : Calls Tryd.prog 80 #[.slice p l.length c, .int .u8 ((x : Nat) : Int)] w fun e w' => e = .returned (.int .i64 (fiN (fst (fun m => decide (x = m)) l))) ∧ Below w.heap.size w w' := by
  have HP := Lib.hid hp
  clear hp
  go_enter Tryd.func80, Tryd.ntmps80
  refine wp_seq ?_
  refine wp_region_L (W0 := w) [] (KS.start w) ?_
  refine lm (v := .int .i64 0) rfl rfl ?_
  refine wpL_done (fun W1 hW1 => ?_)
  refine (show Code.wp _ _ _ _ _ from ?_)
  refine wp_seq ?_
  refine wp_seq ?_
  refine wp_region_L (W0 := w) [] (hW1) ?_
  refine lm (v := .slice p l.length c) rfl rfl ?_
  refine lp (v := .int .i64 ((l.length : Nat) : Int)) rfl rfl (run_lenL (p := p) (cap := c) (n := l.length) rfl Tryd.underlying78 (by kernel_rfl)) ?_
  refine lm (v := .int .i64 0) rfl rfl ?_
  refine wpL_done (fun W2 hW2 => ?_)
  refine (show Code.wp _ _ _ _ _ from ?_)
  refine wp_block ?_
  go_loopw [8] (fun u8 wr => ∃ (k : Nat), (k ≤ l.length) ∧ (fstF (fun m => decide (x = m)) 0 (l.take k) = none) ∧ u8 = .int .i64 ((k : Nat) : Int) ∧ KS w [] wr) (fun u8 _ => l.length - (intOf u8).toNat)
  case atStart => exact ⟨0, (Nat.zero_le _), fst_zero, rfl, (hW2.sub (fun p hp => by first | exact hp | (simp only [List.mem_cons, List.mem_append, List.nil_append, List.not_mem_nil, or_assoc, or_false, false_or] at hp ⊢ <;> grind)))⟩
  case round =>
    obtain ⟨k, hk, hF, rfl, hL3⟩ := hrel
    refine wp_seq ?_
    refine wp_region_L (W0 := w) [] (hL3) ?_
    refine lp (v := .bool (decide (k < l.length))) rfl rfl (run_bin rfl (vx := (.int .i64 ((k : Nat) : Int))) (vy := (.int .i64 ((l.length : Nat) : Int))) (by kernel_rfl) (by kernel_rfl) fun w => bn_lss rfl w) ?_
    refine wpL_done (fun W4 hW4 => ?_)
    refine (show Code.wp _ _ _ _ _ from ?_)
    refine wp_seq ?_
    cases hd1 : (decide (k < l.length)) with
    | false =>
      have h1 : ¬ (k < l.length) := of_decide_eq_false hd1
      clear hd1
      refine wp_cond_false rfl ?_
      refine wp_exit ?_
      refine (show Code.wp _ _ _ _ _ from ?_)
      refine wp_seq ?_
      refine wp_region_L (W0 := w) [] (hW4) ?_
      refine lm (v := .int .i64 (-1)) rfl rfl ?_
      refine wpL_done (fun W5 hW5 => ?_)
      refine (show Code.wp _ _ _ _ _ from ?_)
      refine wp_ret ?_
      try simp only [inBlock_ret, then_ret]
      refine bodyPost_ret (v := .int .i64 (-1)) ?_ rfl ?_
      · kernel_rfl
      · exact ⟨(int_is (by rw [fst_end hF h1]; rfl)), hW5.1⟩
    | true =>
      have h1 : k < l.length := of_decide_eq_true hd1
      clear hd1
      refine wp_cond_true rfl ?_
      refine wp_skip ?_
      refine (show Code.wp _ _ _ _ _ from ?_)
      refine wp_seq ?_
      refine wp_block ?_
      refine wp_seq ?_
      refine wp_region_L (W0 := w) [] (hW4) ?_
      refine lm (v := .int .i64 ((k : Nat) : Int)) rfl rfl ?_
      refine lm (v := .int .i64 ((k : Nat) : Int)) rfl rfl ?_
      refine wpL_done (fun W6 hW6 => ?_)
      refine (show Code.wp _ _ _ _ _ from ?_)
      refine wp_seq ?_
      refine wp_region_L (W0 := w) [] (hW6) ?_
      refine lm (v := .int .u8 ((x : Nat) : Int)) rfl rfl ?_
      refine lm (v := .slice p l.length c) rfl rfl ?_
      refine lm (v := .int .i64 ((k : Nat) : Int)) rfl rfl ?_
      obtain ⟨y1, g1_, f1_, hy1, hp1, hc1⟩ := RL.at (RL.base HP.out) u8C_len (by decide) (hW6.sub (fun _ h => by cases h)) (k := k) (by omega)
      refine lp (v := .pointer (some ⟨g1_, f1_ + k * 1, none⟩)) rfl rfl (run_idxQ (p := p) (cap := c) (n := l.length) (j := .i64) (k := k) (sz := 1) rfl Tryd.underlying78 (by kernel_rfl) (by kernel_rfl) hp1 (by kernel_rfl) (by omega)) ?_
      refine lv (v := .int .u8 ((y1 : Nat) : Int)) rfl rfl (yb_rf (v := .int .u8 ((y1 : Nat) : Int)) rfl (by kernel_rfl) (fun W hW => hc1 W (hW.sub (fun _ h => by cases h)) 0 _ rfl) Tryd.underlying5 rfl) ?_
      refine lp (v := .bool (decide (x = y1))) rfl rfl (run_bin rfl (vx := (.int .u8 ((x : Nat) : Int))) (vy := (.int .u8 ((y1 : Nat) : Int))) (by kernel_rfl) (by kernel_rfl) fun w => bn_eql rfl w) ?_
      refine wpL_done (fun W7 hW7 => ?_)
      refine (show Code.wp _ _ _ _ _ from ?_)
      cases hd2 : (decide (x = y1)) with
      | false =>
        have h2 : ¬ (x = y1) := of_decide_eq_false hd2
        clear hd2
        refine wp_cond_false rfl ?_
        refine wp_skip ?_
        refine (show Code.wp _ _ _ _ _ from ?_)
        refine wp_region_L (W0 := w) [] (hW7) ?_
        refine lp (v := .int .i64 (((k + 1) : Nat) : Int)) rfl rfl (run_bin rfl (vx := (.int .i64 ((k : Nat) : Int))) (vy := (.int .i64 ((1 : Nat) : Int))) (by kernel_rfl) (by kernel_rfl) fun w => bn_add (z := (k + 1)) rfl (wr_i64 (by omega)) w) ?_
        refine lm (v := .int .i64 (((k + 1) : Nat) : Int)) rfl rfl ?_
        refine wpL_done (fun W8 hW8 => ?_)
        go_roundw
        case rel =>
          repeat apply Exists.intro
          exact ⟨⟨k + 1, (by omega), (fst_next hF hy1 (decide_eq_false h2)), rfl, (hW8.sub (fun p hp => by first | exact hp | (simp only [List.mem_cons, List.mem_append, List.nil_append, List.not_mem_nil, or_assoc, or_false, false_or] at hp ⊢ <;> grind)))⟩, rfl⟩
        case measure => (show l.length - (intOf (.int .i64 (((k + 1) : Nat) : Int))).toNat < l.length - (intOf (.int .i64 ((k : Nat) : Int))).toNat); simp only [intOf]; omega
      | true =>
        have h2 : x = y1 := of_decide_eq_true hd2
        clear hd2
        refine wp_cond_true rfl ?_
        refine wp_seq ?_
        refine wp_region_L (W0 := w) [] (hW7) ?_
        refine lm (v := .int .i64 ((k : Nat) : Int)) rfl rfl ?_
        refine lm (v := .int .i64 ((k : Nat) : Int)) rfl rfl ?_
        refine wpL_done (fun W9 hW9 => ?_)
        refine (show Code.wp _ _ _ _ _ from ?_)
        refine wp_ret ?_
        try simp only [inBlock_ret, then_ret]
        refine bodyPost_ret (v := .int .i64 ((k : Nat) : Int)) ?_ rfl ?_
        · kernel_rfl
        · exact ⟨(int_is (by rw [fst_here hF hy1 (decide_eq_true h2)]; rfl)), hW9.1⟩
set_option maxRecDepth 100000 in
set_option maxHeartbeats 4000000 in
theorem ContainsU_any (l : List Nat) (p : Option Addr) (c : Nat) (x : Nat) (hl : l.length ≤ 4000000000) (w : World) (hp : SLV w p (l.flatMap u8C)) : Calls Tryd.prog 46 #[.slice p l.length c, .int .u8 ((x : Nat) : Int)] w fun e w' => e = .returned (.bool (fst (fun m => decide (x = m)) l).isSome) ∧ Below w.heap.size w w' := by
  have HP := Lib.hid hp
  clear hp
  go_enter Tryd.func46, Tryd.ntmps46
  refine wp_seq ?_
  refine wp_region_L (W0 := w) [] (KS.start w) ?_
  refine lm (v := .bool false) rfl rfl ?_
  refine wpL_done (fun W1 hW1 => ?_)
  refine (show Code.wp _ _ _ _ _ from ?_)
  refine wp_seq ?_
  refine wp_region_L (W0 := w) [] (hW1) ?_
  refine lm (v := .slice p l.length c) rfl rfl ?_
  refine lm (v := .int .u8 ((x : Nat) : Int)) rfl rfl ?_
  refine lv (v := .int .i64 (fiN (fst (fun m => decide (x = m)) l))) rfl rfl (yb_call (f := 80) (args := #[.slice p l.length c, .int .u8 ((x : Nat) : Int)]) (fun _ => by kernel_rfl) fun W hW => IndexU_any l p c x (by omega) W ((RL.base HP.out) _ (hW.sub (fun _ h => by cases h)))) ?_
  refine lp (v := .bool (!(decide ((fiN (fst (fun m => decide (x = m)) l)) < 0)))) rfl rfl (run_bin rfl (vx := (.int .i64 (fiN (fst (fun m => decide (x = m)) l)))) (vy := (.int .i64 0)) (by kernel_rfl) (by kernel_rfl) fun w => bi_geq rfl w) ?_
  refine lm (v := .bool (!(decide ((fiN (fst (fun m => decide (x = m)) l)) < 0)))) rfl rfl ?_
  refine wpL_done (fun W2 hW2 => ?_)
  refine (show Code.wp _ _ _ _ _ from ?_)
  refine wp_ret ?_
  try simp only [inBlock_ret, then_ret]
  refine bodyPost_ret (v := .bool (!(decide ((fiN (fst (fun m => decide (x = m)) l)) < 0)))) ?_ rfl ?_
  · kernel_rfl
  · exact ⟨(bool_is (fi_ge _)), hW2.1⟩
set_option maxRecDepth 100000 in
set_option maxHeartbeats 4000000 in
theorem halves_any (z : Nat) (w : World) : Calls Tryd.prog 47 #[.int .u8 ((z : Nat) : Int)] w fun e w' => ∃ v, e = .returned v ∧ OutV w w' 5 1 v (hsX z).length ((hsX z).flatMap u8C) ∧ Below w.heap.size w w' := by
  go_enter Tryd.func47, Tryd.ntmps47
  refine wp_seq ?_
  refine wp_region_L (W0 := w) [] (KS.start w) ?_
  refine lm (v := .slice none 0 0) rfl rfl ?_
  refine wpL_done (fun W1 hW1 => ?_)
  refine (show Code.wp _ _ _ _ _ from ?_)
  refine wp_seq ?_
  refine wp_seq ?_
  refine wp_region_L (W0 := w) [] (hW1) ?_
  refine lm (v := .int .u8 ((z : Nat) : Int)) rfl rfl ?_
  refine wpL_done (fun W2 hW2 => ?_)
  refine (show Code.wp _ _ _ _ _ from ?_)
  refine wp_block ?_
  refine wp_seq ?_
  refine wp_region_L (W0 := w) [] (hW2) ?_
  refine lp (v := .bool (decide (z = 20))) rfl rfl (run_bin rfl (vx := (.int .u8 ((z : Nat) : Int))) (vy := (.int .u8 ((20 : Nat) : Int))) (by kernel_rfl) (by kernel_rfl) fun w => bn_eql rfl w) ?_
  refine lm (v := .bool (decide (z = 20))) rfl rfl ?_
  refine wpL_done (fun W3 hW3 => ?_)
  refine (show Code.wp _ _ _ _ _ from ?_)
  cases hd1 : (decide (z = 20)) with
  | false =>
    have h1 : ¬ (z = 20) := of_decide_eq_false hd1
    clear hd1
    refine wp_cond_false rfl ?_
    refine wp_seq ?_
    refine wp_region_L (W0 := w) [] (hW3) ?_
    refine lp (v := .bool (decide (z = 40))) rfl rfl (run_bin rfl (vx := (.int .u8 ((z : Nat) : Int))) (vy := (.int .u8 ((40 : Nat) : Int))) (by kernel_rfl) (by kernel_rfl) fun w => bn_eql rfl w) ?_
    refine lm (v := .bool (decide (z = 40))) rfl rfl ?_
    refine wpL_done (fun W4 hW4 => ?_)
    refine (show Code.wp _ _ _ _ _ from ?_)
    cases hd2 : (decide (z = 40)) with
    | false =>
      have h2 : ¬ (z = 40) := of_decide_eq_false hd2
      clear hd2
      refine wp_cond_false rfl ?_
      refine wp_skip ?_
      refine (show Code.wp _ _ _ _ _ from ?_)
      refine wp_seq ?_
      refine wp_region_L (W0 := w) [] (hW4) ?_
      refine lm (v := .slice none 0 0) rfl rfl ?_
      refine wpL_done (fun W5 hW5 => ?_)
      refine (show Code.wp _ _ _ _ _ from ?_)
      refine wp_ret ?_
      try simp only [inBlock_ret, then_ret]
      refine bodyPost_ret (v := .slice none 0 0) ?_ rfl ?_
      · kernel_rfl
      · exact ⟨_, rfl, by rw [(show hsX z = [] from by unfold hsX; rw [if_neg h1, if_neg h2])]; exact .inl ⟨rfl, rfl, rfl⟩, hW5.1⟩
    | true =>
      have h2 : z = 40 := of_decide_eq_true hd2
      clear hd2
      refine wp_cond_true rfl ?_
      refine wp_seq ?_
      refine wp_region_L (W0 := w) [] (hW4) ?_
      refine wpL_new (fun g => .slice (some ⟨g, 0, none⟩) 1 1) (obi := .cells #[.int .u8 0] 5 (0, 0)) rfl rfl (fun _ => by kernel_rfl) (fun _ => by simp only [List.setIfInBounds_toArray, List.set_cons_succ, List.set_cons_zero] <;> rfl) fun g1 Bg1 Fg1 => ?_
      refine lm (v := .slice (some ⟨g1, 0, none⟩) 1 1) rfl rfl ?_
      refine wpL_done (fun W6 hW6 => ?_)
      refine (show Code.wp _ _ _ _ _ from ?_)
      refine wp_ret ?_
      try simp only [inBlock_ret, then_ret]
      refine bodyPost_ret (v := .slice (some ⟨g1, 0, none⟩) 1 1) ?_ rfl ?_
      · kernel_rfl
      · exact ⟨_, rfl, by rw [(show hsX z = [0] from by unfold hsX; rw [if_neg h1, if_pos h2])]; exact blk_out (l := [0]) u8C_len hW6 (.head _) (by assumption) (by decide), hW6.1⟩
  | true =>
    have h1 : z = 20 := of_decide_eq_true hd1
    clear hd1
    refine wp_cond_true rfl ?_
    refine wp_seq ?_
    refine wp_region_L (W0 := w) [] (hW3) ?_
    refine wpL_new (fun g => .slice (some ⟨g, 0, none⟩) 2 2) (obi := .cells #[.int .u8 1, .int .u8 2] 5 (0, 0)) rfl rfl (fun _ => by kernel_rfl) (fun _ => by simp only [List.setIfInBounds_toArray, List.set_cons_succ, List.set_cons_zero] <;> rfl) fun g2 Bg2 Fg2 => ?_
    refine lm (v := .slice (some ⟨g2, 0, none⟩) 2 2) rfl rfl ?_
    refine wpL_done (fun W7 hW7 => ?_)
    refine (show Code.wp _ _ _ _ _ from ?_)
    refine wp_ret ?_
    try simp only [inBlock_ret, then_ret]
    refine bodyPost_ret (v := .slice (some ⟨g2, 0, none⟩) 2 2) ?_ rfl ?_
    · kernel_rfl
    · exact ⟨_, rfl, by rw [(show hsX z = [1, 2] from by unfold hsX; rw [if_pos h1])]; exact blk_out (l := [1, 2]) u8C_len hW7 (.head _) (by assumption) (by decide), hW7.1⟩
set_option maxRecDepth 100000 in
set_option maxHeartbeats 4000000 in
theorem exists_any (cs : List Col) (pc : Option Addr) (cc : Nat) (lc : cs.length ≤ 4000000000) (os : List Cov) (po : Option Addr) (co : Nat) (lo : os.length ≤ 4000000000) (t : Tl) (n t0 : Int) (w : World) (hc : SLV w pc (cs.flatMap colC)) (ho : SLV w po (os.flatMap covC)) : Calls Tryd.prog 45 #[.agg (shC (.slice pc cs.length cc) (.slice po os.length co) t).toArray, .int .i64 n, .int .i64 t0] w fun e w' => e = .returned (.bool (exS cs n t0)) ∧ Below w.heap.size w w' := by
  have HC := Lib.hid hc
  clear hc
  have HO := Lib.hid ho
  clear ho
  go_enter Tryd.func45, Tryd.ntmps45
  refine wp_seq ?_
  refine wp_region_L (W0 := w) [] (KS.start w) ?_
  refine wpL_new (fun g => .pointer (some ⟨g, 0, none⟩)) (obi := .cells (shC (.slice pc cs.length cc) (.slice po os.length co) t).toArray 32 (0, 0)) rfl rfl (fun _ => by kernel_rfl) (fun _ => by simp only [List.setIfInBounds_toArray, List.set_cons_succ, List.set_cons_zero] <;> rfl) fun g1 Bg1 Fg1 => ?_
  refine lm (v := .bool false) rfl rfl ?_
  refine wpL_done (fun W1 hW1 => ?_)
  refine (show Code.wp _ _ _ _ _ from ?_)
  refine wp_seq ?_
  refine wp_region_L (W0 := w) [(g1, .cells (shC (.slice pc cs.length cc) (.slice po os.length co) t).toArray 32 (0, 0))] (hW1) ?_
  refine lm (v := .int .i64 n) rfl rfl ?_
  refine lp (v := .bool (!(decide (n < 0)))) rfl rfl (run_bin rfl (vx := (.int .i64 n)) (vy := (.int .i64 0)) (by kernel_rfl) (by kernel_rfl) fun w => bi_geq rfl w) ?_
  refine lm (v := .bool (!(decide (n < 0)))) rfl rfl ?_
  cases hd1 : (decide (n < 0)) with
  | false =>
    have h1 : ¬ (n < 0) := of_decide_eq_false hd1
    clear hd1
    refine lm (v := .int .i64 n) rfl rfl ?_
    refine lm (v := .pointer (some ⟨g1, 0, none⟩)) rfl rfl ?_
    refine lv (v := .slice pc cs.length cc) rfl rfl (yb_cell (off := 0) rfl (by kernel_rfl) (.head _) Tryd.underlying22 rfl (by kernel_rfl)) ?_
    refine lp (v := .int .i64 ((cs.length : Nat) : Int)) rfl rfl (run_lenL (p := pc) (cap := cc) (n := cs.length) rfl Tryd.underlying22 (by kernel_rfl)) ?_
    refine lp (v := .bool (decide (n < ((cs.length : Nat) : Int)))) rfl rfl (run_bin rfl (vx := (.int .i64 n)) (vy := (.int .i64 ((cs.length : Nat) : Int))) (by kernel_rfl) (by kernel_rfl) fun w => bi_lss rfl w) ?_
    refine lm (v := .bool (decide (n < ((cs.length : Nat) : Int)))) rfl rfl ?_
    refine lm (v := .bool (decide (n < ((cs.length : Nat) : Int)))) rfl rfl ?_
    cases hd2 : (decide (n < ((cs.length : Nat) : Int))) with
    | false =>
      have h2 : ¬ (n < ((cs.length : Nat) : Int)) := of_decide_eq_false hd2
      clear hd2
      refine ln rfl ?_
      refine ln rfl ?_
      refine lm (v := .bool false) rfl rfl ?_
      refine lm (v := .bool false) rfl rfl ?_
      refine ln rfl ?_
      refine ln rfl ?_
      refine ln rfl ?_
      refine ln rfl ?_
      refine ln rfl ?_
      refine ln rfl ?_
      refine ln rfl ?_
      refine ln rfl ?_
      refine lm (v := .bool false) rfl rfl ?_
      refine lm (v := .bool false) rfl rfl ?_
      refine wpL_done (fun W2 hW2 => ?_)
      refine (show Code.wp _ _ _ _ _ from ?_)
      refine wp_ret ?_
      try simp only [inBlock_ret, then_ret]
      refine bodyPost_ret (v := .bool false) ?_ rfl ?_
      · kernel_rfl
      · exact ⟨(bool_is (by unfold exS; rw [(el_big (d := col0) (l := cs) h1 h2).1]; rfl)), hW2.1⟩
    | true =>
      have h2 : n < ((cs.length : Nat) : Int) := of_decide_eq_true hd2
      clear hd2
      refine lm (v := .int .i64 t0) rfl rfl ?_
      refine lp (v := .bool (!(decide (t0 < 0)))) rfl rfl (run_bin rfl (vx := (.int .i64 t0)) (vy := (.int .i64 0)) (by kernel_rfl) (by kernel_rfl) fun w => bi_geq rfl w) ?_
      refine lm (v := .bool (!(decide (t0 < 0)))) rfl rfl ?_
      refine lm (v := .bool (!(decide (t0 < 0)))) rfl rfl ?_
      cases hd3 : (decide (t0 < 0)) with
      | false =>
        have h3 : ¬ (t0 < 0) := of_decide_eq_false hd3
        clear hd3
        refine lm (v := .int .i64 t0) rfl rfl ?_
        refine lm (v := .pointer (some ⟨g1, 0, none⟩)) rfl rfl ?_
        refine lv (v := .slice pc cs.length cc) rfl rfl (yb_cell (off := 0) rfl (by kernel_rfl) (.head _) Tryd.underlying22 rfl (by kernel_rfl)) ?_
        refine lm (v := .int .i64 n) rfl rfl ?_
        obtain ⟨m, hm⟩ : ∃ m : Nat, n = (m : Int) := ⟨n.toNat, by omega⟩
        subst hm
        obtain ⟨y2, g2_, f2_, hy2, hp2, hc2⟩ := RL.at (RL.base HC.out) colC_len (by decide) (hW1.sub (fun _ h => by cases h)) (k := m) (by omega)
        refine lp (v := .pointer (some ⟨g2_, f2_ + m * 12, none⟩)) rfl rfl (run_idxQ (p := pc) (cap := cc) (n := cs.length) (j := .i64) (k := m) (sz := 12) rfl Tryd.underlying22 (by kernel_rfl) (by kernel_rfl) hp2 (by kernel_rfl) (by omega)) ?_
        refine lm (v := .pointer (some ⟨g2_, f2_ + m * 12 + 3, none⟩)) rfl rfl ?_
        refine lv (v := .int .i64 y2.tiers) rfl rfl (yb_rf (v := .int .i64 y2.tiers) rfl (by kernel_rfl) (fun W hW => hc2 W (hW.sub (fun _ h => by cases h)) 3 _ rfl) Tryd.underlying3 rfl) ?_
        refine lp (v := .bool (decide (t0 < y2.tiers))) rfl rfl (run_bin rfl (vx := (.int .i64 t0)) (vy := (.int .i64 y2.tiers)) (by kernel_rfl) (by kernel_rfl) fun w => bi_lss rfl w) ?_
        refine lm (v := .bool (decide (t0 < y2.tiers))) rfl rfl ?_
        refine lm (v := .bool (decide (t0 < y2.tiers))) rfl rfl ?_
        refine wpL_done (fun W3 hW3 => ?_)
        refine (show Code.wp _ _ _ _ _ from ?_)
        refine wp_ret ?_
        try simp only [inBlock_ret, then_ret]
        refine bodyPost_ret (v := .bool (decide (t0 < y2.tiers))) ?_ rfl ?_
        · kernel_rfl
        · exact ⟨(bool_is (by unfold exS; obtain ⟨h8, h9⟩ := el_in (d := col0) (l := cs) h1 (show cs[((m : Nat) : Int).toNat]? = some _ from hy2); rw [h8, h9]; simp [h3])), hW3.1⟩
      | true =>
        have h3 : t0 < 0 := of_decide_eq_true hd3
        clear hd3
        refine ln rfl ?_
        refine ln rfl ?_
        refine ln rfl ?_
        refine ln rfl ?_
        refine ln rfl ?_
        refine ln rfl ?_
        refine ln rfl ?_
        refine ln rfl ?_
        refine lm (v := .bool false) rfl rfl ?_
        refine lm (v := .bool false) rfl rfl ?_
        refine wpL_done (fun W4 hW4 => ?_)
        refine (show Code.wp _ _ _ _ _ from ?_)
        refine wp_ret ?_
        try simp only [inBlock_ret, then_ret]
        refine bodyPost_ret (v := .bool false) ?_ rfl ?_
        · kernel_rfl
        · exact ⟨(bool_is (by unfold exS; simp [h3])), hW4.1⟩
  | true =>
    have h1 : n < 0 := of_decide_eq_true hd1
    clear hd1
    refine ln rfl ?_
    refine ln rfl ?_
    refine ln rfl ?_
    refine ln rfl ?_
    refine ln rfl ?_
    refine lm (v := .bool false) rfl rfl ?_
    refine lm (v := .bool false) rfl rfl ?_
    refine ln rfl ?_
    refine ln rfl ?_
    refine lm (v := .bool false) rfl rfl ?_
    refine lm (v := .bool false) rfl rfl ?_
    refine ln rfl ?_
    refine ln rfl ?_
    refine ln rfl ?_
    refine ln rfl ?_
    refine ln rfl ?_
    refine ln rfl ?_
    refine ln rfl ?_
    refine ln rfl ?_
    refine lm (v := .bool false) rfl rfl ?_
    refine lm (v := .bool false) rfl rfl ?_
    refine wpL_done (fun W5 hW5 => ?_)
    refine (show Code.wp _ _ _ _ _ from ?_)
    refine wp_ret ?_
    try simp only [inBlock_ret, then_ret]
    refine bodyPost_ret (v := .bool false) ?_ rfl ?_
    · kernel_rfl
    · exact ⟨(bool_is (by unfold exS; rw [(el_neg (d := col0) (l := cs) h1).1]; rfl)), hW5.1⟩
set_option maxRecDepth 100000 in
set_option maxHeartbeats 4000000 in
theorem SRight_any (cs : List Col) (pc : Option Addr) (cc : Nat) (lc : cs.length ≤ 4000000000) (os : List Cov) (po : Option Addr) (co : Nat) (lo : os.length ≤ 4000000000) (t : Tl) (x : Slt) (z : Nat) (w : World) (hc : SLV w pc (cs.flatMap colC)) (ho : SLV w po (os.flatMap covC)) : Calls Tryd.prog 14 #[.agg (shC (.slice pc cs.length cc) (.slice po os.length co) t).toArray, .agg (sltC x).toArray, .int .u8 ((z : Nat) : Int)] w fun e w' => e = .returned (.bool (rightS cs x z)) ∧ Below w.heap.size w w' := by
  have HC := Lib.hid hc
  clear hc
  have HO := Lib.hid ho
  clear ho
  go_enter Tryd.func14, Tryd.ntmps14
  refine wp_seq ?_
  refine wp_region_L (W0 := w) [] (KS.start w) ?_
  refine wpL_new (fun g => .pointer (some ⟨g, 0, none⟩)) (obi := .cells (shC (.slice pc cs.length cc) (.slice po os.length co) t).toArray 32 (0, 0)) rfl rfl (fun _ => by kernel_rfl) (fun _ => by simp only [List.setIfInBounds_toArray, List.set_cons_succ, List.set_cons_zero] <;> rfl) fun g1 Bg1 Fg1 => ?_
  refine wpL_new (fun g => .pointer (some ⟨g, 0, none⟩)) (obi := .cells (sltC x).toArray 34 (0, 0)) rfl rfl (fun _ => by kernel_rfl) (fun _ => by simp only [List.setIfInBounds_toArray, List.set_cons_succ, List.set_cons_zero] <;> rfl) fun g2 Bg2 Fg2 => ?_
  obtain dj3_0 : g1 ≠ g2 := by simpa only [dj_app_l, dj_app_r, dj_cons_l, dj_cons_r, dj_nil_l, dj_nil_r, dk_app, dk_cons, dk_nil, and_true, true_and, and_assoc] using (show Dk g2 [(g1, .cells (shC (.slice pc cs.length cc) (.slice po os.length co) t).toArray 32 (0, 0))] from Fg2)
  refine lm (v := .bool false) rfl rfl ?_
  refine wpL_done (fun W1 hW1 => ?_)
  refine (show Code.wp _ _ _ _ _ from ?_)
  refine wp_seq ?_
  refine wp_region_V (W0 := w) [(g2, .cells (sltC x).toArray 34 (0, 0)), (g1, .cells (shC (.slice pc cs.length cc) (.slice po os.length co) t).toArray 32 (0, 0))] (by kernel_rfl) (hW1) ?_
  refine vv (i := 0) (v := .agg (shC (.slice pc cs.length cc) (.slice po os.length co) t).toArray) rfl rfl rfl (yb_load (n := 13) (off := 0) rfl (by kernel_rfl) (.tail _ (.head _)) Tryd.underlying32 rfl (by kernel_rfl) (by first | (simp [Value.cells]; done) | exact Nat.le_of_ble_eq_true rfl) (by kernel_rfl)) ?_
  refine vm (i := 1) (v := .pointer (some ⟨g2, 0, none⟩)) rfl rfl rfl ?_
  refine vv (i := 2) (v := .int .i64 x.col) rfl rfl rfl (yb_cell (off := 0) rfl (by kernel_rfl) (.head _) Tryd.underlying3 rfl (by kernel_rfl)) ?_
  refine vm (i := 3) (v := .pointer (some ⟨g2, 1, none⟩)) rfl rfl rfl ?_
  refine vv (i := 4) (v := .int .i64 x.tier) rfl rfl rfl (yb_cell (off := 1) rfl (by kernel_rfl) (.head _) Tryd.underlying3 rfl (by kernel_rfl)) ?_
  refine vv (i := 5) (v := .bool (exS cs x.col x.tier)) rfl rfl rfl (yb_call (f := 45) (args := #[.agg (shC (.slice pc cs.length cc) (.slice po os.length co) t).toArray, .int .i64 x.col, .int .i64 x.tier]) (fun _ => by kernel_rfl) fun W hW => exists_any cs pc cc (by omega) os po co (by omega) t x.col x.tier W ((RL.base HC.out) _ (hW.sub (fun _ h => by cases h))) ((RL.base HO.out) _ (hW.sub (fun _ h => by cases h)))) ?_
  refine vm (i := 6) (v := .bool (exS cs x.col x.tier)) rfl rfl rfl ?_
  cases h1 : (exS cs x.col x.tier) with
  | false =>
    refine vn (i := 7) rfl rfl ?_
    refine vn (i := 9) rfl rfl ?_
    refine vn (i := 10) rfl rfl ?_
    refine vn (i := 8) rfl rfl ?_
    refine vn (i := 11) rfl rfl ?_
    refine vm (i := 12) (v := .bool false) rfl rfl rfl ?_
    refine vm (i := 13) (v := .bool false) rfl rfl rfl ?_
    refine wpV_done (by kernel_rfl) (fun W2 hW2 => ?_) _
    refine (show Code.wp _ _ _ _ _ from ?_)
    refine wp_ret ?_
    try simp only [inBlock_ret, then_ret]
    refine bodyPost_ret (v := .bool false) ?_ rfl ?_
    · kernel_rfl
    · exact ⟨(bool_is (by unfold rightS; simp [*, hasH])), hW2.1⟩
  | true =>
    refine vm (i := 7) (v := .int .u8 ((z : Nat) : Int)) rfl rfl rfl ?_
    refine vm (i := 9) (v := .pointer (some ⟨g2, 2, none⟩)) rfl rfl rfl ?_
    refine vv (i := 10) (v := .int .u8 ((x.half : Nat) : Int)) rfl rfl rfl (yb_cell (off := 2) rfl (by kernel_rfl) (.head _) Tryd.underlying5 rfl (by kernel_rfl)) ?_
    refine wpV_c (i := 8) (OutRL u8C w [(g2, .cells (sltC x).toArray 34 (0, 0)), (g1, .cells (shC (.slice pc cs.length cc) (.slice po os.length co) t).toArray 32 (0, 0))] (hsX z)) rfl rfl (by kernel_rfl) (by kernel_rfl) (fun _ => (by kernel_rfl)) (fun W hW => calls_r hW (halves_any z W)) (fun v K9 hG => hG.sub) (fun _ => by simp only [List.setIfInBounds_toArray, List.set_cons_succ, List.set_cons_zero] <;> rfl) ?_
    rintro _ _ ⟨p4, c4, Kl4, rfl, n4, R4, N4, rfl⟩
    obtain ⟨dj5_0, dj5_1⟩ : Dk g2 Kl4 ∧ Dk g1 Kl4 := by simpa only [dj_app_l, dj_app_r, dj_cons_l, dj_cons_r, dj_nil_l, dj_nil_r, dk_app, dk_cons, dk_nil, and_true, true_and, and_assoc] using (show Dj [(g2, .cells (sltC x).toArray 34 (0, 0)), (g1, .cells (shC (.slice pc cs.length cc) (.slice po os.length co) t).toArray 32 (0, 0))] Kl4 from N4)
    refine vv (i := 11) (v := .bool ((fst (fun m => decide (x.half = m)) (hsX z)).isSome)) rfl rfl rfl (yb_call (f := 46) (args := #[.slice p4 ((hsX z).length) c4, .int .u8 ((x.half : Nat) : Int)]) (fun _ => by kernel_rfl) fun W hW => ContainsU_any (hsX z) p4 c4 x.half (by have := hsX_len z; omega) W (R4 _ (hW.sub (fun p hp => by simp only [List.mem_cons, List.mem_append, List.nil_append, List.not_mem_nil, or_assoc, or_false, false_or, hp, true_or, or_true])))) ?_
    refine vm (i := 12) (v := .bool ((fst (fun m => decide (x.half = m)) (hsX z)).isSome)) rfl rfl rfl ?_
    refine vm (i := 13) (v := .bool ((fst (fun m => decide (x.half = m)) (hsX z)).isSome)) rfl rfl rfl ?_
    refine wpV_done (by kernel_rfl) (fun W3 hW3 => ?_) _
    refine (show Code.wp _ _ _ _ _ from ?_)
    refine wp_ret ?_
    try simp only [inBlock_ret, then_ret]
    refine bodyPost_ret (v := .bool ((fst (fun m => decide (x.half = m)) (hsX z)).isSome)) ?_ rfl ?_
    · kernel_rfl
    · exact ⟨(bool_is (by unfold rightS; simp [*, hasH])), hW3.1⟩
set_option maxRecDepth 100000 in
set_option maxHeartbeats 4000000 in
theorem Held1_any (h : Nat) (x : Slt) (l : List Slt) (p : Option Addr) (c : Nat) (g1 g2 : Nat) (hl : l.length ≤ 4000000000) (hx : -9223372036854775808 < x.tier ∧ x.tier ≤ 9223372036854775807) (w : World) (h1 : CapR w g1 [.slice p l.length c]) (h2 : CapR w g2 (sltC x)) (hp : SLV w p (l.flatMap sltC)) : Calls Tryd.prog 57 #[.int .u8 ((h : Nat) : Int), .pointer (some ⟨g1, 0, none⟩), .pointer (some ⟨g2, 0, none⟩)] w fun e w' => e = .returned (.bool (belowS x l h)) ∧ Below w.heap.size w w' := by
  have H1 := Lib.hid h1
  clear h1
  have H2 := Lib.hid h2
  clear h2
  have HP := Lib.hid hp
  clear hp
  go_enter Tryd.func57, Tryd.ntmps57
  refine wp_seq ?_
  refine wp_region_L (W0 := w) [] (KS.start w) ?_
  refine lm (v := .bool false) rfl rfl ?_
  refine wpL_done (fun W1 hW1 => ?_)
  refine (show Code.wp _ _ _ _ _ from ?_)
  refine wp_seq ?_
  refine wp_region_L (W0 := w) [] (hW1) ?_
  refine lv (v := .slice p l.length c) rfl rfl (yb_rf (v := .slice p l.length c) rfl (by kernel_rfl) (fun W hW => ((H1.out).keep hW.1).2 0 _ rfl) Tryd.underlying35 rfl) ?_
  refine lm (v := .pointer (some ⟨g2, 0, none⟩)) rfl rfl ?_
  refine lv (v := .int .i64 x.col) rfl rfl (yb_rf (v := .int .i64 x.col) rfl (by kernel_rfl) (fun W hW => ((H2.out).keep hW.1).2 0 _ rfl) Tryd.underlying3 rfl) ?_
  refine lm (v := .pointer (some ⟨g2, 1, none⟩)) rfl rfl ?_
  refine lv (v := .int .i64 x.tier) rfl rfl (yb_rf (v := .int .i64 x.tier) rfl (by kernel_rfl) (fun W hW => ((H2.out).keep hW.1).2 1 _ rfl) Tryd.underlying3 rfl) ?_
  refine lp (v := .int .i64 (x.tier - 1)) rfl rfl (run_bin rfl (vx := (.int .i64 x.tier)) (vy := (.int .i64 1)) (by kernel_rfl) (by kernel_rfl) fun w => bi_sub (z := (x.tier - 1)) rfl (wi_i64 (by omega)) w) ?_
  refine lm (v := .int .u8 ((h : Nat) : Int)) rfl rfl ?_
  refine lm (v := .agg #[.int .i64 x.col, .int .i64 (x.tier - 1), .int .u8 ((h : Nat) : Int)]) rfl rfl ?_
  refine lv (v := .bool ((fst (eqS (⟨x.col, (x.tier - 1), h⟩ : Slt)) l).isSome)) rfl rfl (yb_call (f := 58) (args := #[.slice p l.length c, .agg #[.int .i64 x.col, .int .i64 (x.tier - 1), .int .u8 ((h : Nat) : Int)]]) (fun _ => by kernel_rfl) fun W hW => ContainsS_any l p c (⟨x.col, (x.tier - 1), h⟩ : Slt) (by omega) W ((RL.base HP.out) _ (hW.sub (fun _ h => by cases h)))) ?_
  refine lm (v := .bool ((fst (eqS (⟨x.col, (x.tier - 1), h⟩ : Slt)) l).isSome)) rfl rfl ?_
  refine wpL_done (fun W2 hW2 => ?_)
  refine (show Code.wp _ _ _ _ _ from ?_)
  refine wp_ret ?_
  try simp only [inBlock_ret, then_ret]
  refine bodyPost_ret (v := .bool ((fst (eqS (⟨x.col, (x.tier - 1), h⟩ : Slt)) l).isSome)) ?_ rfl ?_
  · kernel_rfl
  · exact ⟨rfl, hW2.1⟩
set_option maxRecDepth 100000 in
set_option maxHeartbeats 4000000 in
theorem Held_any (x : Slt) (l : List Slt) (p : Option Addr) (c : Nat) (hl : l.length ≤ 4000000000) (hx : -9223372036854775808 ≤ x.tier ∧ x.tier ≤ 9223372036854775807) (w : World) (hp : SLV w p (l.flatMap sltC)) : Calls Tryd.prog 25 #[.agg (sltC x).toArray, .slice p l.length c] w fun e w' => e = .returned (.bool (heldS x l)) ∧ Below w.heap.size w w' := by
  have HP := Lib.hid hp
  clear hp
  go_enter Tryd.func25, Tryd.ntmps25
  refine wp_seq ?_
  refine wp_region_L (W0 := w) [] (KS.start w) ?_
  refine wpL_new (fun g => .pointer (some ⟨g, 0, none⟩)) (obi := .cells (sltC x).toArray 34 (0, 0)) rfl rfl (fun _ => by kernel_rfl) (fun _ => by simp only [List.setIfInBounds_toArray, List.set_cons_succ, List.set_cons_zero] <;> rfl) fun g1 Bg1 Fg1 => ?_
  refine wpL_new (fun g => .pointer (some ⟨g, 0, none⟩)) (obi := .cells #[.slice p l.length c] 35 (0, 0)) rfl rfl (fun _ => by kernel_rfl) (fun _ => by simp only [List.setIfInBounds_toArray, List.set_cons_succ, List.set_cons_zero] <;> rfl) fun g2 Bg2 Fg2 => ?_
  obtain dj3_0 : g1 ≠ g2 := by simpa only [dj_app_l, dj_app_r, dj_cons_l, dj_cons_r, dj_nil_l, dj_nil_r, dk_app, dk_cons, dk_nil, and_true, true_and, and_assoc] using (show Dk g2 [(g1, .cells (sltC x).toArray 34 (0, 0))] from Fg2)
  refine lm (v := .bool false) rfl rfl ?_
  refine wpL_done (fun W1 hW1 => ?_)
  refine (show Code.wp _ _ _ _ _ from ?_)
  refine wp_seq ?_
  refine wp_seq ?_
  refine wp_region_L (W0 := w) [(g2, .cells #[.slice p l.length c] 35 (0, 0)), (g1, .cells (sltC x).toArray 34 (0, 0))] (hW1) ?_
  refine lm (v := .pointer (some ⟨g1, 1, none⟩)) rfl rfl ?_
  refine lv (v := .int .i64 x.tier) rfl rfl (yb_cell (off := 1) rfl (by kernel_rfl) (.tail _ (.head _)) Tryd.underlying3 rfl (by kernel_rfl)) ?_
  refine lp (v := .bool (!(decide (0 < x.tier)))) rfl rfl (run_bin rfl (vx := (.int .i64 x.tier)) (vy := (.int .i64 0)) (by kernel_rfl) (by kernel_rfl) fun w => bi_leq rfl w) ?_
  refine wpL_done (fun W2 hW2 => ?_)
  refine (show Code.wp _ _ _ _ _ from ?_)
  cases hd1 : (decide (0 < x.tier)) with
  | false =>
    have h1 : ¬ (0 < x.tier) := of_decide_eq_false hd1
    clear hd1
    refine wp_cond_true rfl ?_
    refine wp_seq ?_
    refine wp_region_L (W0 := w) [(g2, .cells #[.slice p l.length c] 35 (0, 0)), (g1, .cells (sltC x).toArray 34 (0, 0))] (hW2) ?_
    refine lm (v := .bool true) rfl rfl ?_
    refine wpL_done (fun W3 hW3 => ?_)
    refine (show Code.wp _ _ _ _ _ from ?_)
    refine wp_ret ?_
    try simp only [inBlock_ret, then_ret]
    refine bodyPost_ret (v := .bool true) ?_ rfl ?_
    · kernel_rfl
    · exact ⟨(bool_is (by unfold heldS; rw [decide_eq_true (p := x.tier ≤ 0) (by omega)] <;> simp)), hW3.1⟩
  | true =>
    have h1 : 0 < x.tier := of_decide_eq_true hd1
    clear hd1
    refine wp_cond_false rfl ?_
    refine wp_skip ?_
    refine (show Code.wp _ _ _ _ _ from ?_)
    refine wp_seq ?_
    refine wp_region_L (W0 := w) [(g2, .cells #[.slice p l.length c] 35 (0, 0)), (g1, .cells (sltC x).toArray 34 (0, 0))] (hW2) ?_
    refine lm (v := .func (.func 57) #[] #[.pointer (some ⟨g2, 0, none⟩), .pointer (some ⟨g1, 0, none⟩)]) rfl rfl ?_
    refine lm (v := .func (.func 57) #[] #[.pointer (some ⟨g2, 0, none⟩), .pointer (some ⟨g1, 0, none⟩)]) rfl rfl ?_
    refine wpL_done (fun W4 hW4 => ?_)
    refine (show Code.wp _ _ _ _ _ from ?_)
    refine wp_seq ?_
    refine wp_region_L (W0 := w) [(g2, .cells #[.slice p l.length c] 35 (0, 0)), (g1, .cells (sltC x).toArray 34 (0, 0))] (hW4) ?_
    refine lm (v := .func (.func 57) #[] #[.pointer (some ⟨g2, 0, none⟩), .pointer (some ⟨g1, 0, none⟩)]) rfl rfl ?_
    refine lm (v := .pointer (some ⟨g1, 2, none⟩)) rfl rfl ?_
    refine lv (v := .int .u8 ((x.half : Nat) : Int)) rfl rfl (yb_cell (off := 2) rfl (by kernel_rfl) (.tail _ (.head _)) Tryd.underlying5 rfl (by kernel_rfl)) ?_
    refine lv (v := .bool (belowS x l x.half)) rfl rfl (yb_call (f := 57) (args := #[.int .u8 ((x.half : Nat) : Int), .pointer (some ⟨g2, 0, none⟩), .pointer (some ⟨g1, 0, none⟩)]) (fun _ => by kernel_rfl) fun W hW => Held1_any x.half x l p c g2 g1 (by omega) (by omega) W (CapR.of hW (.head _)) (CapR.of hW (.tail _ (.head _))) ((RL.base HP.out) _ (hW.sub (fun _ h => by cases h)))) ?_
    refine lm (v := .bool (belowS x l x.half)) rfl rfl ?_
    cases h2 : (belowS x l x.half) with
    | false =>
      refine lm (v := .pointer (some ⟨g1, 2, none⟩)) rfl rfl ?_
      refine lv (v := .int .u8 ((x.half : Nat) : Int)) rfl rfl (yb_cell (off := 2) rfl (by kernel_rfl) (.tail _ (.head _)) Tryd.underlying5 rfl (by kernel_rfl)) ?_
      refine lp (v := .bool (decide (x.half = 0))) rfl rfl (run_bin rfl (vx := (.int .u8 ((x.half : Nat) : Int))) (vy := (.int .u8 ((0 : Nat) : Int))) (by kernel_rfl) (by kernel_rfl) fun w => bn_eql rfl w) ?_
      refine lm (v := .bool (decide (x.half = 0))) rfl rfl ?_
      cases hd3 : (decide (x.half = 0)) with
      | false =>
        have h3 : ¬ (x.half = 0) := of_decide_eq_false hd3
        clear hd3
        refine ln rfl ?_
        refine ln rfl ?_
        refine lm (v := .bool false) rfl rfl ?_
        refine lm (v := .bool false) rfl rfl ?_
        refine ln rfl ?_
        refine ln rfl ?_
        refine lm (v := .bool false) rfl rfl ?_
        refine lm (v := .bool false) rfl rfl ?_
        refine lm (v := .bool false) rfl rfl ?_
        refine wpL_done (fun W5 hW5 => ?_)
        refine (show Code.wp _ _ _ _ _ from ?_)
        refine wp_ret ?_
        try simp only [inBlock_ret, then_ret]
        refine bodyPost_ret (v := .bool false) ?_ rfl ?_
        · kernel_rfl
        · exact ⟨(bool_is (by unfold heldS; rw [decide_eq_false (p := x.tier ≤ 0) (by omega), h2, decide_eq_false h3] <;> simp)), hW5.1⟩
      | true =>
        have h3 : x.half = 0 := of_decide_eq_true hd3
        clear hd3
        refine lm (v := .func (.func 57) #[] #[.pointer (some ⟨g2, 0, none⟩), .pointer (some ⟨g1, 0, none⟩)]) rfl rfl ?_
        refine lv (v := .bool (belowS x l 1)) rfl rfl (yb_call (f := 57) (args := #[.int .u8 1, .pointer (some ⟨g2, 0, none⟩), .pointer (some ⟨g1, 0, none⟩)]) (fun _ => by kernel_rfl) fun W hW => Held1_any 1 x l p c g2 g1 (by omega) (by omega) W (CapR.of hW (.head _)) (CapR.of hW (.tail _ (.head _))) ((RL.base HP.out) _ (hW.sub (fun _ h => by cases h)))) ?_
        refine lm (v := .bool (belowS x l 1)) rfl rfl ?_
        refine lm (v := .bool (belowS x l 1)) rfl rfl ?_
        cases h4 : (belowS x l 1) with
        | false =>
          refine ln rfl ?_
          refine ln rfl ?_
          refine lm (v := .bool false) rfl rfl ?_
          refine lm (v := .bool false) rfl rfl ?_
          refine lm (v := .bool false) rfl rfl ?_
          refine wpL_done (fun W6 hW6 => ?_)
          refine (show Code.wp _ _ _ _ _ from ?_)
          refine wp_ret ?_
          try simp only [inBlock_ret, then_ret]
          refine bodyPost_ret (v := .bool false) ?_ rfl ?_
          · kernel_rfl
          · exact ⟨(bool_is (by unfold heldS; rw [decide_eq_false (p := x.tier ≤ 0) (by omega), h2, decide_eq_true h3, h4] <;> simp)), hW6.1⟩
        | true =>
          refine lm (v := .func (.func 57) #[] #[.pointer (some ⟨g2, 0, none⟩), .pointer (some ⟨g1, 0, none⟩)]) rfl rfl ?_
          refine lv (v := .bool (belowS x l 2)) rfl rfl (yb_call (f := 57) (args := #[.int .u8 2, .pointer (some ⟨g2, 0, none⟩), .pointer (some ⟨g1, 0, none⟩)]) (fun _ => by kernel_rfl) fun W hW => Held1_any 2 x l p c g2 g1 (by omega) (by omega) W (CapR.of hW (.head _)) (CapR.of hW (.tail _ (.head _))) ((RL.base HP.out) _ (hW.sub (fun _ h => by cases h)))) ?_
          refine lm (v := .bool (belowS x l 2)) rfl rfl ?_
          refine lm (v := .bool (belowS x l 2)) rfl rfl ?_
          refine lm (v := .bool (belowS x l 2)) rfl rfl ?_
          refine wpL_done (fun W7 hW7 => ?_)
          refine (show Code.wp _ _ _ _ _ from ?_)
          refine wp_ret ?_
          try simp only [inBlock_ret, then_ret]
          refine bodyPost_ret (v := .bool (belowS x l 2)) ?_ rfl ?_
          · kernel_rfl
          · exact ⟨(bool_is (by unfold heldS; rw [decide_eq_false (p := x.tier ≤ 0) (by omega), h2, decide_eq_true h3, h4] <;> simp)), hW7.1⟩
    | true =>
      refine ln rfl ?_
      refine ln rfl ?_
      refine ln rfl ?_
      refine ln rfl ?_
      refine ln rfl ?_
      refine ln rfl ?_
      refine ln rfl ?_
      refine ln rfl ?_
      refine ln rfl ?_
      refine ln rfl ?_
      refine ln rfl ?_
      refine lm (v := .bool true) rfl rfl ?_
      refine lm (v := .bool true) rfl rfl ?_
      refine wpL_done (fun W8 hW8 => ?_)
      refine (show Code.wp _ _ _ _ _ from ?_)
      refine wp_ret ?_
      try simp only [inBlock_ret, then_ret]
      refine bodyPost_ret (v := .bool true) ?_ rfl ?_
      · kernel_rfl
      · exact ⟨(bool_is (by unfold heldS; rw [decide_eq_false (p := x.tier ≤ 0) (by omega), h2] <;> simp)), hW8.1⟩
end Go.Proofs.YthpooalhibedpaaDoor
/- What holds of a region outside of a round holds in a round, too, at the wide fence. Nothing of the program. -/
namespace Tw
open Go Go.RowKit Go.Proofs.YthpooalhibedpaaDoor
abbrev FX (r : Option Nat) : Fence := { fn := fun _ => True, depth := none, alive := false, round := r }
theorem calls_round {P : Program} {n : Nat} {l : Option Nat} {f : FuncId} {args : Array Value} {w : World} {R : Ending → World → Prop} (h : Calls P f args w R) : CallsIn (FX l) n P f args w R := (callsIn_wide (n := n)).2 h
theorem rows_round {P : Program} {n : Nat} {l : Option Nat} {row : String} {args : Array Value} {w : World} {R : Value → World → Prop} (h : Rows P row args w R) : RowsIn (FX l) n P row args w R := fun c cs _ =>
  let ⟨v, w', r, s⟩ := h c cs
  ⟨v, w', r, (StepsIn.of_steps s).mono fun m _ => fenced_wide P m⟩
def onlyN (Q : Exit → Act → World → Prop) : Exit → Act → World → Prop
  | .normal, a, w => Q .normal a w
  | _, _, _ => False
theorem lets_onlyN {Q : Exit → Act → World → Prop} (h : LetsOut (onlyN Q)) : False := by
  obtain ⟨_, _, h⟩ := h
  exact h
theorem oper_round {P : Program} {n : Nat} {l : Option Nat} {o : Oper} {a : Act} {w : World} {K : Act → World → Prop} {Q E : Exit → Act → World → Prop} (hdef : ∀ c, o.op ≠ .defer c) (h : o.wp P a w K (onlyN E)) : o.wpIn (FX l) n P a w K Q := by
  refine ⟨fun _ _ => trivial, ?_⟩
  rw [Oper.semAt_eq _ _ _ hdef]
  unfold Oper.wp at h
  generalize (execOp a.eval o).run P w = r at h ⊢
  cases r with
  | ok nx w' =>
    cases nx with
    | value v => exact h
    | skip => exact h
    | defer d => exact h
    | enter f args =>
      refine ⟨(fun hh => by cases hh), calls_round (Calls.mono h ?_)⟩
      intro e w'' hr
      cases e with
      | returned v => exact hr
      | panicked c => exact hr.elim
      | outgrown => exact (lets_onlyN hr).elim
    | row row args => exact ⟨(fun hh => by cases hh), rows_round h⟩
    | _ => exact h.elim
  | halt s w' =>
    cases s with
    | panic v => exact h.elim
    | _ => exact h.elim
def noDefer (o : Oper) : Bool := match o.op with | .defer _ => false | _ => true
theorem noDefer_ne {o : Oper} (h : noDefer o = true) : ∀ c, o.op ≠ .defer c := fun c e => by unfold noDefer at h; rw [e] at h; cases h
theorem list_round {P : Program} {n : Nat} {l : Option Nat} {ops : Array Oper} {Q : Exit → Act → World → Prop} : ∀ (rest : List Oper) (a : Act) (w : World), rest.all noDefer = true → wpList P ops (onlyN Q) rest a w → wpListIn (FX l) n P ops Q rest a w
  | [], _, _, _, h => h
  | o :: rest, a, w, hd, h => by
    simp only [List.all_cons, Bool.and_eq_true] at hd
    unfold wpList at h
    unfold wpListIn
    split
    · rename_i hw
      rw [if_pos hw] at h
      rcases h with h | ⟨_, h⟩
      · exact Oper.wpIn_mono (fun a w hh => list_round rest a w hd.2 hh) (oper_round (noDefer_ne hd.1) h)
      · exact (lets_onlyN h).elim
    · rename_i hw
      rw [if_neg hw] at h
      exact ⟨fun _ _ => trivial, list_round rest _ w hd.2 h⟩
section
variable {P : Program} {W0 : Base} {n : Nat} {r : Option Nat}
theorem wp_region_LI {id : Nat} {l : List Oper} {Q : Exit → Act → World → Prop} {a : Act} {w : World} (K : List (Nat × Obj)) (hd : l.all noDefer = true) (hK : KS W0 K w) (h : wpL P l.toArray (onlyN Q) W0 l a K) : (Code.region id l.toArray false).wpIn (FX r) n P Q a w :=
  wpIn_region_lit (list_round l a w hd (h.of w hK))
theorem any_round {ops : Array Oper} {md : Region.Mode} {Q : Exit → Act → World → Prop} (hd : ∀ (i : Nat) (o : Oper), ops[i]? = some o → noDefer o = true) : ∀ (fuel : Nat) (listed : Array Bool) (a : Act) (w : World), wpAny P md ops (onlyN Q) fuel listed a w → wpAnyIn (FX r) n P md ops Q fuel listed a w
  | 0, _, _, _, h => ⟨h.1, h.2⟩
  | fuel + 1, listed, a, w, h => by
    refine ⟨fun hr => h.1 hr, fun i hi => ?_⟩
    have hh := h.2 i hi
    unfold wpOp at hh
    unfold wpOpIn
    cases ho : ops[i]? with
    | none => rw [ho] at hh; exact any_round hd fuel _ a w hh
    | some o =>
      rw [ho] at hh
      simp only at hh ⊢
      split
      · rename_i hw
        rw [if_pos hw] at hh
        rcases hh with hh | ⟨_, hh⟩
        · exact Oper.wpIn_mono (fun a w hx => any_round hd fuel _ a w hx) (oper_round (noDefer_ne (hd i o ho)) hh)
        · exact (lets_onlyN hh).elim
      · rename_i hw
        rw [if_neg hw] at hh
        exact ⟨fun _ _ => trivial, any_round hd fuel _ _ w hh⟩
theorem wp_region_VI {id : Nat} {ops : Array Oper} {Q : Exit → Act → World → Prop} {a : Act} {w : World} (K : List (Nat × Obj)) (hm : P.follows .mixedOrders = true) (hd : ops.toList.all noDefer = true) (hK : KS W0 K w)
    (h : wpV P .any ops (onlyN Q) W0 ops.size (Array.replicate ops.size false) a K) : (Code.region id ops true).wpIn (FX r) n P Q a w :=
  wpIn_region_any hm (any_round (fun i o ho => List.all_eq_true.1 hd o (Array.mem_toList_iff.2 (Array.mem_of_getElem? ho))) _ _ _ _ (wpV_sound _ _ _ _ h _ hK.drew))
end
end Tw
/- A region that calls the round of a loop over an iterator (yield). Nothing of the program. -/
namespace Tw
open Go Go.RowKit Go.Proofs.YthpooalhibedpaaDoor
def onlyR (K : Act → World → Prop) : Exit → Act → World → Prop
  | .normal, a, w => K a w
  | _, _, _ => False
theorem onlyR_N (K : Act → World → Prop) : onlyR K = onlyN (onlyR K) := by funext e a w; cases e <;> rfl
section
variable {P : Program} {n : Nat} {r : Option Nat} {ops : Array Oper} {Q : Exit → Act → World → Prop}
theorem list_app (rest : List Oper) : ∀ (pre : List Oper) (a : Act) (w : World), pre.all noDefer = true → wpList P ops (onlyR (wpListIn (FX r) n P ops Q rest)) pre a w → wpListIn (FX r) n P ops Q (pre ++ rest) a w
  | [], _, _, _, h => h
  | o :: pre, a, w, hd, h => by
    simp only [List.all_cons, Bool.and_eq_true] at hd
    rw [List.cons_append]
    unfold wpList at h
    unfold wpListIn
    split
    · rename_i hw
      rw [if_pos hw] at h
      rcases h with h | ⟨_, h⟩
      · rw [onlyR_N] at h
        refine Oper.wpIn_mono (fun a w hh => list_app rest pre a w hd.2 ?_) (oper_round (noDefer_ne hd.1) h)
        rw [onlyR_N]
        exact hh
      · rw [onlyR_N] at h
        exact (lets_onlyN h).elim
    · rename_i hw
      rw [if_neg hw] at h
      exact ⟨fun _ _ => trivial, list_app rest pre _ w hd.2 h⟩
theorem wp_region_S {id : Nat} {l : List Oper} {a : Act} {w : World} {W0 : Base} (pre rest : List Oper) (K : List (Nat × Obj)) (hl : l = pre ++ rest) (hd : pre.all noDefer = true) (hK : KS W0 K w) (h : wpL P l.toArray (onlyR (wpListIn (FX r) n P l.toArray Q rest)) W0 pre a K) : (Code.region id l.toArray false).wpIn (FX r) n P Q a w := by
  refine wpIn_region_lit ?_
  have h1 := list_app rest pre a w hd (h.of w hK)
  rw [← hl] at h1
  exact h1
theorem wpl_rest {rest : List Oper} {a : Act} {w : World} {W0 : Base} (K : List (Nat × Obj)) (hd : rest.all noDefer = true) (hK : KS W0 K w) (h : wpL P ops (onlyN Q) W0 rest a K) : wpListIn (FX r) n P ops Q rest a w := list_round rest a w hd (h.of w hK)
theorem wpl_yield {o : Oper} {rest : List Oper} {a : Act} {w : World} {c x : Operand} {tt : TypeId} {l d : Nat} {v : Value} {A B : World → Prop} {tm : Array Value} {df : List Deferred} {T1 T2 : Array Value} (ha : a = ⟨tm, df⟩) (ho : o.op = .call { callee := .value c, args := #[x], argTypes := #[tt] }) (hc : a.eval c = .func (.yield l) #[] #[]) (hx : a.eval x = v)
    (hw : Region.wanted o (yielded ops a.tmps) = true) (hd : o.dst = some d) (hY : YieldAt (FX r) (n - 1) P l #[v] w fun e W' => (e = .returned (.bool true) ∧ A W') ∨ (e = .returned (.bool false) ∧ B W'))
    (hT1 : tm.setIfInBounds d (.bool true) = T1) (hT2 : tm.setIfInBounds d (.bool false) = T2)
    (h1 : ∀ W', A W' → wpListIn (FX r) n P ops Q rest ⟨T1, df⟩ W') (h2 : ∀ W', B W' → wpListIn (FX r) n P ops Q rest ⟨T2, df⟩ W') : wpListIn (FX r) n P ops Q (o :: rest) a w := by
  subst ha
  obtain ⟨fn, tmps, assign, body, hy, hR⟩ := hY
  refine wpListIn_step fun K hK => ?_
  rw [if_pos hw]
  refine ⟨fun _ _ => trivial, ?_⟩
  rw [Oper.semAt_eq _ _ _ (fun c' e => by rw [ho] at e; cases e)]
  have hrun : (execOp (Act.eval ⟨tm, df⟩) o).run P w = .ok (.round l fn tmps assign body) w := by
    generalize Act.eval ⟨tm, df⟩ = ev at hc hx
    simp [execOp, ho, resolve, invoke, hc, hx, hy, Deferred.ofValue]
  rw [hrun]
  refine ⟨(fun hh => by cases hh), hR.mono ?_⟩
  rintro e W' (⟨rfl, hA⟩ | ⟨rfl, hB⟩)
  · refine hK _ _ ?_
    rw [hd]
    simp only [Act.put]
    rw [hT1]
    exact h1 W' hA
  · refine hK _ _ ?_
    rw [hd]
    simp only [Act.put]
    rw [hT2]
    exact h2 W' hB
end
end Tw
/- Loops over iterators: what a loop's body owns is told by known blocks, all other blocks stay. Over any program. -/
namespace Tw
open Go Go.RowKit Go.Proofs.YthpooalhibedpaaDoor
theorem callsAnyX {P : Program} {r s : Option Nat} {n m : Nat} {f : FuncId} {args : Array Value} {w : World} {R : Ending → World → Prop} (h : CallsIn (FX r) n P f args w R) : CallsIn (FX s) m P f args w R := ⟨trivial, fun cs _ => h.2 cs (fun _ h => by cases h)⟩
def ownT (ts : List TypeId) : Obj → Bool
  | .cells _ t _ => decide (t ∈ ts)
  | _ => false
theorem ownT_no {ts : List TypeId} {o : Obj} (h : o.isCells = false) : ownT ts o = false := by cases o <;> simp_all [Obj.isCells, ownT]
structure KpA (ts : List TypeId) (W W' : World) : Prop where
  size : W.heap.size ≤ W'.heap.size
  same : ∀ (k : Nat) (o : Obj), W.heap[k]? = some o → ownT ts o = false → W'.heap[k]? = some o
theorem KpA.trans {ts : List TypeId} {A B C : World} (h : KpA ts A B) (k : KpA ts B C) : KpA ts A C := ⟨Nat.le_trans h.size k.size, fun i o hi ho => k.same i o (h.same i o hi ho) ho⟩
structure KpT (ts : List TypeId) (n₀ : Nat) (W W' : World) : Prop where
  below : Below n₀ W W'
  same : ∀ (k : Nat) (o : Obj), W.heap[k]? = some o → o.isCells = true → ownT ts o = false → W'.heap[k]? = some o
theorem KpT.trans {ts : List TypeId} {n₀ : Nat} {A B C : World} (h : KpT ts n₀ A B) (k : KpT ts n₀ B C) : KpT ts n₀ A C := ⟨h.below.trans k.below, fun i o hi hc ho => k.same i o (h.same i o hi hc ho) hc ho⟩
theorem KpA.toT {ts : List TypeId} {n₀ : Nat} {W W' : World} (h : KpA ts W W') (hb : Below n₀ W W') : KpT ts n₀ W W' := ⟨hb, fun k o hk _ ho => h.same k o hk ho⟩
theorem below_put {n₀ : Nat} {W : World} {l : Nat} (o : Obj) (hl : n₀ ≤ l) : Below n₀ W (W.putObj l o) := ⟨rfl, rfl, rfl, by simp, fun k hk => World.putObj_heap_other (by omega)⟩
theorem kpT_put {ts : List TypeId} {n₀ : Nat} {W : World} {l : Nat} {o : Obj} (o' : Obj) (hl : n₀ ≤ l) (h : W.heap[l]? = some o) (hc : o.isCells = false) : KpT ts n₀ W (W.putObj l o') :=
  ⟨below_put o' hl, fun k ob hk hkc _ => by
    by_cases e : k = l
    · subst e; rw [h] at hk; cases hk; rw [hc] at hkc; cases hkc
    · exact (World.putObj_heap_other e).trans hk⟩
def restT (ts : List TypeId) (W : World) : List (Nat × Obj) := (List.range W.heap.size).filterMap fun k => match W.heap[k]? with | some o => if ownT ts o then none else some (k, o) | none => none
theorem restT_mem {ts : List TypeId} {W : World} {p : Nat × Obj} : p ∈ restT ts W ↔ W.heap[p.1]? = some p.2 ∧ ownT ts p.2 = false := by
  unfold restT
  rw [List.mem_filterMap]
  constructor
  · rintro ⟨k, hk, h⟩
    cases ho : W.heap[k]? with
    | none => rw [ho] at h; cases h
    | some o =>
      rw [ho] at h
      simp only at h
      split at h
      · cases h
      · rename_i hn
        cases h
        exact ⟨ho, by simpa using hn⟩
  · rintro ⟨h1, h2⟩
    exact ⟨p.1, List.mem_range.2 (lt_of_block h1), by rw [h1]; simp [h2]⟩
theorem restT_ne {ts : List TypeId} {W : World} {g : Nat} {o : Obj} (h : W.heap[g]? = some o) (hc : ownT ts o = true) : ∀ p ∈ restT ts W, p.1 ≠ g := fun p hp e => by
  obtain ⟨h1, h2⟩ := restT_mem.1 hp
  rw [e, h] at h1
  cases h1
  rw [hc] at h2
  cases h2
def atB (W0 : Base) (W : World) (h : W0.B ≤ W.heap.size) : Base := ⟨W, W0.B, h⟩
theorem at_start {W0 : Base} {W : World} {K : List (Nat × Obj)} (ts : List TypeId) (hn : W0.B ≤ W.heap.size) (h : KS W0 K W) : KS (atB W0 W hn) (K ++ restT ts W) W := ⟨Below.refl _ _, fun p hp => by
  rcases List.mem_append.1 hp with hp | hp
  · exact h.2 p hp
  · exact (restT_mem.1 hp).1⟩
theorem at_back {W0 : Base} {W W' : World} {K K' : List (Nat × Obj)} {hn : W0.B ≤ W.heap.size} (h : KS W0 K W) (h' : KS (atB W0 W hn) K' W') : KS W0 K' W' := ⟨h.1.trans h'.1, h'.2⟩
theorem at_kp {W0 : Base} {W W' : World} {K : List (Nat × Obj)} {ts : List TypeId} {hn : W0.B ≤ W.heap.size} (h : KS (atB W0 W hn) K W') (hs : ∀ p ∈ restT ts W, p ∈ K) : KpA ts W W' := ⟨h.1.size, fun k o hk ho => h.2 (k, o) (hs (k, o) (restT_mem.2 ⟨hk, ho⟩))⟩
theorem ks_grown {W0 : Base} {W W' : World} {K : List (Nat × Obj)} {row : Option Nat} (hK : KS W0 K W) (hc : ∀ p ∈ K, p.2.isCells = true) (hg : W.grownBy W' row) (hr : ∀ r, row = some r → W0.B ≤ r ∧ ∃ o : Obj, W.heap[r]? = some o ∧ o.isCells = false) : KS W0 K W' := by
  refine ⟨⟨hg.os.trans hK.1.os, hg.tape.trans hK.1.tape, hg.output.trans hK.1.output, Nat.le_trans hK.1.size hg.size, fun k hk => ?_⟩, fun p hp => ?_⟩
  · rw [hg.block k (Nat.lt_of_lt_of_le hk hK.size) (fun e => by have := (hr k e.symm).1; omega)]
    exact hK.1.block k hk
  · have h1 := hK.2 p hp
    rw [hg.block p.1 (lt_of_block h1) (fun e => by
      obtain ⟨_, o, ho, hn⟩ := hr p.1 e.symm
      rw [h1] at ho
      cases ho
      rw [hc p hp] at hn
      cases hn)]
    exact h1
theorem ks_putN {W0 : Base} {K : List (Nat × Obj)} {W : World} {L : Nat} {o : Obj} (o' : Obj) (h : KS W0 K W) (hc : ∀ p ∈ K, p.2.isCells = true) (hB : W0.B ≤ L) (hL : W.heap[L]? = some o) (ho : o.isCells = false) : KS W0 K (W.putObj L o') :=
  ⟨h.1.trans (below_put o' hB), fun p hp => (World.putObj_heap_other (fun e => by have h1 := h.2 p hp; rw [e, hL] at h1; cases h1; rw [hc p hp] at ho; cases ho)).trans (h.2 p hp)⟩
def roundK {α : Type} (ts : List TypeId) (W0 : Base) (I Ix : List α → List (Nat × Obj) → Prop) (ys : List α) (W : World) : Exit → Act → World → Prop
  | .normal, _, W' => KpA ts W W' ∧ Below W0.B W W' ∧ ∃ K, I ys K ∧ KS W0 K W'
  | .ret, _, W' => KpA ts W W' ∧ Below W0.B W W' ∧ ∃ K, Ix ys K ∧ KS W0 K W'
  | _, _, _ => False
theorem range_k {α : Type} {P : Program} {g : Operand} {ps : Array Tmp} {assign body : Code} {Q : Exit → Act → World → Prop} {a : Act} {w : World} {ts : List TypeId}
    {gf : Nat} {lb : Array Value} (hg : a.eval g = .func (.func gf) #[] lb) (eg : ∀ args w, (callFunc gf args).run P w = .ok (.enter gf args) w)
    {encs : α → Array Value} {S Sp : List α → Prop} {N : Nat} {w0 : World} (W0 : Base) (hseq : SeqStopsK (FX none) 0 P gf lb encs (KpT ts W0.B) S Sp N w0) (hb0 : Below w0.heap.size w0 w) (hps : ∀ x, (encs x).size = ps.size)
    (I Ix : List α → List (Nat × Obj) → Prop) (hI : ∀ ys K, I ys K → ∀ p ∈ K, p.2.isCells = true) (hIx : ∀ ys K, Ix ys K → ∀ p ∈ K, p.2.isCells = true) {K0 : List (Nat × Obj)} (h0 : I [] K0) (hK0 : KS W0 K0 w)
    (hround : ∀ (L : Nat) (pre : List α) (x : α) (K : List (Nat × Obj)) (W : World), I pre K → KS W0 K W → pre.length < N →
      assign.wpIn (FX (some L)) 0 P (Exit.then (fun a' W2 => KpA ts W W2 ∧ Below W0.B W W2 ∧ ∃ K2, (∀ p ∈ K2, p.2.isCells = true) ∧ KS W0 K2 W2 ∧ ∀ W3, KS W0 K2 W3 → body.wpIn (FX (some L)) 0 P (roundK ts W0 I Ix (pre ++ [x]) W3) a' W3) (fun _ _ _ => False))
        { tmps := (ps.zip (encs x)).foldl (fun t (p, v) => t.setIfInBounds p v) a.tmps, defers := [] } W)
    (hdone : ∀ (D : Nat) (xs : List α) (K : List (Nat × Obj)) (W : World), S xs → I xs K → KS W0 ((D, .deferred (some [])) :: K) W → w.heap.size ≤ D → Q .normal { a with defers := { target := .collected D, args := #[] } :: a.defers } W)
    (hstop : ∀ (D : Nat) (pre : List α) (K : List (Nat × Obj)) (W : World), Sp pre → Ix pre K → KS W0 ((D, .deferred (some [])) :: K) W → w.heap.size ≤ D → Code.ret.wpIn (FX none) 0 P Q { a with defers := { target := .collected D, args := #[] } :: a.defers } W) :
    (Code.rangeFunc g ps assign body).wpIn (FX none) 0 P Q a w := by
  refine wpIn_rangeFunc ?_
  intro fn _
  have hwB := hK0.size
  obtain ⟨rec, hrec⟩ : ∃ rec : LoopState → Option Code → Loop, rec = fun st pe => { state := st, pending := pe, fn, tmps := a.tmps, params := ps, assign, body, defers := w.heap.size } := ⟨_, rfl⟩
  obtain ⟨W1, hW1⟩ : ∃ W1, (w.alloc (.deferred (some []))).alloc (.loop (rec .ready none)) = W1 := ⟨_, rfl⟩
  have hz1 : W1.heap.size = w.heap.size + 2 := by rw [← hW1]; simp
  have hL1 : W1.heap[w.heap.size + 1]? = some (.loop (rec .ready none)) := by
    rw [← hW1]; have := World.alloc_heap_new (w.alloc (.deferred (some []))) (.loop (rec .ready none)); rwa [World.size_alloc] at this
  have hD1 : W1.heap[w.heap.size]? = some (.deferred (some [])) := by
    rw [← hW1]; exact (Below.heap_alloc _ _ _ (by simp)).trans (World.alloc_heap_new w _)
  have hw1 : Below w.heap.size w W1 := by rw [← hW1]; exact ((Below.refl _ w).alloc (Nat.le_refl _) _).alloc (by simp) _
  have hK1 : KS W0 K0 W1 := hK0.below hw1
  refine ⟨w.heap.size + 1, [{ target := .collected w.heap.size, args := #[] }], W1, { target := .fn (.func gf) lb, args := #[.func (.yield (w.heap.size + 1)) #[] #[]] }, W1, gf,
    #[.func (.yield (w.heap.size + 1)) #[] #[]] ++ lb, W1, ?_, ?_, fun _ _ => trivial, ?_, (fun h => by cases h), ?_⟩
  · rw [← hW1, hrec]; exact run_enterLoop_outer _ _ _ _ _
  · simp only [resolve, hg]
    simp [go_sem]
  · simp [invoke, go_sem, eg]
  · have stay : ∀ {A B : World} {row : Option Nat} {l : Nat} {o : Obj}, A.grownBy B row → (∀ r, row = some r → W1.heap.size ≤ r ∧ ∃ o : Obj, A.heap[r]? = some o ∧ o.isWalk = true) → A.heap[l]? = some o → o.isWalk = false → B.heap[l]? = some o := fun hg' hr hl ho => by
      refine (hg'.block _ (lt_of_block hl) (fun e => ?_)).trans hl
      obtain ⟨_, o', ho', hw'⟩ := hr _ e.symm
      rw [hl] at ho'; cases ho'; rw [ho] at hw'; cases hw'
    refine ((callsAnyX (hseq (w.heap.size + 1)
      (fun pre W => ∃ K, I pre K ∧ KS W0 K W ∧ W.heap[w.heap.size + 1]? = some (.loop (rec .ready none)) ∧ W.heap[w.heap.size]? = some (.deferred (some [])))
      (fun pre W => ∃ K, Ix pre K ∧ KS W0 K W ∧ W.heap[w.heap.size + 1]? = some (.loop (rec .done (some .ret))) ∧ W.heap[w.heap.size]? = some (.deferred (some [])))
      W1 (hb0.trans (hw1.mono hb0.size)) ?_ ?_ ?_ ⟨K0, h0, hK1, hL1, hD1⟩) : CallsIn (FX none) (0 - 1) P gf _ W1 _)).mono ?_
    · rintro s A B row ⟨K, h1, h2, h3, h4⟩ hg' hr
      exact ⟨K, h1, ks_grown h2 (hI _ _ h1) hg' (fun r e => by obtain ⟨hB, o, ho, hw⟩ := hr r e; exact ⟨by omega, o, ho, Obj.not_cells_of_walk hw⟩), stay hg' hr h3 rfl, stay hg' hr h4 rfl⟩
    · rintro s A B row ⟨K, h1, h2, h3, h4⟩ hg' hr
      exact ⟨K, h1, ks_grown h2 (hIx _ _ h1) hg' (fun r e => by obtain ⟨hB, o, ho, hw⟩ := hr r e; exact ⟨by omega, o, ho, Obj.not_cells_of_walk hw⟩), stay hg' hr h3 rfl, stay hg' hr h4 rfl⟩
    · rintro pre x W ⟨K, hi, hk, hl, hd⟩ hlen
      have hy := run_yield (P := P) (args := encs x) hl (by rw [hrec]; exact hps x)
      rw [hrec] at hy
      refine ⟨fn, _, assign, body, hy, roundIn_of_wpIn (F := FX none) trivial (wpIn_mono (hround _ pre x K W hi hk hlen) ?_)⟩
      clear hy
      rintro e a' W2 hq
      cases e with
      | normal =>
        obtain ⟨hkp, hbl, K2, hc2, hk2, hq⟩ := hq
        have hl2 := hkp.same _ _ hl rfl
        have hd2 := hkp.same _ _ hd rfl
        refine ⟨_, run_beginRound hl2 (by rw [hrec]), ?_⟩
        have hlt2 := lt_of_block hl2
        have hl3 : (W2.putObj (w.heap.size + 1) (.loop { rec .ready none with state := .busy })).heap[w.heap.size + 1]? = some (.loop { rec .ready none with state := .busy }) := World.putObj_heap_same hlt2
        have hd3 : (W2.putObj (w.heap.size + 1) (.loop { rec .ready none with state := .busy })).heap[w.heap.size]? = some (.deferred (some [])) := (World.putObj_heap_other (by omega)).trans hd2
        have hk3 : KS W0 K2 (W2.putObj (w.heap.size + 1) (.loop { rec .ready none with state := .busy })) := ks_putN _ hk2 hc2 (by omega) hl2 rfl
        refine wpIn_mono (hq _ hk3) ?_
        clear hq
        have fin : ∀ (jump : Option Code) (W4 : World), KpA ts (W2.putObj (w.heap.size + 1) (.loop { rec .ready none with state := .busy })) W4 →
            (Instr.endRound (w.heap.size + 1) jump).run P W4 = .ok (.bool jump.isNone) (W4.putObj (w.heap.size + 1) (.loop (rec (if jump.isNone then .ready else .done) jump))) ∧ W4.heap[w.heap.size + 1]? = some (.loop { rec .ready none with state := .busy }) ∧
            (W4.putObj (w.heap.size + 1) (.loop (rec (if jump.isNone then .ready else .done) jump))).heap[w.heap.size + 1]? = some (.loop (rec (if jump.isNone then .ready else .done) jump)) ∧ (W4.putObj (w.heap.size + 1) (.loop (rec (if jump.isNone then .ready else .done) jump))).heap[w.heap.size]? = some (.deferred (some [])) := fun jump W4 hk4 => by
          have hl4 := hk4.same _ _ hl3 rfl
          have hd4 := hk4.same _ _ hd3 rfl
          have hrun := run_endRound (P := P) jump hl4
          rw [hrec] at hrun hl4 ⊢
          exact ⟨hrun, hl4, World.putObj_heap_same (lt_of_block hl4), (World.putObj_heap_other (by omega)).trans hd4⟩
        rintro e a3 W4 hp
        cases e with
        | normal =>
          obtain ⟨hk4, hb4, K4, hi4, hks4⟩ := hp
          obtain ⟨h1, h2, h3, h4⟩ := fin none W4 hk4
          refine ⟨_, _, h1, .inl ⟨rfl, ⟨K4, hi4, ks_putN _ hks4 (hI _ _ hi4) (by omega) h2 rfl, h3, h4⟩, ?_⟩⟩
          exact (((hkp.toT hbl).trans (kpT_put _ (by omega) hl2 rfl)).trans (hk4.toT hb4)).trans (kpT_put _ (by omega) h2 rfl)
        | ret =>
          obtain ⟨hk4, hb4, K4, hi4, hks4⟩ := hp
          obtain ⟨h1, h2, h3, h4⟩ := fin (some .ret) W4 hk4
          exact ⟨_, _, h1, .inr ⟨rfl, K4, hi4, ks_putN _ hks4 (hIx _ _ hi4) (by omega) h2 rfl, h3, h4⟩⟩
        | exit id => exact hp.elim
        | goto t => exact hp.elim
        | panic ch => exact hp.elim
        | outgrown => exact hp.elim
      | ret => exact hq.elim
      | exit id => exact hq.elim
      | goto t => exact hq.elim
      | panic ch => exact hq.elim
      | outgrown => exact hq.elim
    · have last : ∀ {W2 : World} {K : List (Nat × Obj)} {o o' : Obj}, KS W0 K W2 → (∀ p ∈ K, p.2.isCells = true) → W2.heap[w.heap.size + 1]? = some o → o.isCells = false → W2.heap[w.heap.size]? = some (.deferred (some [])) → KS W0 ((w.heap.size, .deferred (some [])) :: K) (W2.putObj (w.heap.size + 1) o') := by
        intro W2 K o o' hk hc hl ho hd
        have hk' := ks_putN o' hk hc (by omega) hl ho
        refine ⟨hk'.1, fun p hp => ?_⟩
        rcases List.mem_cons.1 hp with rfl | hp
        · exact (World.putObj_heap_other (by simp only; omega)).trans hd
        · exact hk'.2 p hp
      rintro e W2 ⟨⟨v, rfl⟩, (⟨xs, hS, K, hi, hk, hl, hd⟩ | ⟨pre, hSp, K, hi, hk, hl, hd⟩)⟩
      · exact ⟨none, _, by have := run_endLoop (P := P) hl (by rw [hrec]; simp); rw [hrec] at this; exact this, hdone _ xs K _ hS hi (last hk (hI _ _ hi) hl rfl hd) (Nat.le_refl _)⟩
      · exact ⟨some .ret, _, by have := run_endLoop (P := P) hl (by rw [hrec]; simp); rw [hrec] at this; exact this, hstop _ pre K _ hSp hi (last hk (hIx _ _ hi) hl rfl hd) (Nat.le_refl _)⟩
theorem range_kg {α : Type} {P : Program} {g : Operand} {ps : Array Tmp} {assign body : Code} {Q : Exit → Act → World → Prop} {a : Act} {w : World} {ts : List TypeId}
    {gf : Nat} {lb : Array Value} (hg : a.eval g = .func (.func gf) #[] lb) (eg : ∀ args w, (callFunc gf args).run P w = .ok (.enter gf args) w)
    {encs : α → Array Value} {S Sp : List α → Prop} {N : Nat} {w0 : World} (W0 : Base) (Gd : World → Prop) (hseq : SeqStopsK (FX none) 0 P gf lb encs (fun A B => KpT ts W0.B A B ∧ (Gd A → Gd B)) S Sp N w0) (hb0 : Below w0.heap.size w0 w) (hps : ∀ x, (encs x).size = ps.size)
    (I Ix : List α → List (Nat × Obj) → Prop) (hI : ∀ ys K, I ys K → ∀ p ∈ K, p.2.isCells = true) (hIx : ∀ ys K, Ix ys K → ∀ p ∈ K, p.2.isCells = true) (hGI : ∀ ys K W, I ys K → KS W0 K W → Gd W) {K0 : List (Nat × Obj)} (h0 : I [] K0) (hK0 : KS W0 K0 w)
    (hround : ∀ (L : Nat) (pre : List α) (x : α) (K : List (Nat × Obj)) (W : World), I pre K → KS W0 K W → pre.length < N →
      assign.wpIn (FX (some L)) 0 P (Exit.then (fun a' W2 => KpA ts W W2 ∧ Below W0.B W W2 ∧ ∃ K2, (∀ p ∈ K2, p.2.isCells = true) ∧ KS W0 K2 W2 ∧ ∀ W3, KS W0 K2 W3 → body.wpIn (FX (some L)) 0 P (roundK ts W0 I Ix (pre ++ [x]) W3) a' W3) (fun _ _ _ => False))
        { tmps := (ps.zip (encs x)).foldl (fun t (p, v) => t.setIfInBounds p v) a.tmps, defers := [] } W)
    (hdone : ∀ (D : Nat) (xs : List α) (K : List (Nat × Obj)) (W : World), S xs → I xs K → KS W0 ((D, .deferred (some [])) :: K) W → w.heap.size ≤ D → Q .normal { a with defers := { target := .collected D, args := #[] } :: a.defers } W)
    (hstop : ∀ (D : Nat) (pre : List α) (K : List (Nat × Obj)) (W : World), Sp pre → Ix pre K → KS W0 ((D, .deferred (some [])) :: K) W → w.heap.size ≤ D → Code.ret.wpIn (FX none) 0 P Q { a with defers := { target := .collected D, args := #[] } :: a.defers } W) :
    (Code.rangeFunc g ps assign body).wpIn (FX none) 0 P Q a w := by
  refine wpIn_rangeFunc ?_
  intro fn _
  have hwB := hK0.size
  obtain ⟨rec, hrec⟩ : ∃ rec : LoopState → Option Code → Loop, rec = fun st pe => { state := st, pending := pe, fn, tmps := a.tmps, params := ps, assign, body, defers := w.heap.size } := ⟨_, rfl⟩
  obtain ⟨W1, hW1⟩ : ∃ W1, (w.alloc (.deferred (some []))).alloc (.loop (rec .ready none)) = W1 := ⟨_, rfl⟩
  have hz1 : W1.heap.size = w.heap.size + 2 := by rw [← hW1]; simp
  have hL1 : W1.heap[w.heap.size + 1]? = some (.loop (rec .ready none)) := by
    rw [← hW1]; have := World.alloc_heap_new (w.alloc (.deferred (some []))) (.loop (rec .ready none)); rwa [World.size_alloc] at this
  have hD1 : W1.heap[w.heap.size]? = some (.deferred (some [])) := by
    rw [← hW1]; exact (Below.heap_alloc _ _ _ (by simp)).trans (World.alloc_heap_new w _)
  have hw1 : Below w.heap.size w W1 := by rw [← hW1]; exact ((Below.refl _ w).alloc (Nat.le_refl _) _).alloc (by simp) _
  have hK1 : KS W0 K0 W1 := hK0.below hw1
  refine ⟨w.heap.size + 1, [{ target := .collected w.heap.size, args := #[] }], W1, { target := .fn (.func gf) lb, args := #[.func (.yield (w.heap.size + 1)) #[] #[]] }, W1, gf,
    #[.func (.yield (w.heap.size + 1)) #[] #[]] ++ lb, W1, ?_, ?_, fun _ _ => trivial, ?_, (fun h => by cases h), ?_⟩
  · rw [← hW1, hrec]; exact run_enterLoop_outer _ _ _ _ _
  · simp only [resolve, hg]
    simp [go_sem]
  · simp [invoke, go_sem, eg]
  · have stay : ∀ {A B : World} {row : Option Nat} {l : Nat} {o : Obj}, A.grownBy B row → (∀ r, row = some r → W1.heap.size ≤ r ∧ ∃ o : Obj, A.heap[r]? = some o ∧ o.isWalk = true) → A.heap[l]? = some o → o.isWalk = false → B.heap[l]? = some o := fun hg' hr hl ho => by
      refine (hg'.block _ (lt_of_block hl) (fun e => ?_)).trans hl
      obtain ⟨_, o', ho', hw'⟩ := hr _ e.symm
      rw [hl] at ho'; cases ho'; rw [ho] at hw'; cases hw'
    refine ((callsAnyX (hseq (w.heap.size + 1)
      (fun pre W => ∃ K, I pre K ∧ KS W0 K W ∧ W.heap[w.heap.size + 1]? = some (.loop (rec .ready none)) ∧ W.heap[w.heap.size]? = some (.deferred (some [])))
      (fun pre W => ∃ K, Ix pre K ∧ KS W0 K W ∧ W.heap[w.heap.size + 1]? = some (.loop (rec .done (some .ret))) ∧ W.heap[w.heap.size]? = some (.deferred (some [])))
      W1 (hb0.trans (hw1.mono hb0.size)) ?_ ?_ ?_ ⟨K0, h0, hK1, hL1, hD1⟩) : CallsIn (FX none) (0 - 1) P gf _ W1 _)).mono ?_
    · rintro s A B row ⟨K, h1, h2, h3, h4⟩ hg' hr
      exact ⟨K, h1, ks_grown h2 (hI _ _ h1) hg' (fun r e => by obtain ⟨hB, o, ho, hw⟩ := hr r e; exact ⟨by omega, o, ho, Obj.not_cells_of_walk hw⟩), stay hg' hr h3 rfl, stay hg' hr h4 rfl⟩
    · rintro s A B row ⟨K, h1, h2, h3, h4⟩ hg' hr
      exact ⟨K, h1, ks_grown h2 (hIx _ _ h1) hg' (fun r e => by obtain ⟨hB, o, ho, hw⟩ := hr r e; exact ⟨by omega, o, ho, Obj.not_cells_of_walk hw⟩), stay hg' hr h3 rfl, stay hg' hr h4 rfl⟩
    · rintro pre x W ⟨K, hi, hk, hl, hd⟩ hlen
      have hy := run_yield (P := P) (args := encs x) hl (by rw [hrec]; exact hps x)
      rw [hrec] at hy
      refine ⟨fn, _, assign, body, hy, roundIn_of_wpIn (F := FX none) trivial (wpIn_mono (hround _ pre x K W hi hk hlen) ?_)⟩
      clear hy
      rintro e a' W2 hq
      cases e with
      | normal =>
        obtain ⟨hkp, hbl, K2, hc2, hk2, hq⟩ := hq
        have hl2 := hkp.same _ _ hl rfl
        have hd2 := hkp.same _ _ hd rfl
        refine ⟨_, run_beginRound hl2 (by rw [hrec]), ?_⟩
        have hlt2 := lt_of_block hl2
        have hl3 : (W2.putObj (w.heap.size + 1) (.loop { rec .ready none with state := .busy })).heap[w.heap.size + 1]? = some (.loop { rec .ready none with state := .busy }) := World.putObj_heap_same hlt2
        have hd3 : (W2.putObj (w.heap.size + 1) (.loop { rec .ready none with state := .busy })).heap[w.heap.size]? = some (.deferred (some [])) := (World.putObj_heap_other (by omega)).trans hd2
        have hk3 : KS W0 K2 (W2.putObj (w.heap.size + 1) (.loop { rec .ready none with state := .busy })) := ks_putN _ hk2 hc2 (by omega) hl2 rfl
        refine wpIn_mono (hq _ hk3) ?_
        clear hq
        have fin : ∀ (jump : Option Code) (W4 : World), KpA ts (W2.putObj (w.heap.size + 1) (.loop { rec .ready none with state := .busy })) W4 →
            (Instr.endRound (w.heap.size + 1) jump).run P W4 = .ok (.bool jump.isNone) (W4.putObj (w.heap.size + 1) (.loop (rec (if jump.isNone then .ready else .done) jump))) ∧ W4.heap[w.heap.size + 1]? = some (.loop { rec .ready none with state := .busy }) ∧
            (W4.putObj (w.heap.size + 1) (.loop (rec (if jump.isNone then .ready else .done) jump))).heap[w.heap.size + 1]? = some (.loop (rec (if jump.isNone then .ready else .done) jump)) ∧ (W4.putObj (w.heap.size + 1) (.loop (rec (if jump.isNone then .ready else .done) jump))).heap[w.heap.size]? = some (.deferred (some [])) := fun jump W4 hk4 => by
          have hl4 := hk4.same _ _ hl3 rfl
          have hd4 := hk4.same _ _ hd3 rfl
          have hrun := run_endRound (P := P) jump hl4
          rw [hrec] at hrun hl4 ⊢
          exact ⟨hrun, hl4, World.putObj_heap_same (lt_of_block hl4), (World.putObj_heap_other (by omega)).trans hd4⟩
        rintro e a3 W4 hp
        cases e with
        | normal =>
          obtain ⟨hk4, hb4, K4, hi4, hks4⟩ := hp
          obtain ⟨h1, h2, h3, h4⟩ := fin none W4 hk4
          refine ⟨_, _, h1, .inl ⟨rfl, ⟨K4, hi4, ks_putN _ hks4 (hI _ _ hi4) (by omega) h2 rfl, h3, h4⟩, ?_⟩⟩
          exact ⟨(((hkp.toT hbl).trans (kpT_put _ (by omega) hl2 rfl)).trans (hk4.toT hb4)).trans (kpT_put _ (by omega) h2 rfl), fun _ => hGI _ _ _ hi4 (ks_putN _ hks4 (hI _ _ hi4) (by omega) h2 rfl)⟩
        | ret =>
          obtain ⟨hk4, hb4, K4, hi4, hks4⟩ := hp
          obtain ⟨h1, h2, h3, h4⟩ := fin (some .ret) W4 hk4
          exact ⟨_, _, h1, .inr ⟨rfl, K4, hi4, ks_putN _ hks4 (hIx _ _ hi4) (by omega) h2 rfl, h3, h4⟩⟩
        | exit id => exact hp.elim
        | goto t => exact hp.elim
        | panic ch => exact hp.elim
        | outgrown => exact hp.elim
      | ret => exact hq.elim
      | exit id => exact hq.elim
      | goto t => exact hq.elim
      | panic ch => exact hq.elim
      | outgrown => exact hq.elim
    · have last : ∀ {W2 : World} {K : List (Nat × Obj)} {o o' : Obj}, KS W0 K W2 → (∀ p ∈ K, p.2.isCells = true) → W2.heap[w.heap.size + 1]? = some o → o.isCells = false → W2.heap[w.heap.size]? = some (.deferred (some [])) → KS W0 ((w.heap.size, .deferred (some [])) :: K) (W2.putObj (w.heap.size + 1) o') := by
        intro W2 K o o' hk hc hl ho hd
        have hk' := ks_putN o' hk hc (by omega) hl ho
        refine ⟨hk'.1, fun p hp => ?_⟩
        rcases List.mem_cons.1 hp with rfl | hp
        · exact (World.putObj_heap_other (by simp only; omega)).trans hd
        · exact hk'.2 p hp
      rintro e W2 ⟨⟨v, rfl⟩, (⟨xs, hS, K, hi, hk, hl, hd⟩ | ⟨pre, hSp, K, hi, hk, hl, hd⟩)⟩
      · exact ⟨none, _, by have := run_endLoop (P := P) hl (by rw [hrec]; simp); rw [hrec] at this; exact this, hdone _ xs K _ hS hi (last hk (hI _ _ hi) hl rfl hd) (Nat.le_refl _)⟩
      · exact ⟨some .ret, _, by have := run_endLoop (P := P) hl (by rw [hrec]; simp); rw [hrec] at this; exact this, hstop _ pre K _ hSp hi (last hk (hIx _ _ hi) hl rfl hd) (Nat.le_refl _)⟩
theorem abideK {α : Type} {J : List α → World → Prop} {B : Nat} (hJ : AbidesFrom B J) {pre : List α} {W W' : World} {K : List (Nat × Obj)} (h0 : J pre W) (h : KS (W : Base) K W') : J pre W' :=
  hJ pre W W' none h0 ⟨h.1.os, h.1.tape, h.1.output, h.1.size, fun k hk _ => h.1.block k hk⟩ (fun r e => by cases e)
theorem inBlock_exitX (id : Nat) (Q : Exit → Act → World → Prop) (a : Act) (w : World) : Exit.inBlock id Q (.exit id) a w = Q .normal a w := by simp [Exit.inBlock]
theorem then_exitX (id : Nat) (f : Act → World → Prop) (Q : Exit → Act → World → Prop) (a : Act) (w : World) : Exit.then f Q (.exit id) a w = Q (.exit id) a w := rfl
section
variable {P : Program} {n : Nat} {r : Option Nat} {ops : Array Oper} {Q : Exit → Act → World → Prop}
theorem wpl_yield2 {o : Oper} {rest : List Oper} {a : Act} {w : World} {c x x2 : Operand} {tt t2 : TypeId} {l d : Nat} {v v2 : Value} {A B : World → Prop} {tm : Array Value} {df : List Deferred} {T1 T2 : Array Value} (ha : a = ⟨tm, df⟩) (ho : o.op = .call { callee := .value c, args := #[x, x2], argTypes := #[tt, t2] }) (hc : a.eval c = .func (.yield l) #[] #[]) (hx : a.eval x = v) (hx2 : a.eval x2 = v2)
    (hw : Region.wanted o (yielded ops a.tmps) = true) (hd : o.dst = some d) (hY : YieldAt (FX r) (n - 1) P l #[v, v2] w fun e W' => (e = .returned (.bool true) ∧ A W') ∨ (e = .returned (.bool false) ∧ B W'))
    (hT1 : tm.setIfInBounds d (.bool true) = T1) (hT2 : tm.setIfInBounds d (.bool false) = T2)
    (h1 : ∀ W', A W' → wpListIn (FX r) n P ops Q rest ⟨T1, df⟩ W') (h2 : ∀ W', B W' → wpListIn (FX r) n P ops Q rest ⟨T2, df⟩ W') : wpListIn (FX r) n P ops Q (o :: rest) a w := by
  subst ha
  obtain ⟨fn, tmps, assign, body, hy, hR⟩ := hY
  refine wpListIn_step fun K hK => ?_
  rw [if_pos hw]
  refine ⟨fun _ _ => trivial, ?_⟩
  rw [Oper.semAt_eq _ _ _ (fun c' e => by rw [ho] at e; cases e)]
  have hrun : (execOp (Act.eval ⟨tm, df⟩) o).run P w = .ok (.round l fn tmps assign body) w := by
    generalize Act.eval ⟨tm, df⟩ = ev at hc hx hx2
    simp [execOp, ho, resolve, invoke, hc, hx, hx2, hy, Deferred.ofValue]
  rw [hrun]
  refine ⟨(fun hh => by cases hh), hR.mono ?_⟩
  rintro e W' (⟨rfl, hA⟩ | ⟨rfl, hB⟩)
  · refine hK _ _ ?_
    rw [hd]
    simp only [Act.put]
    rw [hT1]
    exact h1 W' hA
  · refine hK _ _ ?_
    rw [hd]
    simp only [Act.put]
    rw [hT2]
    exact h2 W' hB
end
theorem run_slA {P : Program} {T E : TypeId} {n sz g : Nat} {o : Oper} {a : Act} {x : Operand} (ho : o.op = .slice T x none none none) (hT : P.underlying T = some (.array n E)) (hl : P.arrayLen T = n) (he : P.elem T = E) (hx : a.eval x = .pointer (some ⟨g, 0, none⟩)) (hs : (P.info? E).map (·.size) = some sz) (w : World) : (execOp a.eval o).run P w = .ok (.value (.slice (some ⟨g, 0, none⟩) n n)) w := by
  unfold execOp
  rw [ho]
  have h := run_sliceAt_array_all (P := P) w T ⟨g, 0, none⟩ (by rw [hl, he]; exact hT)
  rw [hl, he] at h
  obtain ⟨i, hi, hz⟩ := Option.map_eq_some_iff.1 hs
  have h2 : (Go.sizeOf E).run P w = .ok sz w := by simp [Go.sizeOf, typeInfo, hi, hz]
  rw [h2] at h
  simp only [Result.andThen_ok, slicedAt, Nat.zero_mul, Nat.sub_zero] at h
  have hadd : (⟨g, 0, none⟩ : Addr).add 0 = ⟨g, 0, none⟩ := by unfold Addr.add; split <;> simp_all
  rw [hadd] at h
  simp [hx, h]
end Tw
/- Slots of a ship, one after the other. -/
namespace Go.Proofs.YthpooalhibedpaaDoor
open Go Go.RowKit Tw
def encSl (x : Slt) : Array Value := #[.agg (sltC x).toArray]
def colR (z k : Nat) : Nat → Nat → List Slt
  | 0, _ => []
  | r + 1, t => tierS z k t ++ colR z k r (t + 1)
theorem colR_app (z k : Nat) : ∀ (r t : Nat), colR z k r t = (List.range' t r).flatMap (tierS z k)
  | 0, t => by simp [colR]
  | r + 1, t => by simp [colR, colR_app z k r (t + 1), List.range'_succ]
theorem colSl_R (z k : Nat) (n : Int) : colSl z k n = colR z k n.toNat 0 := by
  rw [colR_app, colSl, List.range_eq_range']
theorem slotsF_drop {z : Nat} {cs : List Col} {k i : Nat} {c : Col} (h : cs[i]? = some c) : slotsF z k (cs.drop i) = colR z k c.tiers.toNat 0 ++ slotsF z (k + 1) (cs.drop (i + 1)) := by
  obtain ⟨hk, rfl⟩ := List.getElem?_eq_some_iff.1 h
  rw [List.drop_eq_getElem_cons hk]
  simp only [slotsF, colSl_R]
theorem slotsF_end {z : Nat} {cs : List Col} {k i : Nat} (h : ¬ i < cs.length) : slotsF z k (cs.drop i) = [] := by
  rw [List.drop_eq_nil_of_le (by omega)]; rfl
theorem tierS_drop {z k t j h : Nat} (hj : (hsX z)[j]? = some h) : ((hsX z).drop j).map (fun h => (⟨((k : Nat) : Int), ((t : Nat) : Int), h⟩ : Slt)) = ⟨((k : Nat) : Int), ((t : Nat) : Int), h⟩ :: ((hsX z).drop (j + 1)).map (fun h => (⟨((k : Nat) : Int), ((t : Nat) : Int), h⟩ : Slt)) := by
  obtain ⟨hk, rfl⟩ := List.getElem?_eq_some_iff.1 hj
  rw [List.drop_eq_getElem_cons hk]; rfl
theorem posT_step {cs : List Col} {i : Nat} {c : Col} (h : cs[i]? = some c) : posT (cs.take (i + 1)) = posT (cs.take i) + c.tiers.toNat := by
  have key : ∀ (a b : List Col), posT (a ++ b) = posT a + posT b := by
    intro a b
    induction a with
    | nil => simp [posT]
    | cons x a ih => simp only [List.cons_append, posT, ih]; omega
  obtain ⟨hk, rfl⟩ := List.getElem?_eq_some_iff.1 h
  rw [List.take_succ_eq_append_getElem hk, key]
  simp [posT]
theorem posT_all {cs : List Col} {i : Nat} (h : ¬ i < cs.length) : posT (cs.take i) = posT cs := by rw [List.take_of_length_le (by omega)]
theorem posT_take {cs : List Col} (m : Nat) (h : ∀ c ∈ cs, c.tiers ≤ ((m : Nat) : Int)) (i : Nat) : posT (cs.take i) ≤ i * m := by
  have h1 := posT_le (cs := cs.take i) (m := m) fun c hc => h c (List.mem_of_mem_take hc)
  have h2 : (cs.take i).length ≤ i := by rw [List.length_take]; omega
  exact Nat.le_trans h1 (Nat.mul_le_mul_right _ h2)
def HLx {α : Type} (cells : α → List Value) (p : Option Addr) (l : List α) (T : List (Nat × Obj)) : Prop := ∀ W : World, (∀ b ∈ T, W.heap[b.1]? = some b.2) → SLV W p (l.flatMap cells)
theorem HLx.rl {α : Type} {cells : α → List Value} {W0 : Base} {p : Option Addr} {l : List α} {T : List (Nat × Obj)} (h : HLx cells p l T) : RL cells W0 p l T := fun W hW => h W hW.2
def OutHL {α : Type} (cells : α → List Value) (E : TypeId) (K : List (Nat × Obj)) (l : List α) (v : Value) (K' : List (Nat × Obj)) : Prop := ∃ p c Kl, v = .slice p l.length c ∧ HLx cells p l Kl ∧ (∀ b ∈ Kl, ∃ cur, b.2 = .cells cur E (0, 0)) ∧ (∀ p ∈ K, ∀ q ∈ Kl, q.1 ≠ p.1) ∧ K' = K ++ Kl
theorem calls_hl {α : Type} {P : Program} {cells : α → List Value} {sz : Nat} {W0 : Base} {W : World} {K : List (Nat × Obj)} {E : TypeId} {l : List α} {f : FuncId} {args : Array Value} (hW : KS W0 K W) (h : Calls P f args W fun e w' => ∃ v, e = .returned v ∧ OutV W w' E sz v l.length (l.flatMap cells) ∧ Below W.heap.size W w') :
    Calls P f args W fun e w' => ∃ v K', e = .returned v ∧ KS W0 K' w' ∧ OutHL cells E K l v K' :=
  h.mono fun e w' ⟨v, he, hO, hb⟩ => by
    obtain ⟨Kl, h1, h2, h3⟩ := hO.own hW hb
    rcases h1 with ⟨h0, hx, rfl, rfl⟩ | ⟨g, cap, cur, rfl, hB, hR, rfl⟩
    · exact ⟨_, _, he, h3, none, 0, [], by rw [h0], fun _ _ => .inl hx, (fun _ h => by cases h), h2, rfl⟩
    · exact ⟨_, _, he, h3, some ⟨g, 0, none⟩, cap, _, rfl, fun W' hW' => .inr ⟨g, 0, rfl, lt_of_block (hW' _ (.head _)), hR.cel (hW' _ (.head _))⟩, (fun b hb => by cases List.mem_singleton.1 hb; exact ⟨_, rfl⟩), h2, rfl⟩
theorem own_cells {W0 : Base} {E : TypeId} {sz n : Nat} {v : Value} {xs : List Value} {K : List (Nat × Obj)} (h : OwnL W0 E sz v n xs K) : ∀ p ∈ K, p.2.isCells = true := by
  rcases h with ⟨_, _, _, rfl⟩ | ⟨g, cap, cur, _, _, _, rfl⟩
  · exact fun _ h => by cases h
  · exact fun p hp => by cases List.mem_singleton.1 hp; rfl
theorem own_rest {W0 : Base} {E : TypeId} {sz n : Nat} {v : Value} {xs : List Value} {K K2 : List (Nat × Obj)} {W : World} {ts : List TypeId} (h : OwnL W0 E sz v n xs K) (hK : KS W0 K2 W) (hs : ∀ p ∈ K, p ∈ K2) (ht : E ∈ ts) : Dj K (restT ts W) := by
  rcases h with ⟨_, _, _, rfl⟩ | ⟨g, cap, cur, _, _, _, rfl⟩
  · exact fun _ h => by cases h
  · intro p hp q hq e
    cases List.mem_singleton.1 hp
    exact restT_ne (hK.2 _ (hs _ (.head _))) (by simp [ownT, ht]) q hq e
theorem own_low {W0 : Base} {K : List (Nat × Obj)} {W : World} {g : Nat} (hK : KS W0 K W) (hg : W.heap.size ≤ g) : Dk g K := fun p hp e => by
  have := lt_of_block (hK.2 p hp); omega
def ASI (W0 : Base) (g : Nat) (pre : List Slt) (K : List (Nat × Obj)) : Prop := ∃ v Kl, K = (g, .cells #[v] 35 (0, 0)) :: Kl ∧ OwnL W0 34 3 v pre.length (pre.flatMap sltC) Kl ∧ Dk g Kl
theorem asi_cells {W0 : Base} {g : Nat} (ys : List Slt) (K : List (Nat × Obj)) (h : ASI W0 g ys K) : ∀ p ∈ K, p.2.isCells = true := by
  obtain ⟨v, Kl, rfl, hO, _⟩ := h
  exact List.forall_mem_cons.2 ⟨rfl, own_cells hO⟩
end Go.Proofs.YthpooalhibedpaaDoor
namespace Go.Proofs.YthpooalhibedpaaDoor
open Go Go.RowKit Tw
set_option maxRecDepth 100000 in
set_option maxHeartbeats 4000000 in
theorem slots1_stops (n₀ b1 b2 : Nat) (cs : List Col) (pc : Option Addr) (cc : Nat) (ov : Value) (t : Tl) (z : Nat) (w0 : World) (hn0 : n₀ ≤ w0.heap.size) (hl : cs.length ≤ 1000000) (htm : ∀ c ∈ cs, c.tiers ≤ 1000000)
    (hb1 : w0.heap[b1]? = some (.cells (shC (.slice pc cs.length cc) ov t).toArray 32 (0, 0))) (hb2 : w0.heap[b2]? = some (.cells #[.int .u8 ((z : Nat) : Int)] 5 (0, 0))) (hc : ∀ W, Below n₀ w0 W → SLV W pc (cs.flatMap colC)) :
    SeqStopsK (FX none) 0 Tryd.prog 81 #[.pointer (some ⟨b1, 0, none⟩), .pointer (some ⟨b2, 0, none⟩)] encSl (KpT [34, 35] n₀) (fun ys => ys = slotsX cs z) (fun _ => True) (slotsX cs z).length w0 := by
  intro l J Jx W1 hB0 hJa hJxa hYd hJ0
  have hBw : Below n₀ w0 W1 := hB0.mono hn0
  have hh2 := hsX_len z
  have hR1 : KS (W1 : World) [(b1, .cells (shC (.slice pc cs.length cc) ov t).toArray 32 (0, 0)), (b2, .cells #[.int .u8 ((z : Nat) : Int)] 5 (0, 0))] W1 := ⟨Below.refl _ _, List.forall_mem_cons.2 ⟨(hB0.block b1 (lt_of_block hb1)).trans hb1, List.forall_mem_cons.2 ⟨(hB0.block b2 (lt_of_block hb2)).trans hb2, List.forall_mem_nil _⟩⟩⟩
  refine callsIn_of_wp Tryd.func81 rfl trivial ?_ rfl
  simp only [Tryd.ntmps81, List.size_toArray, List.length_cons, List.length_nil, Nat.reduceAdd, Nat.reduceSub, Array.replicate_succ, Array.replicate_zero, List.push_toArray, List.append_toArray, List.nil_append, List.cons_append]
  refine wpIn_seq ?_
  refine wp_region_LI (W0 := (W1 : World)) [(b1, .cells (shC (.slice pc cs.length cc) (ov) t).toArray 32 (0, 0)), (b2, .cells #[.int .u8 ((z : Nat) : Int)] 5 (0, 0))] (by kernel_rfl) (hR1) ?_
  refine lm (v := .pointer (some ⟨b1, 0, none⟩)) rfl rfl ?_
  refine lv (v := .slice pc cs.length cc) rfl rfl (yb_cell (off := 0) rfl (by kernel_rfl) (.head _) Tryd.underlying22 rfl (by kernel_rfl)) ?_
  refine lp (v := .int .i64 ((cs.length : Nat) : Int)) rfl rfl (run_lenL (p := pc) (cap := cc) (n := cs.length) rfl Tryd.underlying22 (by kernel_rfl)) ?_
  refine lm (v := .int .i64 0) rfl rfl ?_
  refine wpL_done (fun W2 hW2 => ?_)
  have hR2 : KS (W2 : World) [(b1, .cells (shC (.slice pc cs.length cc) (ov) t).toArray 32 (0, 0)), (b2, .cells #[.int .u8 ((z : Nat) : Int)] 5 (0, 0))] W2 := ⟨Below.refl _ _, hW2.2⟩
  have hJ2 := abideK hJa hJ0 hW2
  have hB2 := hBw.trans (hW2.1.mono (Nat.le_trans hn0 hBw.size))
  refine (show Code.wpIn _ _ _ _ _ _ _ from ?_)
  refine wpIn_block ?_
  gi_loopw [12] (fun u12 wr => ∃ (k : Nat) (pre1 : List Slt), (k ≤ cs.length) ∧ (slotsX cs z = pre1 ++ slotsF z k (cs.drop k)) ∧ (J pre1 wr) ∧ (Below n₀ w0 wr) ∧ u12 = .int .i64 ((k : Nat) : Int) ∧ KS (wr : World) [(b1, .cells (shC (.slice pc cs.length cc) (ov) t).toArray 32 (0, 0)), (b2, .cells #[.int .u8 ((z : Nat) : Int)] 5 (0, 0))] wr) (fun u12 _ => cs.length - (intOf u12).toNat)
  case atStart => exact ⟨0, [], (Nat.zero_le _), rfl, hJ2, hB2, rfl, (hR2.sub (fun p hp => by first | exact hp | (simp only [List.mem_cons, List.mem_append, List.nil_append, List.not_mem_nil, or_assoc, or_false, false_or] at hp ⊢ <;> grind)))⟩
  case round =>
    obtain ⟨k, pre1, hk, hx1, hJl2, hBl2, rfl, hL3⟩ := hrel
    have hRl2 := hL3
    refine wpIn_seq ?_
    refine wp_region_LI (W0 := (wr : World)) [(b1, .cells (shC (.slice pc cs.length cc) (ov) t).toArray 32 (0, 0)), (b2, .cells #[.int .u8 ((z : Nat) : Int)] 5 (0, 0))] (by kernel_rfl) (hRl2) ?_
    refine lp (v := .bool (decide (k < cs.length))) rfl rfl (run_bin rfl (vx := (.int .i64 ((k : Nat) : Int))) (vy := (.int .i64 ((cs.length : Nat) : Int))) (by kernel_rfl) (by kernel_rfl) fun w => bn_lss rfl w) ?_
    refine wpL_done (fun W4 hW4 => ?_)
    have hR4 : KS (W4 : World) [(b1, .cells (shC (.slice pc cs.length cc) (ov) t).toArray 32 (0, 0)), (b2, .cells #[.int .u8 ((z : Nat) : Int)] 5 (0, 0))] W4 := ⟨Below.refl _ _, hW4.2⟩
    have hJ4 := abideK hJa hJl2 hW4
    have hB4 := hBl2.trans (hW4.1.mono (Nat.le_trans hn0 hBl2.size))
    refine (show Code.wpIn _ _ _ _ _ _ _ from ?_)
    refine wpIn_seq ?_
    cases hd1 : (decide (k < cs.length)) with
    | false =>
      have h1 : ¬ (k < cs.length) := of_decide_eq_false hd1
      clear hd1
      rw [slotsF_end (by omega), List.append_nil] at hx1
      refine wpIn_cond_false rfl ?_
      refine wpIn_exit ?_
      simp only [then_exitX, inBlock_exitX]
      refine bodyPost_end (results_none rfl _ _ _) rfl ?_
      exact ⟨⟨_, rfl⟩, .inl ⟨_, hx1.symm, hJ4⟩⟩
    | true =>
      have h1 : k < cs.length := of_decide_eq_true hd1
      clear hd1
      refine wpIn_cond_true rfl ?_
      refine wpIn_skip ?_
      refine (show Code.wpIn _ _ _ _ _ _ _ from ?_)
      refine wpIn_seq ?_
      refine wpIn_block ?_
      refine wpIn_seq ?_
      refine wp_region_LI (W0 := (W4 : World)) [(b1, .cells (shC (.slice pc cs.length cc) (ov) t).toArray 32 (0, 0)), (b2, .cells #[.int .u8 ((z : Nat) : Int)] 5 (0, 0))] (by kernel_rfl) (hR4) ?_
      refine lm (v := .int .i64 ((k : Nat) : Int)) rfl rfl ?_
      obtain ⟨y6, g6_, f6_, hy6, hp6, hc6⟩ := RL.at (RL.base (hc _ hB4)) colC_len (by decide) (hR4.sub (fun _ h => by cases h)) (k := k) (by omega)
      have hcol6 := hy6
      have hy6c := hy6
      refine lp (v := .pointer (some ⟨g6_, f6_ + k * 12, none⟩)) rfl rfl (run_idxQ (p := pc) (cap := cc) (n := cs.length) (j := .i64) (k := k) (sz := 12) rfl Tryd.underlying22 (by kernel_rfl) (by kernel_rfl) hp6 (by kernel_rfl) (by omega)) ?_
      refine lv (v := .agg (colC y6).toArray) rfl rfl (yb_rs (off := f6_ + k * 12) (cs := colC y6) rfl (by kernel_rfl) (fun W hW => hc6 W (hW.sub (fun _ h => by cases h))) Tryd.underlying65 rfl (by kernel_rfl)) ?_
      refine wpL_new (fun g => .pointer (some ⟨g, 0, none⟩)) (obi := .cells #[.int .i64 0, .int .i64 0, .bool false, .int .i64 0, .int .i64 0, .int .i64 0, .int .i64 0, .int .i64 0, .slice none 0 0, .int .i64 0, .int .i64 0, .int .i64 0] 65 (0, 0)) rfl rfl (fun _ => by kernel_rfl) (fun _ => by simp only [List.setIfInBounds_toArray, List.set_cons_succ, List.set_cons_zero] <;> rfl) fun g7 Bg7 Fg7 => ?_
      obtain ⟨dj8_0, dj8_1⟩ : b1 ≠ g7 ∧ b2 ≠ g7 := by simpa only [dj_app_l, dj_app_r, dj_cons_l, dj_cons_r, dj_nil_l, dj_nil_r, dk_app, dk_cons, dk_nil, and_true, true_and, and_assoc] using (show Dk g7 [(b1, .cells (shC (.slice pc cs.length cc) (ov) t).toArray 32 (0, 0)), (b2, .cells #[.int .u8 ((z : Nat) : Int)] 5 (0, 0))] from Fg7)
      refine lm (v := .int .i64 ((k : Nat) : Int)) rfl rfl ?_
      refine wpL_s [(g7, .cells (colC y6).toArray 65 (0, 0)), (b1, .cells (shC (.slice pc cs.length cc) (ov) t).toArray 32 (0, 0)), (b2, .cells #[.int .u8 ((z : Nat) : Int)] 5 (0, 0))] rfl rfl (st_row (off := 0) (v := .agg (colC y6).toArray) rfl (by kernel_rfl) (by kernel_rfl) (.head _) Bg7 (by kernel_rfl) (by first | (simp [Value.cells]; done) | exact Nat.le_of_ble_eq_true rfl) (fun v hv => colC_one y6 v hv) (by kernel_rfl) (List.forall_mem_cons.2 ⟨.inl rfl, (List.forall_mem_cons.2 ⟨.inr ⟨(.tail _ (.head _)), (by first | assumption | exact Ne.symm (by assumption))⟩, (List.forall_mem_cons.2 ⟨.inr ⟨(.tail _ (.tail _ (.head _))), (by first | assumption | exact Ne.symm (by assumption))⟩, (List.forall_mem_nil _)⟩)⟩)⟩)) ?_
      refine wpL_done (fun W5 hW5 => ?_)
      have hR5 : KS (W5 : World) [(g7, .cells (colC y6).toArray 65 (0, 0)), (b1, .cells (shC (.slice pc cs.length cc) (ov) t).toArray 32 (0, 0)), (b2, .cells #[.int .u8 ((z : Nat) : Int)] 5 (0, 0))] W5 := ⟨Below.refl _ _, hW5.2⟩
      have hJ5 := abideK hJa hJ4 hW5
      have hB5 := hB4.trans (hW5.1.mono (Nat.le_trans hn0 hB4.size))
      refine (show Code.wpIn _ _ _ _ _ _ _ from ?_)
      refine wpIn_seq ?_
      refine wp_region_LI (W0 := (W5 : World)) [(g7, .cells (colC y6).toArray 65 (0, 0)), (b1, .cells (shC (.slice pc cs.length cc) (ov) t).toArray 32 (0, 0)), (b2, .cells #[.int .u8 ((z : Nat) : Int)] 5 (0, 0))] (by kernel_rfl) (hR5) ?_
      refine lm (v := .pointer (some ⟨g7, 3, none⟩)) rfl rfl ?_
      refine lv (v := .int .i64 y6.tiers) rfl rfl (yb_cell (off := 3) rfl (by kernel_rfl) (.head _) Tryd.underlying3 rfl (by kernel_rfl)) ?_
      refine lm (v := .int .i64 0) rfl rfl ?_
      refine wpL_done (fun W6 hW6 => ?_)
      have hR6 : KS (W6 : World) [(g7, .cells (colC y6).toArray 65 (0, 0)), (b1, .cells (shC (.slice pc cs.length cc) (ov) t).toArray 32 (0, 0)), (b2, .cells #[.int .u8 ((z : Nat) : Int)] 5 (0, 0))] W6 := ⟨Below.refl _ _, hW6.2⟩
      have hJ6 := abideK hJa hJ5 hW6
      have hB6 := hB5.trans (hW6.1.mono (Nat.le_trans hn0 hB5.size))
      refine (show Code.wpIn _ _ _ _ _ _ _ from ?_)
      refine wpIn_block ?_
      rw [slotsF_drop hy6] at hx1
      have htm1 := htm y6 (List.mem_of_getElem? hy6)
      obtain ⟨m, hm⟩ : ∃ m : Nat, y6.tiers.toNat = m := ⟨_, rfl⟩
      rw [hm] at hx1
      gi_loopw [19] (fun u19 wr => ∃ (t0 r0 : Nat) (pre2 : List Slt), (t0 + r0 = m) ∧ (slotsX cs z = pre2 ++ (colR z k r0 t0 ++ slotsF z (k + 1) (cs.drop (k + 1)))) ∧ (J pre2 wr) ∧ (Below n₀ w0 wr) ∧ u19 = .int .i64 ((t0 : Nat) : Int) ∧ KS (wr : World) [(b1, .cells (shC (.slice pc cs.length cc) (ov) t).toArray 32 (0, 0)), (b2, .cells #[.int .u8 ((z : Nat) : Int)] 5 (0, 0))] wr) (fun u19 _ => m - (intOf u19).toNat)
      case atStart => exact ⟨0, m, pre1, (by omega), hx1, hJ6, hB6, rfl, (hR6.sub (fun p hp => by first | exact hp | (simp only [List.mem_cons, List.mem_append, List.nil_append, List.not_mem_nil, or_assoc, or_false, false_or] at hp ⊢ <;> grind)))⟩
      case round =>
        obtain ⟨t0, r0, pre2, ht, hx2, hJl6, hBl6, rfl, hL7⟩ := hrel
        have hRl6 := hL7
        refine wpIn_seq ?_
        refine wp_region_LI (W0 := (wr : World)) [(b1, .cells (shC (.slice pc cs.length cc) (ov) t).toArray 32 (0, 0)), (b2, .cells #[.int .u8 ((z : Nat) : Int)] 5 (0, 0))] (by kernel_rfl) (hRl6) ?_
        refine lp (v := .bool (decide (((t0 : Nat) : Int) < y6.tiers))) rfl rfl (run_bin rfl (vx := (.int .i64 ((t0 : Nat) : Int))) (vy := (.int .i64 y6.tiers)) (by kernel_rfl) (by kernel_rfl) fun w => bi_lss rfl w) ?_
        refine wpL_done (fun W8 hW8 => ?_)
        have hR8 : KS (W8 : World) [(b1, .cells (shC (.slice pc cs.length cc) (ov) t).toArray 32 (0, 0)), (b2, .cells #[.int .u8 ((z : Nat) : Int)] 5 (0, 0))] W8 := ⟨Below.refl _ _, hW8.2⟩
        have hJ8 := abideK hJa hJl6 hW8
        have hB8 := hBl6.trans (hW8.1.mono (Nat.le_trans hn0 hBl6.size))
        refine (show Code.wpIn _ _ _ _ _ _ _ from ?_)
        refine wpIn_seq ?_
        cases hd2 : (decide (((t0 : Nat) : Int) < y6.tiers)) with
        | false =>
          have h2 : ¬ (((t0 : Nat) : Int) < y6.tiers) := of_decide_eq_false hd2
          clear hd2
          obtain rfl : r0 = 0 := by omega
          refine wpIn_cond_false rfl ?_
          refine wpIn_exit ?_
          refine (show Code.wpIn _ _ _ _ _ _ _ from ?_)
          refine wp_region_LI (W0 := (W8 : World)) [(b1, .cells (shC (.slice pc cs.length cc) (ov) t).toArray 32 (0, 0)), (b2, .cells #[.int .u8 ((z : Nat) : Int)] 5 (0, 0))] (by kernel_rfl) (hR8) ?_
          refine lp (v := .int .i64 (((k + 1) : Nat) : Int)) rfl rfl (run_bin rfl (vx := (.int .i64 ((k : Nat) : Int))) (vy := (.int .i64 ((1 : Nat) : Int))) (by kernel_rfl) (by kernel_rfl) fun w => bn_add (z := (k + 1)) rfl (wr_i64 (by omega)) w) ?_
          refine lm (v := .int .i64 (((k + 1) : Nat) : Int)) rfl rfl ?_
          refine wpL_done (fun W9 hW9 => ?_)
          have hR9 : KS (W9 : World) [(b1, .cells (shC (.slice pc cs.length cc) (ov) t).toArray 32 (0, 0)), (b2, .cells #[.int .u8 ((z : Nat) : Int)] 5 (0, 0))] W9 := ⟨Below.refl _ _, hW9.2⟩
          have hJ9 := abideK hJa hJ8 hW9
          have hB9 := hB8.trans (hW9.1.mono (Nat.le_trans hn0 hB8.size))
          go_roundw
          case rel =>
            repeat apply Exists.intro
            exact ⟨⟨k + 1, pre2, (by omega), (by rw [hx2, (show colR z k 0 t0 = [] from rfl), List.nil_append] <;> rfl), hJ9, hB9, rfl, (hR9.sub (fun p hp => by first | exact hp | (simp only [List.mem_cons, List.mem_append, List.nil_append, List.not_mem_nil, or_assoc, or_false, false_or] at hp ⊢ <;> grind)))⟩, rfl⟩
          case measure => (show cs.length - (intOf (.int .i64 (((k + 1) : Nat) : Int))).toNat < cs.length - (intOf (.int .i64 ((k : Nat) : Int))).toNat); simp only [intOf]; omega
        | true =>
          have h2 : ((t0 : Nat) : Int) < y6.tiers := of_decide_eq_true hd2
          clear hd2
          obtain ⟨r, rfl⟩ : ∃ r, r0 = r + 1 := ⟨r0 - 1, by omega⟩
          rw [show colR z k (r + 1) t0 = tierS z k t0 ++ colR z k r (t0 + 1) from rfl] at hx2
          refine wpIn_cond_true rfl ?_
          refine wpIn_skip ?_
          refine (show Code.wpIn _ _ _ _ _ _ _ from ?_)
          refine wpIn_seq ?_
          refine wpIn_block ?_
          refine wpIn_seq ?_
          refine wp_region_LI (W0 := (W8 : World)) [(b1, .cells (shC (.slice pc cs.length cc) (ov) t).toArray 32 (0, 0)), (b2, .cells #[.int .u8 ((z : Nat) : Int)] 5 (0, 0))] (by kernel_rfl) (hR8) ?_
          refine lm (v := .int .i64 ((t0 : Nat) : Int)) rfl rfl ?_
          refine lm (v := .int .i64 ((t0 : Nat) : Int)) rfl rfl ?_
          refine wpL_done (fun W10 hW10 => ?_)
          have hR10 : KS (W10 : World) [(b1, .cells (shC (.slice pc cs.length cc) (ov) t).toArray 32 (0, 0)), (b2, .cells #[.int .u8 ((z : Nat) : Int)] 5 (0, 0))] W10 := ⟨Below.refl _ _, hW10.2⟩
          have hJ10 := abideK hJa hJ8 hW10
          have hB10 := hB8.trans (hW10.1.mono (Nat.le_trans hn0 hB8.size))
          refine (show Code.wpIn _ _ _ _ _ _ _ from ?_)
          refine wpIn_seq ?_
          refine wp_region_LI (W0 := (W10 : World)) [(b1, .cells (shC (.slice pc cs.length cc) (ov) t).toArray 32 (0, 0)), (b2, .cells #[.int .u8 ((z : Nat) : Int)] 5 (0, 0))] (by kernel_rfl) (hR10) ?_
          refine lv (v := .int .u8 ((z : Nat) : Int)) rfl rfl (yb_cell (off := 0) rfl (by kernel_rfl) (.tail _ (.head _)) Tryd.underlying5 rfl (by kernel_rfl)) ?_
          refine wpL_c (f := 47) (args := #[.int .u8 ((z : Nat) : Int)]) (OutHL u8C 5 [(b1, .cells (shC (.slice pc cs.length cc) (ov) t).toArray 32 (0, 0)), (b2, .cells #[.int .u8 ((z : Nat) : Int)] 5 (0, 0))] (hsX z)) rfl (by kernel_rfl) (fun _ => (by kernel_rfl)) (fun W hW => calls_hl hW (halves_any z W)) (fun _ => by simp only [List.setIfInBounds_toArray, List.set_cons_succ, List.set_cons_zero] <;> rfl) ?_
          rintro _ _ ⟨ph, ch, Kh, rfl, hHL, hHT, hHN, rfl⟩
          have hTKh : ∀ p ∈ Kh, p.2.isCells = true ∧ ownT [34, 35] p.2 = false := fun p hp => by obtain ⟨cur, e⟩ := hHT p hp; rw [e]; exact ⟨rfl, rfl⟩
          obtain ⟨dj10_0, dj10_1⟩ : Dk b1 Kh ∧ Dk b2 Kh := by simpa only [dj_app_l, dj_app_r, dj_cons_l, dj_cons_r, dj_nil_l, dj_nil_r, dk_app, dk_cons, dk_nil, and_true, true_and, and_assoc] using (show Dj [(b1, .cells (shC (.slice pc cs.length cc) (ov) t).toArray 32 (0, 0)), (b2, .cells #[.int .u8 ((z : Nat) : Int)] 5 (0, 0))] Kh from hHN)
          refine lp (v := .int .i64 ((((hsX z).length) : Nat) : Int)) rfl rfl (run_lenL (p := ph) (cap := ch) (n := (hsX z).length) rfl Tryd.underlying78 (by kernel_rfl)) ?_
          refine lm (v := .int .i64 0) rfl rfl ?_
          refine wpL_done (fun W11 hW11 => ?_)
          have hR11 : KS (W11 : World) ((b1, .cells (shC (.slice pc cs.length cc) (ov) t).toArray 32 (0, 0)) :: (b2, .cells #[.int .u8 ((z : Nat) : Int)] 5 (0, 0)) :: Kh) W11 := ⟨Below.refl _ _, hW11.2⟩
          have hJ11 := abideK hJa hJ10 hW11
          have hB11 := hB10.trans (hW11.1.mono (Nat.le_trans hn0 hB10.size))
          refine (show Code.wpIn _ _ _ _ _ _ _ from ?_)
          refine wpIn_block ?_
          gi_loopw [25] (fun u25 wr => ∃ (j : Nat) (pre3 : List Slt), (j ≤ (hsX z).length) ∧ (slotsX cs z = pre3 ++ (((hsX z).drop j).map (fun h => (⟨((k : Nat) : Int), ((t0 : Nat) : Int), h⟩ : Slt)) ++ (colR z k r (t0 + 1) ++ slotsF z (k + 1) (cs.drop (k + 1))))) ∧ (J pre3 wr) ∧ (Below n₀ w0 wr) ∧ u25 = .int .i64 ((j : Nat) : Int) ∧ KS (wr : World) ((b1, .cells (shC (.slice pc cs.length cc) (ov) t).toArray 32 (0, 0)) :: (b2, .cells #[.int .u8 ((z : Nat) : Int)] 5 (0, 0)) :: Kh) wr) (fun u25 _ => (hsX z).length - (intOf u25).toNat)
          case atStart => exact ⟨0, pre2, (Nat.zero_le _), (by rw [hx2, List.append_assoc]; rfl), hJ11, hB11, rfl, (hR11.sub (fun p hp => by first | exact hp | (simp only [List.mem_cons, List.mem_append, List.nil_append, List.not_mem_nil, or_assoc, or_false, false_or] at hp ⊢ <;> grind)))⟩
          case round =>
            obtain ⟨j, pre3, hj, hx3, hJl11, hBl11, rfl, hL12⟩ := hrel
            have hRl11 := hL12
            refine wpIn_seq ?_
            refine wp_region_LI (W0 := (wr : World)) ((b1, .cells (shC (.slice pc cs.length cc) (ov) t).toArray 32 (0, 0)) :: (b2, .cells #[.int .u8 ((z : Nat) : Int)] 5 (0, 0)) :: Kh) (by kernel_rfl) (hRl11) ?_
            refine lp (v := .bool (decide (j < ((hsX z).length)))) rfl rfl (run_bin rfl (vx := (.int .i64 ((j : Nat) : Int))) (vy := (.int .i64 ((((hsX z).length) : Nat) : Int))) (by kernel_rfl) (by kernel_rfl) fun w => bn_lss rfl w) ?_
            refine wpL_done (fun W13 hW13 => ?_)
            have hR13 : KS (W13 : World) ((b1, .cells (shC (.slice pc cs.length cc) (ov) t).toArray 32 (0, 0)) :: (b2, .cells #[.int .u8 ((z : Nat) : Int)] 5 (0, 0)) :: Kh) W13 := ⟨Below.refl _ _, hW13.2⟩
            have hJ13 := abideK hJa hJl11 hW13
            have hB13 := hBl11.trans (hW13.1.mono (Nat.le_trans hn0 hBl11.size))
            refine (show Code.wpIn _ _ _ _ _ _ _ from ?_)
            refine wpIn_seq ?_
            cases hd3 : (decide (j < ((hsX z).length))) with
            | false =>
              have h3 : ¬ (j < ((hsX z).length)) := of_decide_eq_false hd3
              clear hd3
              refine wpIn_cond_false rfl ?_
              refine wpIn_exit ?_
              refine (show Code.wpIn _ _ _ _ _ _ _ from ?_)
              refine wp_region_LI (W0 := (W13 : World)) ((b1, .cells (shC (.slice pc cs.length cc) (ov) t).toArray 32 (0, 0)) :: (b2, .cells #[.int .u8 ((z : Nat) : Int)] 5 (0, 0)) :: Kh) (by kernel_rfl) (hR13) ?_
              refine lp (v := .int .i64 (((t0 + 1) : Nat) : Int)) rfl rfl (run_bin rfl (vx := (.int .i64 ((t0 : Nat) : Int))) (vy := (.int .i64 ((1 : Nat) : Int))) (by kernel_rfl) (by kernel_rfl) fun w => bn_add (z := (t0 + 1)) rfl (wr_i64 (by omega)) w) ?_
              refine lm (v := .int .i64 (((t0 + 1) : Nat) : Int)) rfl rfl ?_
              refine wpL_done (fun W14 hW14 => ?_)
              have hR14 : KS (W14 : World) ((b1, .cells (shC (.slice pc cs.length cc) (ov) t).toArray 32 (0, 0)) :: (b2, .cells #[.int .u8 ((z : Nat) : Int)] 5 (0, 0)) :: Kh) W14 := ⟨Below.refl _ _, hW14.2⟩
              have hJ14 := abideK hJa hJ13 hW14
              have hB14 := hB13.trans (hW14.1.mono (Nat.le_trans hn0 hB13.size))
              go_roundw
              case rel =>
                repeat apply Exists.intro
                exact ⟨⟨t0 + 1, r, pre3, (by omega), (by rw [hx3, (show ((hsX z).drop j).map (fun h => (⟨((k : Nat) : Int), ((t0 : Nat) : Int), h⟩ : Slt)) = [] from by rw [List.drop_eq_nil_of_le (by omega)]; rfl), List.nil_append] <;> rfl), hJ14, hB14, rfl, (hR14.sub (fun p hp => by first | exact hp | (simp only [List.mem_cons, List.mem_append, List.nil_append, List.not_mem_nil, or_assoc, or_false, false_or] at hp ⊢ <;> grind)))⟩, rfl⟩
              case measure => (show m - (intOf (.int .i64 (((t0 + 1) : Nat) : Int))).toNat < m - (intOf (.int .i64 ((t0 : Nat) : Int))).toNat); simp only [intOf]; omega
            | true =>
              have h3 : j < ((hsX z).length) := of_decide_eq_true hd3
              clear hd3
              refine wpIn_cond_true rfl ?_
              refine wpIn_skip ?_
              refine (show Code.wpIn _ _ _ _ _ _ _ from ?_)
              refine wpIn_seq ?_
              refine wpIn_block ?_
              refine wpIn_seq ?_
              refine wp_region_LI (W0 := (W13 : World)) ((b1, .cells (shC (.slice pc cs.length cc) (ov) t).toArray 32 (0, 0)) :: (b2, .cells #[.int .u8 ((z : Nat) : Int)] 5 (0, 0)) :: Kh) (by kernel_rfl) (hR13) ?_
              obtain ⟨y11, g11_, f11_, hy11, hp11, hc11⟩ := RL.at (HLx.rl hHL) u8C_len (by decide) (hR13.sub (fun p hp => by simp only [List.mem_cons, List.mem_append, List.nil_append, List.not_mem_nil, or_assoc, or_false, false_or, hp, true_or, or_true])) (k := j) (by omega)
              rw [tierS_drop hy11] at hx3
              refine lp (v := .pointer (some ⟨g11_, f11_ + j * 1, none⟩)) rfl rfl (run_idxQ (p := ph) (cap := ch) (n := (hsX z).length) (j := .i64) (k := j) (sz := 1) rfl Tryd.underlying78 (by kernel_rfl) (by kernel_rfl) hp11 (by kernel_rfl) (by omega)) ?_
              refine lv (v := .int .u8 ((y11 : Nat) : Int)) rfl rfl (yb_rf (v := .int .u8 ((y11 : Nat) : Int)) rfl (by kernel_rfl) (fun W hW => hc11 W (hW.sub (fun p hp => by simp only [List.mem_cons, List.mem_append, List.nil_append, List.not_mem_nil, or_assoc, or_false, false_or, hp, true_or, or_true])) 0 _ rfl) Tryd.underlying5 rfl) ?_
              refine lm (v := .int .u8 ((y11 : Nat) : Int)) rfl rfl ?_
              refine wpL_done (fun W15 hW15 => ?_)
              have hR15 : KS (W15 : World) ((b1, .cells (shC (.slice pc cs.length cc) (ov) t).toArray 32 (0, 0)) :: (b2, .cells #[.int .u8 ((z : Nat) : Int)] 5 (0, 0)) :: Kh) W15 := ⟨Below.refl _ _, hW15.2⟩
              have hJ15 := abideK hJa hJ13 hW15
              have hB15 := hB13.trans (hW15.1.mono (Nat.le_trans hn0 hB13.size))
              refine (show Code.wpIn _ _ _ _ _ _ _ from ?_)
              refine wpIn_seq ?_
              refine wp_region_S (W0 := (W15 : World)) (List.take 5 _) (List.drop 5 _) ((b1, .cells (shC (.slice pc cs.length cc) (ov) t).toArray 32 (0, 0)) :: (b2, .cells #[.int .u8 ((z : Nat) : Int)] 5 (0, 0)) :: Kh) (List.take_append_drop 5 _).symm (by kernel_rfl) (hR15) ?_
              simp only [List.take_succ_cons, List.take_zero, List.drop_succ_cons, List.drop_zero]
              refine lm (v := .func (.yield l) #[] #[]) rfl rfl ?_
              refine lm (v := .int .i64 ((k : Nat) : Int)) rfl rfl ?_
              refine lm (v := .int .i64 ((t0 : Nat) : Int)) rfl rfl ?_
              refine lm (v := .int .u8 ((y11 : Nat) : Int)) rfl rfl ?_
              refine lm (v := .agg #[.int .i64 ((k : Nat) : Int), .int .i64 ((t0 : Nat) : Int), .int .u8 ((y11 : Nat) : Int)]) rfl rfl ?_
              refine wpL_done (fun W16 hW16 => ?_)
              have hR16 : KS (W16 : World) ((b1, .cells (shC (.slice pc cs.length cc) (ov) t).toArray 32 (0, 0)) :: (b2, .cells #[.int .u8 ((z : Nat) : Int)] 5 (0, 0)) :: Kh) W16 := ⟨Below.refl _ _, hW16.2⟩
              have hJ16 := abideK hJa hJ15 hW16
              have hB16 := hB15.trans (hW16.1.mono (Nat.le_trans hn0 hB15.size))
              refine (show wpListIn _ _ _ _ _ _ _ _ from ?_)
              have hYY := hYd pre3 (⟨((k : Nat) : Int), ((t0 : Nat) : Int), y11⟩ : Slt) W16 hJ16 (by rw [hx3]; simp)
              refine wpl_yield rfl rfl (by kernel_rfl) (by kernel_rfl) (by kernel_rfl) rfl hYY (by simp only [List.setIfInBounds_toArray, List.set_cons_succ, List.set_cons_zero] <;> rfl) (by simp only [List.setIfInBounds_toArray, List.set_cons_succ, List.set_cons_zero] <;> rfl) (fun W17 hA17 => ?_) (fun W17 hX17 => ?_)
              · obtain ⟨hJy17, hKy17⟩ := hA17
                have hko17 : ∀ p ∈ (((b1, .cells (shC (.slice pc cs.length cc) (ov) t).toArray 32 (0, 0)) :: (b2, .cells #[.int .u8 ((z : Nat) : Int)] 5 (0, 0)) :: Kh) : List (Nat × Obj)), p.2.isCells = true ∧ ownT [34, 35] p.2 = false := (List.forall_mem_cons.2 ⟨⟨rfl, rfl⟩, (List.forall_mem_cons.2 ⟨⟨rfl, rfl⟩, hTKh⟩)⟩)
                have hR17 : KS (W17 : World) ((b1, .cells (shC (.slice pc cs.length cc) (ov) t).toArray 32 (0, 0)) :: (b2, .cells #[.int .u8 ((z : Nat) : Int)] 5 (0, 0)) :: Kh) W17 := ⟨Below.refl _ _, fun p hp => hKy17.same _ _ (hR16.2 p hp) (hko17 p hp).1 (hko17 p hp).2⟩
                have hB17 := hB16.trans hKy17.below
                refine wpl_rest (W0 := (W17 : World)) ((b1, .cells (shC (.slice pc cs.length cc) (ov) t).toArray 32 (0, 0)) :: (b2, .cells #[.int .u8 ((z : Nat) : Int)] 5 (0, 0)) :: Kh) (by kernel_rfl) (hR17) ?_
                refine lm (v := .bool false) rfl rfl ?_
                refine wpL_done (fun W18 hW18 => ?_)
                have hR18 : KS (W18 : World) ((b1, .cells (shC (.slice pc cs.length cc) (ov) t).toArray 32 (0, 0)) :: (b2, .cells #[.int .u8 ((z : Nat) : Int)] 5 (0, 0)) :: Kh) W18 := ⟨Below.refl _ _, hW18.2⟩
                have hJ18 := abideK hJa hJy17 hW18
                have hB18 := hB17.trans (hW18.1.mono (Nat.le_trans hn0 hB17.size))
                refine (show Code.wpIn _ _ _ _ _ _ _ from ?_)
                refine wpIn_cond_false rfl ?_
                refine wpIn_skip ?_
                refine (show Code.wpIn _ _ _ _ _ _ _ from ?_)
                refine wp_region_LI (W0 := (W18 : World)) ((b1, .cells (shC (.slice pc cs.length cc) (ov) t).toArray 32 (0, 0)) :: (b2, .cells #[.int .u8 ((z : Nat) : Int)] 5 (0, 0)) :: Kh) (by kernel_rfl) (hR18) ?_
                refine lp (v := .int .i64 (((j + 1) : Nat) : Int)) rfl rfl (run_bin rfl (vx := (.int .i64 ((j : Nat) : Int))) (vy := (.int .i64 ((1 : Nat) : Int))) (by kernel_rfl) (by kernel_rfl) fun w => bn_add (z := (j + 1)) rfl (wr_i64 (by omega)) w) ?_
                refine lm (v := .int .i64 (((j + 1) : Nat) : Int)) rfl rfl ?_
                refine wpL_done (fun W19 hW19 => ?_)
                have hR19 : KS (W19 : World) ((b1, .cells (shC (.slice pc cs.length cc) (ov) t).toArray 32 (0, 0)) :: (b2, .cells #[.int .u8 ((z : Nat) : Int)] 5 (0, 0)) :: Kh) W19 := ⟨Below.refl _ _, hW19.2⟩
                have hJ19 := abideK hJa hJ18 hW19
                have hB19 := hB18.trans (hW19.1.mono (Nat.le_trans hn0 hB18.size))
                go_roundw
                case rel =>
                  repeat apply Exists.intro
                  exact ⟨⟨j + 1, (pre3 ++ [(⟨((k : Nat) : Int), ((t0 : Nat) : Int), y11⟩ : Slt)]), (by omega), (by rw [hx3]; simp), hJ19, hB19, rfl, (hR19.sub (fun p hp => by first | exact hp | (simp only [List.mem_cons, List.mem_append, List.nil_append, List.not_mem_nil, or_assoc, or_false, false_or] at hp ⊢ <;> grind)))⟩, rfl⟩
                case measure => (show (hsX z).length - (intOf (.int .i64 (((j + 1) : Nat) : Int))).toNat < (hsX z).length - (intOf (.int .i64 ((j : Nat) : Int))).toNat); simp only [intOf]; omega
              · refine wpl_rest (W0 := (W17 : World)) [] (by kernel_rfl) ((KS.start W17)) ?_
                refine lm (v := .bool true) rfl rfl ?_
                refine wpL_done (fun W20 hW20 => ?_)
                refine (show Code.wpIn _ _ _ _ _ _ _ from ?_)
                refine wpIn_cond_true rfl ?_
                refine wpIn_ret ?_
                try simp only [inBlock_ret, then_ret]
                refine bodyPost_ret (results_none rfl _ _ _) rfl ?_
                exact ⟨⟨_, rfl⟩, .inr ⟨_, trivial, abideK hJxa hX17 hW20⟩⟩
end Go.Proofs.YthpooalhibedpaaDoor
/- Without a column, without a cover: plain facts; slices from a place on. -/
namespace Go.Proofs.YthpooalhibedpaaDoor
open Go Go.RowKit Tw
theorem own_rnone {α : Type} {cells : α → List Value} {sz : Nat} {W0 : Base} {E : TypeId} {g : Nat} (hB : W0.B ≤ g) : OwnL W0 E sz (.slice (some ⟨g, 0, none⟩) 0 0) 0 (([] : List α).flatMap cells) [(g, .cells #[] E (0, 0))] :=
  .inr ⟨g, 0, _, rfl, hB, ⟨by simp, by unfold maxLen; omega, Nat.le_refl _, by simp, by simp⟩, rfl⟩
theorem run_sll {P : Program} {T E : TypeId} {o : Oper} {a : Act} {p : Option Addr} {n c i sz : Nat} {x y : Operand} {k1 : IntKind} (ho : o.op = .slice T x (some y) none none) (hT : P.underlying T = some (.slice E)) (hsz : (P.info? E).map (·.size) = some sz) (hx : a.eval x = .slice p n c) (hy : a.eval y = .int k1 ((i : Nat) : Int)) (hi : i ≤ n) (hn : n ≤ c) (w : World) : (execOp a.eval o).run P w = .ok (.value (.slice (cutQ p c i sz) (n - i) (c - i))) w := by
  have e1 := fun q => sl_bound (P := P) (k := k1) (c := q) hi w
  have e2 := fun q => sl_bound (P := P) (k := .i64) (c := q) hn w
  unfold execOp cutQ
  cases hq : P.info? E with
  | none => simp [hq] at hsz
  | some q =>
    have hs : q.size = sz := by simpa [hq] using hsz
    simp [ho, hx, hy, Instr.sliceAt, Instr.slice, Instr.sliceBounds, run_underlying hT, e1, e2, Go.sizeOf, typeInfo, hq, hs]
-- without an element
section
variable {α : Type} {l : List α} {k : Nat} {x : α}
theorem er_sub (l : List α) (k : Nat) : (l.take k ++ l.drop (k + 1)).Sublist l := by
  rw [← List.eraseIdx_eq_take_drop_succ]; exact List.eraseIdx_sublist ..
theorem er_len (h : k < l.length) : (l.take k ++ l.drop (k + 1)).length = l.length - 1 := by
  rw [List.length_append, List.length_take, List.length_drop]; omega
theorem er_split (h : l[k]? = some x) : l = l.take k ++ x :: l.drop (k + 1) := by
  obtain ⟨hk, rfl⟩ := List.getElem?_eq_some_iff.1 h
  conv => lhs; rw [← List.take_append_drop k l, List.drop_eq_getElem_cons hk]
end
def sumT : List Col → Int
  | [] => 0
  | c :: cs => c.tiers + sumT cs
theorem sumT_app (a b : List Col) : sumT (a ++ b) = sumT a + sumT b := by
  induction a with
  | nil => simp [sumT]
  | cons c a ih => simp only [List.cons_append, sumT, ih]; omega
theorem tiers_sum {cs : List Col} : ∀ {m : Int}, (∀ c ∈ cs, 1 ≤ c.tiers ∧ c.tiers ≤ 10) → 0 ≤ m → m + 10 * ((cs.length : Nat) : Int) ≤ 1000000 → tiersF m cs = m + sumT cs ∧ 0 ≤ sumT cs ∧ sumT cs ≤ 10 * ((cs.length : Nat) : Int) := by
  induction cs with
  | nil => intro m _ _ _; exact ⟨by simp [tiersF, sumT], by simp [sumT], by simp [sumT]⟩
  | cons c cs ih =>
    intro m h h0 h1
    have hc := h c (.head _)
    rw [List.length_cons] at h1 ⊢
    have e : IntKind.i64.wrap (m + c.tiers) = m + c.tiers := wi_i64 (by omega)
    obtain ⟨i1, i2, i3⟩ := ih (m := m + c.tiers) (fun x hx => h x (.tail _ hx)) (by omega) (by omega)
    refine ⟨?_, ?_, ?_⟩
    · show tiersF (IntKind.i64.wrap (m + c.tiers)) cs = _
      rw [e, i1]; simp only [sumT]; omega
    · simp only [sumT]; omega
    · simp only [sumT]; omega
section
variable {cs : List Col}
theorem good_tiers (h : Good cs) : ∀ c ∈ cs, 1 ≤ c.tiers ∧ c.tiers ≤ 10 := fun c hc => by
  have := colx_in (h.1 c hc).1; omega
theorem places_is (h : Good cs) (h2 : cs.length ≤ 12) : placesX cs = 2 * sumT cs ∧ 0 ≤ sumT cs ∧ sumT cs ≤ 120 := by
  obtain ⟨h3, h4, h5⟩ := tiers_sum (m := 0) (good_tiers h) (by omega) (by omega)
  refine ⟨?_, h4, by omega⟩
  unfold placesX
  rw [h3, Int.zero_add]
  exact wi_i64 (by omega)
theorem less_good (h : Good cs) (k : Nat) : Good (cs.take k ++ cs.drop (k + 1)) := good_sub h (er_sub cs k)
theorem less_places (h : Good cs) (h2 : cs.length ≤ 12) {k : Nat} {c : Col} (hc : cs[k]? = some c) : placesX (cs.take k ++ cs.drop (k + 1)) = placesX cs - 2 * c.tiers := by
  have hk := (List.getElem?_eq_some_iff.1 hc).1
  obtain ⟨e1, _, _⟩ := places_is h h2
  obtain ⟨e2, _, _⟩ := places_is (less_good h k) (by rw [er_len hk]; omega)
  have e3 : sumT cs = sumT (cs.take k) + (c.tiers + sumT (cs.drop (k + 1))) := by
    conv => lhs; rw [er_split hc, sumT_app]
    rfl
  rw [e1, e2, sumT_app]; omega
theorem tallF_ge : ∀ (cs : List Col) (m : Int), m ≤ tallF m cs ∧ ∀ c ∈ cs, c.tiers ≤ tallF m cs
  | [], m => ⟨Int.le_refl _, fun _ h => by cases h⟩
  | c :: cs, m => by
    obtain ⟨h1, h2⟩ := tallF_ge cs (max m c.tiers)
    refine ⟨by show m ≤ tallF (max m c.tiers) cs; omega, fun x hx => ?_⟩
    show x.tiers ≤ tallF (max m c.tiers) cs
    rcases List.mem_cons.1 hx with rfl | hx
    · omega
    · exact h2 x hx
theorem tallF_in : ∀ (cs : List Col) (m : Int), tallF m cs = m ∨ ∃ c ∈ cs, tallF m cs = c.tiers
  | [], m => .inl rfl
  | c :: cs, m => by
    rcases tallF_in cs (max m c.tiers) with h | ⟨x, hx, h⟩
    · rcases Int.le_total m c.tiers with hm | hm
      · exact .inr ⟨c, .head _, by show tallF (max m c.tiers) cs = _; rw [h]; omega⟩
      · exact .inl (by show tallF (max m c.tiers) cs = _; rw [h]; omega)
    · exact .inr ⟨x, .tail _ hx, h⟩
theorem tall_ge {c : Col} (hc : c ∈ cs) : c.tiers ≤ tallX cs := by
  cases cs with
  | nil => cases hc
  | cons d cs =>
    obtain ⟨h1, h2⟩ := tallF_ge cs d.tiers
    rcases List.mem_cons.1 hc with rfl | hc
    · exact h1
    · exact h2 c hc
theorem tall_in : cs = [] ∨ ∃ c ∈ cs, tallX cs = c.tiers := by
  cases cs with
  | nil => exact .inl rfl
  | cons d cs =>
    rcases tallF_in cs d.tiers with h | ⟨x, hx, h⟩
    · exact .inr ⟨d, .head _, h⟩
    · exact .inr ⟨x, .tail _ hx, h⟩
theorem less_tall (h : Good cs) (h0 : 0 < cs.length) (k : Nat) : tallX (cs.take k ++ cs.drop (k + 1)) ≤ tallX cs := by
  rcases tall_in (cs := cs.take k ++ cs.drop (k + 1)) with e | ⟨c, hc, e⟩
  · rw [e]
    have hm : cs[0] ∈ cs := List.getElem_mem h0
    have h1 := tall_ge hm
    have h2 := good_tiers h _ hm
    show (0 : Int) ≤ _
    omega
  · rw [e]; exact tall_ge ((er_sub cs k).subset hc)
theorem less_right (h : Good cs) (h2 : cs.length ≤ 12) {k : Nat} (hk : k < cs.length) {os : List Cov} (ho : GoodO (os.map fun o => (o.bay, o.rows))) : rightX (cs.take k ++ cs.drop (k + 1)) os = decide (1 < cs.length) := by
  have hl := er_len hk
  by_cases h1 : 1 < cs.length
  · rw [decide_eq_true h1]
    exact good_right (less_good h k) (by omega) (by omega) ho
  · rw [decide_eq_false h1]
    have e : cs.take k ++ cs.drop (k + 1) = [] := List.eq_nil_of_length_eq_zero (by omega)
    rw [e]; rfl
theorem find_at (h : Good cs) {i : Nat} {c : Col} (hc : cs[i]? = some c) : fst (isAt c.bay c.row c.deck) cs = some i :=
  fst_is hc (isAt_place.2 rfl) fun j y hj hy => by
    cases e : isAt c.bay c.row c.deck y with
    | false => rfl
    | true =>
      have := good_inj h hy hc (isAt_place.1 e)
      omega
theorem less_find (h : Good cs) {i k : Nat} {c : Col} (hc : cs[i]? = some c) (hk : k < cs.length) : (fst (isAt c.bay c.row c.deck) (cs.take k ++ cs.drop (k + 1))).isSome = !decide (i = k) := by
  have hi := (List.getElem?_eq_some_iff.1 hc).1
  by_cases e : i = k
  · subst e
    rw [decide_eq_true rfl]
    have : fst (isAt c.bay c.row c.deck) (cs.take i ++ cs.drop (i + 1)) = none := fst_mem_none fun x hx => by
      cases e : isAt c.bay c.row c.deck x with
      | false => rfl
      | true =>
        exfalso
        have hp : placeX x = placeX c := isAt_place.1 e
        have hn := h.2
        rw [er_split hc, List.map_append, List.map_cons] at hn
        obtain ⟨_, n2, n3⟩ := List.nodup_append.1 hn
        rw [List.nodup_cons] at n2
        rcases List.mem_append.1 hx with hx | hx
        · exact n3 _ (List.mem_map.2 ⟨x, hx, rfl⟩) _ (.head _) hp
        · exact n2.1 (List.mem_map.2 ⟨x, hx, hp⟩)
    rw [this]; rfl
  · rw [decide_eq_false e]
    have hm : c ∈ cs.take k ++ cs.drop (k + 1) := by
      rw [List.mem_append]
      rcases Nat.lt_or_gt_of_ne e with e | e
      · left
        exact List.mem_of_getElem? (i := i) (by rw [List.getElem?_take, if_pos e]; exact hc)
      · right
        exact List.mem_of_getElem? (i := i - (k + 1)) (by rw [List.getElem?_drop, show k + 1 + (i - (k + 1)) = i from by omega]; exact hc)
    cases hf : fst (isAt c.bay c.row c.deck) (cs.take k ++ cs.drop (k + 1)) with
    | some j => rfl
    | none => have := fst_none hf c hm; rw [isAt_place.2 rfl] at this; cases this
end
theorem rw_sub {W : World} {os l : List Cov} (h : RwR W os) (hs : l.Sublist os) : RwR W l := fun o ho => h o (hs.subset ho)
theorem open_good {os : List Cov} (h : GoodO (os.map fun o => (o.bay, o.rows))) (k : Nat) : GoodO ((os.take k ++ os.drop (k + 1)).map fun o => (o.bay, o.rows)) := ((er_sub os k).map _).trans h
end Go.Proofs.YthpooalhibedpaaDoor
/- Lists that are made empty, with room; the marks behind lists that are lent. -/
namespace Go.Proofs.YthpooalhibedpaaDoor
open Go Go.RowKit Tw
theorem run_mk0 {P : Program} {T E : TypeId} {o : Oper} {a : Act} {c sz b : Nat} {z : Value} {x y : Operand} (ho : o.op = .makeSlice T x y) (hT : P.underlying T = some (.slice E)) (hi : (P.info? E).map (fun i => (i.zero, i.size, i.bytes)) = some (some z, sz, b)) (hb : b ≤ 10000)
    (hx : a.eval x = .int .i64 0) (hy : a.eval y = .int .i64 ((c : Nat) : Int)) (hn : c ≤ 8000000000) (w : World) : (execOp a.eval o).run P w = .ok (.value (.slice (some ⟨w.heap.size, 0, none⟩) 0 c)) (w.alloc (.cells (madeCells z.cells (c * sz)) E (0, 0))) := by
  unfold execOp
  rw [ho]
  have h1 : b * c ≤ 281474976710656 := Nat.le_trans (Nat.mul_le_mul hb hn) (by decide)
  obtain ⟨i, hi2, hzz⟩ := Option.map_eq_some_iff.1 hi
  simp only [Prod.mk.injEq] at hzz
  obtain ⟨hz, hs, hb2⟩ := hzz
  have hbb : (i.bytes : Int) * (c : Int) ≤ 281474976710656 := by
    rw [hb2]
    have h : ((b * c : Nat) : Int) ≤ 281474976710656 := by omega
    rwa [Int.natCast_mul] at h
  have h2 := run_make (P := P) w T E i z hT hi2 hz .i64 .i64 0 c (Int.le_refl _) (by omega) hbb (by omega)
  simp only [Int.toNat_natCast, hs] at h2
  simp [hx, hy, h2]
theorem own_made {α : Type} {cells : α → List Value} {sz c : Nat} {W0 : Base} {E : TypeId} {g : Nat} {z : Value} (hB : W0.B ≤ g) (hz : z.cells.size = sz) (hc : c ≤ 8000000000) : OwnL W0 E sz (.slice (some ⟨g, 0, none⟩) 0 c) 0 (([] : List α).flatMap cells) [(g, .cells (madeCells z.cells (c * sz)) E (0, 0))] := by
  refine .inr ⟨g, c, _, rfl, hB, ⟨?_, by unfold maxLen; omega, Nat.zero_le _, by simp, by simp⟩, rfl⟩
  simp [madeCells]
def mkI (i : Nat) : Int := 1000003 * (1 + 7) + ((i : Nat) : Int)
def mkL (i : Nat) : List Int := (List.range i).map mkI
theorem mkL_len (i : Nat) : (mkL i).length = i := by simp [mkL]
theorem mkL_s (i : Nat) : mkL (i + 1) = mkL i ++ [mkI i] := by simp [mkL, List.range_succ]
theorem mkL_at {i n : Nat} (h : i < n) : (mkL n)[i]? = some (mkI i) := by simp [mkL, h]
end Go.Proofs.YthpooalhibedpaaDoor

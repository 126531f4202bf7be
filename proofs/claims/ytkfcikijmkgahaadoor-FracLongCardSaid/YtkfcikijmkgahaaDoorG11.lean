import Derived.Test.YtkfcikijmkgahaaDoorG10
import Derived.Test.YtkfcikijmkgahaaDoorG05
/- Part of the proof: Gc, Ri. -/
set_option linter.unusedVariables false
set_option linter.unusedSimpArgs false
set_option linter.unusedSectionVars false
namespace Go.Proofs.YtkfcikijmkgahaaDoor
open Go.RowKit Tw
variable [ShLZ]
/-- the number of a block of eight limbs -/
def valAt (wr : World) (g : Nat) : Nat := match wr.heap[g]? with
  | some (.cells cs _ _) => va (fun i => (intOf (cs.getD i undef)).toNat) 8
  | _ => 0
theorem va_congr' {f g : Nat → Nat} : ∀ n, (∀ i, i < n → f i = g i) → va f n = va g n
  | 0, _ => by unfold va; rfl
  | n + 1, h => by unfold va; rw [va_congr' n (fun i hi => h i (by omega)), h n (by omega)]
theorem valAt_eq {wr : World} {g b : Nat} {t : TypeId} (hb : b < R 8) (h : wr.heap[g]? = some (.cells (fa 8 (dg b)) t (0, 0))) : valAt wr g = b := by
  unfold valAt
  rw [h]
  simp only
  rw [va_congr' (g := dg b) 8 (fun i hi => by
    rw [Array.getD_eq_getD_getElem?, fa_get _ hi]
    simp [intOf]), va_dg, Nat.mod_eq_of_lt hb]
theorem quiet_below {P : Program} {f : FuncId} {args : Array Value} {w : World} {v : Value} (h : Calls P f args w fun e w' => e = .returned v ∧ ∃ m, w' = w.drewN m) :
    Calls P f args w fun e w' => e = .returned v ∧ Below w.heap.size w w' :=
  h.mono fun _ _ ⟨he, m, hm⟩ => ⟨he, by rw [hm]; exact belowN (Below.refl _ _) _⟩

set_option maxRecDepth 100000 in
set_option maxHeartbeats 1000000 in
theorem gcd_any (a b : Nat) (ha : a < R 8) (hb : b < R 8) (w : World) :
    Calls Tryd.prog 47 #[num a, num b] w fun e w' => e = .returned (num (Nat.gcd a b)) ∧ Below w.heap.size w w' := by
  unfold num
  go_enter Tryd.func47, Tryd.ntmps47
  go_wp2_with fail
  have hK := KS.three w (.cells (fa 8 (dg a)) 24) (.cells (fa 8 (dg b)) 24) (.cells (fa 8 (fun _ => 0)) 24)
  obtain ⟨W, hW⟩ : ∃ W, W = ((w.alloc (.cells (fa 8 (dg a)) 24)).alloc (.cells (fa 8 (dg b)) 24)).alloc (.cells (fa 8 (fun _ => 0)) 24) := ⟨_, rfl⟩
  rw [← hW] at hK
  rw [fa_zero8] at hW
  rw [← hW]
  clear hW
  have HK := Lib.hid hK
  clear hK
  go_loopw [] (fun wr => ∃ p q : Nat, p < R 8 ∧ q < R 8 ∧ Hid (Nat.gcd a b = Nat.gcd p q) ∧ Hid (KS w [(w.heap.size, .cells (fa 8 (dg p)) 24 (0, 0)), (w.heap.size + 1, .cells (fa 8 (dg q)) 24 (0, 0)), (w.heap.size + 1 + 1, .cells (fa 8 (fun _ => 0)) 24 (0, 0))] wr))
    (fun wr => valAt wr (w.heap.size + 1))
  case atStart => exact ⟨a, b, ha, hb, rfl, HK⟩
  case round =>
    clear HK
    obtain ⟨p, q, hp, hq, he, HK⟩ := hrel
    clear ha hb
    rcases Nat.eq_zero_or_pos q with rfl | hpos
    · go_wp2_with (first
        | (refine wpList_lda rfl rfl rfl (HK.out.2 _ (.tail _ (.head _))) Tryd.underlying24 rfl size25 ?_)
        | (refine wpList_lda rfl rfl rfl (HK.out.2 _ (.head _)) Tryd.underlying24 rfl size25 ?_)
        | (refine wpList_sta (f := dg p) (f' := fun _ => 0) rfl rfl rfl rfl (HK.out.2 _ (.tail _ (.tail _ (.head _)))) size25 ?_))
      refine bodyPost_ret (res_cell rfl rfl (setRow_heap _ _ _ _ _ _ (HK.out.2 _ (.tail _ (.tail _ (.head _))))) Tryd.underlying24 rfl (by rw [size25, fa_size])) rfl ⟨?_, below_setRow HK.out.1 (by omega) _⟩
      rw [he.out, Nat.gcd_zero_right]
    · have hne : ¬ q = 0 := by omega
      have g5 := ln_two (b := p) (n := 8)
      have g6 := ln_two (b := q) (n := 8)
      have hln : (((ln (dg p) 8 : Nat) : Int) ≤ 2 ∧ ((ln (dg q) 8 : Nat) : Int) ≤ 2) ∨ (¬ (((ln (dg p) 8 : Nat) : Int) ≤ 2) ∨ (((ln (dg p) 8 : Nat) : Int) ≤ 2 ∧ ¬ (((ln (dg q) 8 : Nat) : Int) ≤ 2))) := by omega
      rcases hln with ⟨h1, h2⟩ | hln
      · obtain ⟨g1, g2⟩ := g5 hp (by omega)
        obtain ⟨g3, g4⟩ := g6 hq (by omega)
        have G1 := Lib.hid g1
        have G3 := Lib.hid g3
        clear g1 g3 g5 g6
        go_wp2_with (first
          | (refine wpList_lda rfl rfl rfl (HK.out.2 _ (.tail _ (.head _))) Tryd.underlying24 rfl size25 ?_)
          | (go_at_call 40; refine (length_any _ 0 8 8 (dg p) _ (by omega) (fun i hi => by rw [Nat.zero_add]; exact blk_cell (HK.out.2 _ (.head _)) hi)).mono ?_; rintro e w1 ⟨rfl, rfl⟩)
          | (go_at_call 40; refine (length_any _ 0 8 8 (dg q) _ (by omega) (fun i hi => by rw [Nat.zero_add]; exact blk_cell (HK.out.2 _ (.tail _ (.head _))) hi)).mono ?_; rintro e w1 ⟨rfl, rfl⟩))
        have hg64 : Nat.gcd p q < 18446744073709551616 := Nat.lt_of_le_of_lt (Nat.gcd_le_right p hpos) g4
        have g1 := G1.out
        have g3 := G3.out
        refine wp_region_U (W0 := w) [(w.heap.size, .cells (fa 8 (dg p)) 24 (0, 0)), (w.heap.size + 1, .cells (fa 8 (dg q)) 24 (0, 0)), (w.heap.size + 1 + 1, .cells (fa 8 (fun _ => 0)) 24 (0, 0))] (by kernel_rfl) (HK.out) ?_
        refine wpU_p (i := 0) (v := .slice (some ⟨w.heap.size, 0, none⟩) 8 8) rfl rfl (by kernel_rfl) (by kernel_rfl) rfl (fun _ => by kernel_rfl) (by simp only [List.setIfInBounds_toArray, List.set_cons_succ, List.set_cons_zero] <;> rfl) ?_
        refine wpU_v (i := 1) (v := .int .u64 (p : Int)) rfl rfl (by kernel_rfl) (by kernel_rfl) rfl (yb_call (f := 39) (args := #[.slice (some ⟨w.heap.size, 0, none⟩) 8 8]) (fun _ => by kernel_rfl) fun W hW => quiet_below (toSmall_num _ 8 8 p p 24 g1 (by omega) W (hW.2 _ (.head _)))) (by simp only [List.setIfInBounds_toArray, List.set_cons_succ, List.set_cons_zero] <;> rfl) ?_
        refine wpU_p (i := 2) (v := .slice (some ⟨w.heap.size + 1, 0, none⟩) 8 8) rfl rfl (by kernel_rfl) (by kernel_rfl) rfl (fun _ => by kernel_rfl) (by simp only [List.setIfInBounds_toArray, List.set_cons_succ, List.set_cons_zero] <;> rfl) ?_
        refine wpU_v (i := 3) (v := .int .u64 (q : Int)) rfl rfl (by kernel_rfl) (by kernel_rfl) rfl (yb_call (f := 39) (args := #[.slice (some ⟨w.heap.size + 1, 0, none⟩) 8 8]) (fun _ => by kernel_rfl) fun W hW => quiet_below (toSmall_num _ 8 8 q q 24 g3 (by omega) W (hW.2 _ (.tail _ (.head _))))) (by simp only [List.setIfInBounds_toArray, List.set_cons_succ, List.set_cons_zero] <;> rfl) ?_
        refine wpU_v (i := 4) (v := .int .u64 (Nat.gcd p q : Int)) rfl rfl (by kernel_rfl) (by kernel_rfl) rfl (yb_call (f := 54) (args := #[.int .u64 (p : Int), .int .u64 (q : Int)]) (fun _ => by kernel_rfl) fun W hW => gcdSmall_any p q g2 g4 W) (by simp only [List.setIfInBounds_toArray, List.set_cons_succ, List.set_cons_zero] <;> rfl) ?_
        refine wpU_v (i := 5) (v := num (Nat.gcd p q)) rfl rfl (by kernel_rfl) (by kernel_rfl) rfl (yb_call (f := 32) (args := #[.int .u64 (Nat.gcd p q : Int)]) (fun _ => by kernel_rfl) fun W hW => fromSmall_any (Nat.gcd p q) hg64 W) (by simp only [List.setIfInBounds_toArray, List.set_cons_succ, List.set_cons_zero] <;> rfl) ?_
        refine wpU_s [(w.heap.size, .cells (fa 8 (dg p)) 24 (0, 0)), (w.heap.size + 1, .cells (fa 8 (dg q)) 24 (0, 0)), (w.heap.size + 1 + 1, .cells (fa 8 (dg (Nat.gcd p q))) 24 (0, 0))] (i := 6) rfl (by kernel_rfl) rfl rfl rfl
          (st_a rfl rfl rfl (.tail _ (.tail _ (.head _))) (by omega) size25 (by intro p hp; simp only [List.mem_cons, List.not_mem_nil, or_false] at hp; rcases hp with rfl | rfl | rfl; exact .inr ⟨by simp, by simp only; omega⟩; exact .inr ⟨by simp, by simp only; omega⟩; exact .inl rfl)) ?_
        refine wpU_done (by kernel_rfl) (fun W4 hW4 => ?_) _
        go_wp2_with fail
        exact bodyPost_ret (res_cell rfl rfl (hW4.2 _ (.tail _ (.tail _ (.head _)))) Tryd.underlying24 rfl (by rw [size25, fa_size])) rfl ⟨by rw [he.out], hW4.1⟩
      · clear g5 g6
        rcases hln with h1 | ⟨h1, h2⟩
        all_goals
          go_wp2_with (first
            | (refine wpList_lda rfl rfl rfl (HK.out.2 _ (.tail _ (.head _))) Tryd.underlying24 rfl size25 ?_)
            | (go_at_call 40; refine (length_any _ 0 8 8 (dg p) _ (by omega) (fun i hi => by rw [Nat.zero_add]; exact blk_cell (HK.out.2 _ (.head _)) hi)).mono ?_; rintro e w1 ⟨rfl, rfl⟩)
            | (go_at_call 40; refine (length_any _ 0 8 8 (dg q) _ (by omega) (fun i hi => by rw [Nat.zero_add]; exact blk_cell (HK.out.2 _ (.tail _ (.head _))) hi)).mono ?_; rintro e w1 ⟨rfl, rfl⟩))
          have hp17 : p < R 17 := lt_R_of_le hp (by omega)
          refine wp_region_U (W0 := w) [(w.heap.size, .cells (fa 8 (dg p)) 24 (0, 0)), (w.heap.size + 1, .cells (fa 8 (dg q)) 24 (0, 0)), (w.heap.size + 1 + 1, .cells (fa 8 (fun _ => 0)) 24 (0, 0))] (by kernel_rfl) (HK.out) ?_
          refine wpU_v (i := 0) (v := num p) rfl rfl (by kernel_rfl) (by kernel_rfl) rfl (yb_lda rfl (by kernel_rfl) (.head _) Tryd.underlying24 rfl size25) (by simp only [List.setIfInBounds_toArray, List.set_cons_succ, List.set_cons_zero] <;> rfl) ?_
          refine wpU_v (i := 1) (v := wid p) rfl rfl (by kernel_rfl) (by kernel_rfl) rfl (yb_call (f := 37) (args := #[num p]) (fun _ => by kernel_rfl) fun W hW => widen_any p hp W) (by simp only [List.setIfInBounds_toArray, List.set_cons_succ, List.set_cons_zero] <;> rfl) ?_
          refine wpU_v (i := 2) (v := num q) rfl rfl (by kernel_rfl) (by kernel_rfl) rfl (yb_lda rfl (by kernel_rfl) (.tail _ (.head _)) Tryd.underlying24 rfl size25) (by simp only [List.setIfInBounds_toArray, List.set_cons_succ, List.set_cons_zero] <;> rfl) ?_
          refine wpU_v (i := 3) (v := .tuple #[wid (p / q), num (p % q)]) rfl rfl (by kernel_rfl) (by kernel_rfl) rfl (yb_call (f := 36) (args := #[wid p, num q]) (fun _ => by kernel_rfl) fun W hW => divide_any p q hp17 hq hpos W) (by simp only [List.setIfInBounds_toArray, List.set_cons_succ, List.set_cons_zero] <;> rfl) ?_
          refine wpU_p (i := 4) (v := .tuple #[wid (p / q), num (p % q)]) rfl rfl (by kernel_rfl) (by kernel_rfl) rfl (fun _ => by kernel_rfl) (by simp only [List.setIfInBounds_toArray, List.set_cons_succ, List.set_cons_zero] <;> rfl) ?_
          refine wpU_p (i := 5) (v := wid (p / q)) rfl rfl (by kernel_rfl) (by kernel_rfl) rfl (fun _ => by kernel_rfl) (by simp only [List.setIfInBounds_toArray, List.set_cons_succ, List.set_cons_zero] <;> rfl) ?_
          refine wpU_p (i := 6) (v := num (p % q)) rfl rfl (by kernel_rfl) (by kernel_rfl) rfl (fun _ => by kernel_rfl) (by simp only [List.setIfInBounds_toArray, List.set_cons_succ, List.set_cons_zero] <;> rfl) ?_
          refine wpU_two (i := 7) (j := 8) (obi := .cells (fa 18 (fun _ => 0)) 59 (0, 0)) (obj := .cells (fa 8 (fun _ => 0)) 24 (0, 0)) rfl rfl rfl rfl rfl rfl (by kernel_rfl) (by kernel_rfl) (by kernel_rfl) (by kernel_rfl) (fun _ _ => rfl) (fun _ _ => rfl) (fun _ _ => by simp only [List.setIfInBounds_toArray, List.set_cons_succ, List.set_cons_zero] <;> rfl) (fun _ _ => by simp only [List.setIfInBounds_toArray, List.set_cons_succ, List.set_cons_zero] <;> rfl) fun g h Bg Bh Dgh Fg Fh => ?_
          simp only [List.forall_mem_cons] at Fg Fh
          refine wpU_s [(g, .cells (fa 18 (dg (p / q))) 59 (0, 0)), (h, .cells (fa 8 (fun _ => 0)) 24 (0, 0)), (w.heap.size, .cells (fa 8 (dg p)) 24 (0, 0)), (w.heap.size + 1, .cells (fa 8 (dg q)) 24 (0, 0)), (w.heap.size + 1 + 1, .cells (fa 8 (fun _ => 0)) 24 (0, 0))] (i := 9) rfl (by kernel_rfl) rfl rfl rfl
            (st_a rfl rfl rfl (.head _) (by omega) size65 (by intro p hp; simp only [List.mem_cons, List.not_mem_nil, or_false] at hp; rcases hp with rfl | rfl | rfl | rfl | rfl; exact .inl rfl; exact .inr ⟨by simp, by simp only; omega⟩; exact .inr ⟨by simp, by simp only; omega⟩; exact .inr ⟨by simp, by simp only; omega⟩; exact .inr ⟨by simp, by simp only; omega⟩)) ?_
          refine wpU_s [(g, .cells (fa 18 (dg (p / q))) 59 (0, 0)), (h, .cells (fa 8 (dg (p % q))) 24 (0, 0)), (w.heap.size, .cells (fa 8 (dg p)) 24 (0, 0)), (w.heap.size + 1, .cells (fa 8 (dg q)) 24 (0, 0)), (w.heap.size + 1 + 1, .cells (fa 8 (fun _ => 0)) 24 (0, 0))] (i := 10) rfl (by kernel_rfl) rfl rfl rfl
            (st_a rfl rfl rfl (.tail _ (.head _)) (by omega) size25 (by intro p hp; simp only [List.mem_cons, List.not_mem_nil, or_false] at hp; rcases hp with rfl | rfl | rfl | rfl | rfl; exact .inr ⟨by simp, by simp only; omega⟩; exact .inl rfl; exact .inr ⟨by simp, by simp only; omega⟩; exact .inr ⟨by simp, by simp only; omega⟩; exact .inr ⟨by simp, by simp only; omega⟩)) ?_
          refine wpU_done (by kernel_rfl) (fun W4 hW4 => ?_) _
          obtain ⟨Bg', Fg', Fh'⟩ : w.heap.size ≤ g ∧ (w.heap.size + 1 ≠ g ∧ w.heap.size + 1 + 1 ≠ g) ∧ (w.heap.size ≠ h ∧ w.heap.size + 1 ≠ h ∧ w.heap.size + 1 + 1 ≠ h) := ⟨Bg, ⟨Fg.2.1, Fg.2.2.1⟩, ⟨Fh.1, Fh.2.1, Fh.2.2.1⟩⟩
          go_wp2_with fail
          have FIN : ∀ X, KS w [(g, .cells (fa 18 (dg (p / q))) 59 (0, 0)), (h, .cells (fa 8 (dg (p % q))) 24 (0, 0)), (w.heap.size, .cells (fa 8 (dg q)) 24 (0, 0)), (w.heap.size + 1, .cells (fa 8 (dg (p % q))) 24 (0, 0)), (w.heap.size + 1 + 1, .cells (fa 8 (fun _ => 0)) 24 (0, 0))] X → Hid (KS w [(w.heap.size, .cells (fa 8 (dg q)) 24 (0, 0)), (w.heap.size + 1, .cells (fa 8 (dg (p % q))) 24 (0, 0)), (w.heap.size + 1 + 1, .cells (fa 8 (fun _ => 0)) 24 (0, 0))] X) := fun X hX => hX.sub (by
            intro x hx; exact .tail _ (.tail _ hx))
          refine wp_region_U (W0 := w) [(g, .cells (fa 18 (dg (p / q))) 59 (0, 0)), (h, .cells (fa 8 (dg (p % q))) 24 (0, 0)), (w.heap.size, .cells (fa 8 (dg p)) 24 (0, 0)), (w.heap.size + 1, .cells (fa 8 (dg q)) 24 (0, 0)), (w.heap.size + 1 + 1, .cells (fa 8 (fun _ => 0)) 24 (0, 0))] (by kernel_rfl) (hW4) ?_
          refine wpU_v (i := 0) (v := num q) rfl rfl (by kernel_rfl) (by kernel_rfl) rfl (yb_lda rfl (by kernel_rfl) (.tail _ (.tail _ (.tail _ (.head _)))) Tryd.underlying24 rfl size25) (by simp only [List.setIfInBounds_toArray, List.set_cons_succ, List.set_cons_zero] <;> rfl) ?_
          refine wpU_2 (i := 1) (j := 2) (by kernel_rfl) ?_ ?_
          · refine stepU_v (i := 1) (v := num (p % q)) rfl rfl (by kernel_rfl) rfl (yb_lda rfl (by kernel_rfl) (.tail _ (.head _)) Tryd.underlying24 rfl size25) (by simp only [List.setIfInBounds_toArray, List.set_cons_succ, List.set_cons_zero] <;> rfl) ?_
            refine wpU_s [(g, .cells (fa 18 (dg (p / q))) 59 (0, 0)), (h, .cells (fa 8 (dg (p % q))) 24 (0, 0)), (w.heap.size, .cells (fa 8 (dg q)) 24 (0, 0)), (w.heap.size + 1, .cells (fa 8 (dg q)) 24 (0, 0)), (w.heap.size + 1 + 1, .cells (fa 8 (fun _ => 0)) 24 (0, 0))] (i := 2) rfl (by kernel_rfl) rfl rfl rfl
              (st_a rfl rfl rfl (.tail _ (.tail _ (.head _))) (by omega) size25 (by intro p hp; simp only [List.mem_cons, List.not_mem_nil, or_false] at hp; rcases hp with rfl | rfl | rfl | rfl | rfl; exact .inr ⟨by simp, by simp only; omega⟩; exact .inr ⟨by simp, by simp only; omega⟩; exact .inl rfl; exact .inr ⟨by simp, by simp only; omega⟩; exact .inr ⟨by simp, by simp only; omega⟩)) ?_
            refine wpU_s [(g, .cells (fa 18 (dg (p / q))) 59 (0, 0)), (h, .cells (fa 8 (dg (p % q))) 24 (0, 0)), (w.heap.size, .cells (fa 8 (dg q)) 24 (0, 0)), (w.heap.size + 1, .cells (fa 8 (dg (p % q))) 24 (0, 0)), (w.heap.size + 1 + 1, .cells (fa 8 (fun _ => 0)) 24 (0, 0))] (i := 3) rfl (by kernel_rfl) rfl rfl rfl
              (st_a rfl rfl rfl (.tail _ (.tail _ (.tail _ (.head _)))) (by omega) size25 (by intro p hp; simp only [List.mem_cons, List.not_mem_nil, or_false] at hp; rcases hp with rfl | rfl | rfl | rfl | rfl; exact .inr ⟨by simp, by simp only; omega⟩; exact .inr ⟨by simp, by simp only; omega⟩; exact .inr ⟨by simp, by simp only; omega⟩; exact .inl rfl; exact .inr ⟨by simp, by simp only; omega⟩)) ?_
            refine wpU_done (by kernel_rfl) (fun W4 hW4 => ?_) _
            have F := FIN _ hW4
            clear FIN hW4
            go_roundw
            case rel => (repeat apply Exists.intro); exact ⟨⟨q, p % q, hq, Nat.lt_trans (Nat.mod_lt p hpos) hq, by unfold Hid; rw [he.out, Nat.gcd_comm p q, Nat.gcd_rec q p, Nat.gcd_comm], F⟩, rfl⟩
            case measure =>
              rw [valAt_eq (Nat.lt_trans (Nat.mod_lt p hpos) hq) (F.out.2 _ (.tail _ (.head _))), valAt_eq hq (HK.out.2 _ (.tail _ (.head _)))]
              exact Nat.mod_lt p hpos
          · refine stepU_s [(g, .cells (fa 18 (dg (p / q))) 59 (0, 0)), (h, .cells (fa 8 (dg (p % q))) 24 (0, 0)), (w.heap.size, .cells (fa 8 (dg q)) 24 (0, 0)), (w.heap.size + 1, .cells (fa 8 (dg q)) 24 (0, 0)), (w.heap.size + 1 + 1, .cells (fa 8 (fun _ => 0)) 24 (0, 0))] (i := 2) rfl rfl rfl rfl
              (st_a rfl rfl rfl (.tail _ (.tail _ (.head _))) (by omega) size25 (by intro p hp; simp only [List.mem_cons, List.not_mem_nil, or_false] at hp; rcases hp with rfl | rfl | rfl | rfl | rfl; exact .inr ⟨by simp, by simp only; omega⟩; exact .inr ⟨by simp, by simp only; omega⟩; exact .inl rfl; exact .inr ⟨by simp, by simp only; omega⟩; exact .inr ⟨by simp, by simp only; omega⟩)) ?_
            refine wpU_1 (i := 1) (by kernel_rfl) (stepU_v (i := 1) (v := num (p % q)) rfl rfl (by kernel_rfl) rfl (yb_lda rfl (by kernel_rfl) (.tail _ (.head _)) Tryd.underlying24 rfl size25) (by simp only [List.setIfInBounds_toArray, List.set_cons_succ, List.set_cons_zero] <;> rfl) ?_)
            refine wpU_s [(g, .cells (fa 18 (dg (p / q))) 59 (0, 0)), (h, .cells (fa 8 (dg (p % q))) 24 (0, 0)), (w.heap.size, .cells (fa 8 (dg q)) 24 (0, 0)), (w.heap.size + 1, .cells (fa 8 (dg (p % q))) 24 (0, 0)), (w.heap.size + 1 + 1, .cells (fa 8 (fun _ => 0)) 24 (0, 0))] (i := 3) rfl (by kernel_rfl) rfl rfl rfl
              (st_a rfl rfl rfl (.tail _ (.tail _ (.tail _ (.head _)))) (by omega) size25 (by intro p hp; simp only [List.mem_cons, List.not_mem_nil, or_false] at hp; rcases hp with rfl | rfl | rfl | rfl | rfl; exact .inr ⟨by simp, by simp only; omega⟩; exact .inr ⟨by simp, by simp only; omega⟩; exact .inr ⟨by simp, by simp only; omega⟩; exact .inl rfl; exact .inr ⟨by simp, by simp only; omega⟩)) ?_
            refine wpU_done (by kernel_rfl) (fun W4 hW4 => ?_) _
            have F := FIN _ hW4
            clear FIN hW4
            go_roundw
            case rel => (repeat apply Exists.intro); exact ⟨⟨q, p % q, hq, Nat.lt_trans (Nat.mod_lt p hpos) hq, by unfold Hid; rw [he.out, Nat.gcd_comm p q, Nat.gcd_rec q p, Nat.gcd_comm], F⟩, rfl⟩
            case measure =>
              rw [valAt_eq (Nat.lt_trans (Nat.mod_lt p hpos) hq) (F.out.2 _ (.tail _ (.head _))), valAt_eq hq (HK.out.2 _ (.tail _ (.head _)))]
              exact Nat.mod_lt p hpos
end Go.Proofs.YtkfcikijmkgahaaDoor
namespace Go.Proofs.YtkfcikijmkgahaaDoor
open Go.RowKit Tw
variable [ShLZ]
/-- what Right answers -/
def rightB (neg : Bool) (n d : Nat) : Bool := if n = 0 then decide (neg = false ∧ d = 1) else decide (d ≠ 0 ∧ Nat.gcd n d = 1)
theorem ret_bool {a b : Bool} (h : a = b) : Ending.returned (.bool a) = .returned (.bool b) := by rw [h]

set_option maxRecDepth 100000 in
set_option maxHeartbeats 1000000 in
theorem right_any (neg : Bool) (n d : Nat) (hn : n < R 8) (hd : d < R 8) (w : World) :
    Calls Tryd.prog 24 #[frc neg n d] w fun e w' => e = .returned (.bool (rightB neg n d)) ∧ Below w.heap.size w w' := by
  unfold frc
  go_enter Tryd.func24, Tryd.ntmps24
  go_upto_region 1 with (fail)
  have hK := KS.one w (.cells (frcC neg n d) 26)
  obtain ⟨W, hW⟩ : ∃ W, W = w.alloc (.cells (frcC neg n d) 26) := ⟨_, rfl⟩
  rw [← hW] at hK
  rw [← hW]
  clear hW
  have HK := Lib.hid hK
  clear hK
  rcases Nat.eq_zero_or_pos n with rfl | hpos
  · go_wp2_with (first
      | (refine wpList_ldn rfl rfl rfl (HK.out.2 _ (.head _)) Tryd.underlying24 rfl size25 ?_)
      | (refine wpList_ldw rfl rfl rfl (HK.out.2 _ (.head _)) Tryd.underlying26 rfl size27 ?_))
    go_ret
    exact ⟨ret_bool (by rw [rightB, if_pos rfl]; simp), HK.out.1⟩
  · have hne : ¬ n = 0 := by omega
    have HR := Lib.hid (show rightB neg n d = decide (d ≠ 0 ∧ Nat.gcd n d = 1) from if_neg hne)
    have hg : Nat.gcd n d < R 8 := Nat.lt_of_le_of_lt (Nat.gcd_le_left d hpos) hn
    rcases Nat.eq_zero_or_pos d with rfl | hdp
    · go_wp2_with (first
        | (refine wpList_ldn rfl rfl rfl (HK.out.2 _ (.head _)) Tryd.underlying24 rfl size25 ?_)
        | (refine wpList_ldd rfl rfl rfl (HK.out.2 _ (.head _)) Tryd.underlying24 rfl size25 ?_))
      go_ret
      exact ⟨ret_bool (by rw [HR.out]; simp), HK.out.1⟩
    · have hde : ¬ d = 0 := by omega
      go_wp2_with (first
        | (refine wpList_ldn rfl rfl rfl (HK.out.2 _ (.head _)) Tryd.underlying24 rfl size25 ?_)
        | (refine wpList_ldd rfl rfl rfl (HK.out.2 _ (.head _)) Tryd.underlying24 rfl size25 ?_)
        | (refine wpList_guard rfl ?_; refine wpList_ldn rfl rfl rfl (HK.out.2 _ (.head _)) Tryd.underlying24 rfl size25 ?_)
        | (refine wpList_guard rfl ?_; refine wpList_ldd rfl rfl rfl (HK.out.2 _ (.head _)) Tryd.underlying24 rfl size25 ?_)
        | (go_at_call 47; refine (gcd_any n d hn hd _).mono ?_; rintro e w1 ⟨rfl, hb1⟩; have HK2 := Lib.hid (HK.out.below hb1); clear hb1; unfold num))
      go_ret
      exact ⟨ret_bool (by rw [HR.out]; simp [hde]), HK2.out.1⟩
end Go.Proofs.YtkfcikijmkgahaaDoor

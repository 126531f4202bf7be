import Derived.Test.YtjmcelgdjpdacaaDoorG01
/- Part of the proof: Je. -/
set_option linter.unusedVariables false
set_option linter.unusedSimpArgs false
set_option linter.unusedSectionVars false
namespace Go.Proofs.YtjmcelgdjpdacaaDoor
open Go.RowKit Tw
open Go
theorem drop_pre {xs pre : List (Int × Int)} {x : Int × Int} (h : pre ++ [x] <+: xs) : xs.drop pre.length = x :: xs.drop (pre.length + 1) := by
  obtain ⟨r, rfl⟩ := h
  simp [List.drop_append]
set_option maxRecDepth 100000 in
set_option maxHeartbeats 40000000 in
theorem without_seq (n₀ n₁ b1 b2 gf : Nat) (lb2 : Array Value) (closed xs : List (Int × Int)) (p0 : Option Addr) (cap0 : Nat) (W0 w1 : World) (hn : n₀ ≤ W0.heap.size) (hb1 : b1 < n₀ ∧ W0.heap[b1]? = some (.cells #[.slice p0 closed.length cap0] 22 (0, 0))) (hb2 : b2 < n₀ ∧ W0.heap[b2]? = some (.cells #[.func (.func gf) #[] lb2] 98 (0, 0)))
    (hAV : AV W0 n₀ closed p0 cap0) (hcl0 : closed.length ≤ 1000) (eg : ∀ args W, (callFunc gf args).run Tryd.prog W = .ok (.enter gf args) W) (hseq : SeqF Tryd.prog gf lb2 encS n₁ w1 xs) (hn1 : n₁ ≤ n₀) (hw1 : Below n₁ w1 W0) :
    SeqF Tryd.prog 81 #[.pointer (some ⟨b1, 0, none⟩), .pointer (some ⟨b2, 0, none⟩)] encS n₀ W0 (withoutL closed xs) := by
  intro l B J Jx S0 W1 hB0 hnB hBW hS0 hJa hJxa hYd hJ0
  have hn0 : n₀ ≤ W1.heap.size := Nat.le_trans hn hB0.size
  have low : ∀ (b : Nat) (o : Obj), b < n₀ → W0.heap[b]? = some o → W1.heap[b]? = some o := fun b o hb h => by
    rw [hB0.block b hb]; exact h
  have hAV1 : AV W1 n₀ closed p0 cap0 := ⟨hAV.1, hAV.2.imp id (fun ⟨b, off, h1, h2, h3⟩ => ⟨b, off, h1, h2, cells_low h3 hB0 h2⟩)⟩
  have ho1 : Tw.Own n₀ B S0 [] S0 W1 W1 := Tw.Own.start hS0 hnB hBW
  have hk1 : KS (rnd W1 n₀ ho1.hn) ((b1, .cells #[.slice p0 closed.length cap0] 22 (0, 0)) :: (b2, .cells #[.func (.func gf) #[] lb2] 98 (0, 0)) :: (oth W1 [])) W1 := ks_oth (K := [(b1, .cells #[.slice p0 closed.length cap0] 22 (0, 0)), (b2, .cells #[.func (.func gf) #[] lb2] 98 (0, 0))]) (List.forall_mem_cons.2 ⟨low _ _ hb1.1 hb1.2, List.forall_mem_cons.2 ⟨low _ _ hb2.1 hb2.2, List.forall_mem_nil _⟩⟩)
  refine callsIn_of_wp_marks Tryd.func81 rfl trivial ?_
  simp only [Tryd.ntmps81, List.size_toArray, List.length_cons, List.length_nil, Nat.reduceAdd, Nat.reduceSub, Array.replicate_succ, Array.replicate_zero, List.push_toArray, List.append_toArray, List.nil_append, List.cons_append]
  refine wpIn_seq ?_
  refine wp_region_LI (W0 := (rnd W1 n₀ ho1.hn)) ((b1, .cells #[.slice p0 closed.length cap0] 22 (0, 0)) :: (b2, .cells #[.func (.func gf) #[] lb2] 98 (0, 0)) :: (oth W1 [])) (by kernel_rfl) (hk1) ?_
  refine wpL_new (fun g => .pointer (some ⟨g, 0, none⟩)) (obi := .cells #[.func (.yield l) #[] #[]] 95 (0, 0)) rfl rfl (fun _ => by kernel_rfl) (fun _ => by simp only [List.setIfInBounds_toArray, List.set_cons_succ, List.set_cons_zero] <;> rfl) fun g1 Bg1 Fg1 => ?_
  try simp only [List.forall_mem_cons] at Fg1
  refine wpL_done (fun W2 hW2 => ?_)
  obtain ⟨ho2, hJ2⟩ := Tw.Own.work (O' := [g1]) hJa ho1 hJ0 hW2 (fun p hp => (.tail _ (.tail _ (.tail _ hp)))) (List.forall_mem_cons.2 ⟨.inr ⟨new_oth (O := []) Fg1.2.2 (List.forall_mem_nil _), lt_of_block (hW2.2 _ (.head _))⟩, (List.forall_mem_nil _)⟩)
  have hk2 : KS (rnd W2 n₀ ho2.hn) ((g1, .cells #[.func (.yield l) #[] #[]] 95 (0, 0)) :: (b1, .cells #[.slice p0 closed.length cap0] 22 (0, 0)) :: (b2, .cells #[.func (.func gf) #[] lb2] 98 (0, 0)) :: (oth W2 [g1])) W2 := ks_oth (K := [(g1, .cells #[.func (.yield l) #[] #[]] 95 (0, 0)), (b1, .cells #[.slice p0 closed.length cap0] 22 (0, 0)), (b2, .cells #[.func (.func gf) #[] lb2] 98 (0, 0))]) (fun p hp => hW2.2 p (List.mem_append_left _ hp))
  have N2g1 := oth_ne (W := W2) (S := [g1]) (g := g1) (.head _)
  have ge2g1 : (rnd W2 n₀ ho2.hn).B ≤ g1 := ho2.ge (.head _)
  refine (show Code.wpIn _ _ _ _ _ _ _ from ?_)
  refine wpIn_seq ?_
  refine wp_region_LI (W0 := (rnd W2 n₀ ho2.hn)) ((g1, .cells #[.func (.yield l) #[] #[]] 95 (0, 0)) :: (b1, .cells #[.slice p0 closed.length cap0] 22 (0, 0)) :: (b2, .cells #[.func (.func gf) #[] lb2] 98 (0, 0)) :: (oth W2 [g1])) (by kernel_rfl) (hk2) ?_
  refine lv (v := .slice p0 closed.length cap0) rfl rfl (yb_loadc (off := 0) rfl (by kernel_rfl) (.tail _ (.head _)) Tryd.underlying22 rfl (by kernel_rfl)) ?_
  refine wpL_new (fun g => .pointer (some ⟨g, 0, none⟩)) (obi := .cells #[.slice none 0 0] 22 (0, 0)) rfl rfl (fun _ => by kernel_rfl) (fun _ => by simp only [List.setIfInBounds_toArray, List.set_cons_succ, List.set_cons_zero] <;> rfl) fun g2 Bg2 Fg2 => ?_
  try simp only [List.forall_mem_cons] at Fg2
  refine wpL_s ((g2, .cells #[.slice p0 closed.length cap0] 22 (0, 0)) :: (g1, .cells #[.func (.yield l) #[] #[]] 95 (0, 0)) :: (b1, .cells #[.slice p0 closed.length cap0] 22 (0, 0)) :: (b2, .cells #[.func (.func gf) #[] lb2] 98 (0, 0)) :: (oth W2 [g1])) rfl rfl (st_cell rfl (by kernel_rfl) (by kernel_rfl) (.head _) (by omega) (by kernel_rfl) ⟨rfl, rfl⟩ (List.forall_mem_cons.2 ⟨.inl rfl, (List.forall_mem_cons.2 ⟨.inr ⟨(.tail _ (.head _)), Fg2.1⟩, (List.forall_mem_cons.2 ⟨.inr ⟨(.tail _ (.tail _ (.head _))), Fg2.2.1⟩, (List.forall_mem_cons.2 ⟨.inr ⟨(.tail _ (.tail _ (.tail _ (.head _)))), Fg2.2.2.1⟩, (fun p hp => .inr ⟨(.tail _ (.tail _ (.tail _ (.tail _ hp)))), Fg2.2.2.2 p hp⟩)⟩)⟩)⟩)⟩)) ?_
  refine wpL_done (fun W3 hW3 => ?_)
  obtain ⟨ho3, hJ3⟩ := Tw.Own.work (O' := [g2, g1]) hJa ho2 hJ2 hW3 (fun p hp => (.tail _ (.tail _ (.tail _ (.tail _ hp))))) (List.forall_mem_cons.2 ⟨.inr ⟨new_oth (O := [g1]) Fg2.2.2.2 (List.forall_mem_cons.2 ⟨Fg2.1, (List.forall_mem_nil _)⟩), lt_of_block (hW3.2 _ (.head _))⟩, (List.forall_mem_cons.2 ⟨.inl (.head _), (List.forall_mem_nil _)⟩)⟩)
  have hk3 : KS (rnd W3 n₀ ho3.hn) ((g2, .cells #[.slice p0 closed.length cap0] 22 (0, 0)) :: (g1, .cells #[.func (.yield l) #[] #[]] 95 (0, 0)) :: (b1, .cells #[.slice p0 closed.length cap0] 22 (0, 0)) :: (b2, .cells #[.func (.func gf) #[] lb2] 98 (0, 0)) :: (oth W3 [g2, g1])) W3 := ks_oth (K := [(g2, .cells #[.slice p0 closed.length cap0] 22 (0, 0)), (g1, .cells #[.func (.yield l) #[] #[]] 95 (0, 0)), (b1, .cells #[.slice p0 closed.length cap0] 22 (0, 0)), (b2, .cells #[.func (.func gf) #[] lb2] 98 (0, 0))]) (fun p hp => hW3.2 p (List.mem_append_left _ hp))
  have N3g2 := oth_ne (W := W3) (S := [g2, g1]) (g := g2) (.head _)
  have ge3g2 : (rnd W3 n₀ ho3.hn).B ≤ g2 := ho3.ge (.head _)
  have N3g1 := oth_ne (W := W3) (S := [g2, g1]) (g := g1) (.tail _ (.head _))
  have ge3g1 : (rnd W3 n₀ ho3.hn).B ≤ g1 := ho3.ge (.tail _ (.head _))
  refine (show Code.wpIn _ _ _ _ _ _ _ from ?_)
  refine wpIn_seq ?_
  refine wp_region_LI (W0 := (rnd W3 n₀ ho3.hn)) ((g2, .cells #[.slice p0 closed.length cap0] 22 (0, 0)) :: (g1, .cells #[.func (.yield l) #[] #[]] 95 (0, 0)) :: (b1, .cells #[.slice p0 closed.length cap0] 22 (0, 0)) :: (b2, .cells #[.func (.func gf) #[] lb2] 98 (0, 0)) :: (oth W3 [g2, g1])) (by kernel_rfl) (hk3) ?_
  refine lv (v := .func (.func gf) #[] lb2) rfl rfl (yb_loadc (off := 0) rfl (by kernel_rfl) (.tail _ (.tail _ (.tail _ (.head _)))) Tryd.underlying98 rfl (by kernel_rfl)) ?_
  refine wpL_done (fun W4 hW4 => ?_)
  obtain ⟨ho4, hJ4⟩ := Tw.Own.work (O' := [g2, g1]) hJa ho3 hJ3 hW4 (fun p hp => (.tail _ (.tail _ (.tail _ (.tail _ hp))))) (List.forall_mem_cons.2 ⟨.inl (.head _), (List.forall_mem_cons.2 ⟨.inl (.tail _ (.head _)), (List.forall_mem_nil _)⟩)⟩)
  have hk4 : KS (rnd W4 n₀ ho4.hn) ((g2, .cells #[.slice p0 closed.length cap0] 22 (0, 0)) :: (g1, .cells #[.func (.yield l) #[] #[]] 95 (0, 0)) :: (b1, .cells #[.slice p0 closed.length cap0] 22 (0, 0)) :: (b2, .cells #[.func (.func gf) #[] lb2] 98 (0, 0)) :: (oth W4 [g2, g1])) W4 := ks_oth (K := [(g2, .cells #[.slice p0 closed.length cap0] 22 (0, 0)), (g1, .cells #[.func (.yield l) #[] #[]] 95 (0, 0)), (b1, .cells #[.slice p0 closed.length cap0] 22 (0, 0)), (b2, .cells #[.func (.func gf) #[] lb2] 98 (0, 0))]) (fun p hp => hW4.2 p (List.mem_append_left _ hp))
  have N4g2 := oth_ne (W := W4) (S := [g2, g1]) (g := g2) (.head _)
  have ge4g2 : (rnd W4 n₀ ho4.hn).B ≤ g2 := ho4.ge (.head _)
  have N4g1 := oth_ne (W := W4) (S := [g2, g1]) (g := g1) (.tail _ (.head _))
  have ge4g1 : (rnd W4 n₀ ho4.hn).B ≤ g1 := ho4.ge (.tail _ (.head _))
  refine (show Code.wpIn _ _ _ _ _ _ _ from ?_)
  refine wpIn_block ?_
  have hsz3 : B ≤ W4.heap.size := ho4.hB
  have hB1 : B ≤ g1 := (ho4.apart g1 (.tail _ (.head _))).1
  have hB2 : B ≤ g2 := (ho4.apart g2 (.head _)).1
  have n2 : g2 ∉ S0 := (ho4.apart g2 (.head _)).2
  have n1 : g1 ∉ S0 := (ho4.apart g1 (.tail _ (.head _))).2
  have n12 : g1 ≠ g2 := Fg2.1
  refine range_own (α := Int × Int) (gf := gf) (lb := lb2) (by kernel_rfl) eg (encs := encS) hseq (hw1.trans ((hB0.trans ho4.below).mono hn1)) (fun _ => rfl) B (Nat.le_trans hn1 hnB) ho4.hB
    (WI J n₀ g1 g2 l W1 closed xs) (WX Jx g1 g2) (wi_stab hJa hnB hn0) (wx_stab hJxa) (g2 :: g1 :: S0) (fun k hk => ⟨Nat.le_trans hn1 (ho4.all k hk).1, (ho4.all k hk).2⟩)
    ⟨S0, [], closed, p0, cap0, rfl, rfl, hcl0, hJ4, hAV1, ho4.below, n2, n1, ho4.lo, hk4.2 _ (.head _), hk4.2 _ (.tail _ (.head _))⟩ ?round ?done ?stop
  case round =>
    rintro L r pre x S1 W hLw hLS hL ⟨So, os, ls0, p, cap, rfl, hxs, hll0, hJr, hAV0, hWr, m2, m1, hlo, hg2, hg1⟩ hS1 hpre
    have hx2 : xs.drop pre.length = x :: xs.drop (pre.length + 1) := drop_pre hpre
    rw [hx2] at hxs
    have hfull0 : withoutL closed xs = os ++ (cutL x.2 x.1 (skipL x.1 ls0) ++ withoutL (skipL x.1 ls0) (xs.drop (pre.length + 1))) := hxs
    have nL : L ≠ g2 ∧ L ≠ g1 ∧ L ∉ So := by simpa only [List.mem_cons, not_or] using hLS
    have lL := lt_of_block hL
    have hor : Tw.Own n₀ B (L :: g2 :: g1 :: So) [L, g2, g1] So W W := ⟨Fr.refl (List.forall_mem_cons.2 ⟨lL, fun k hk => (hS1 k hk).2⟩), List.forall_mem_cons.2 ⟨⟨by omega, nL.2.2⟩, List.forall_mem_cons.2 ⟨⟨hB2, m2⟩, List.forall_mem_cons.2 ⟨⟨hB1, m1⟩, List.forall_mem_nil _⟩⟩⟩, hlo, hnB, by omega, Below.refl _ _⟩
    have hkr : KS (rnd W n₀ hor.hn) ((L, .loop r) :: (g2, .cells #[.slice p ls0.length cap] 22 (0, 0)) :: (g1, .cells #[.func (.yield l) #[] #[]] 95 (0, 0)) :: (oth W [L, g2, g1])) W := ks_oth (K := [(L, .loop r), (g2, .cells #[.slice p ls0.length cap] 22 (0, 0)), (g1, .cells #[.func (.yield l) #[] #[]] 95 (0, 0))]) (List.forall_mem_cons.2 ⟨hL, List.forall_mem_cons.2 ⟨hg2, List.forall_mem_cons.2 ⟨hg1, List.forall_mem_nil _⟩⟩⟩)
    have NrL := oth_ne (W := W) (S := [L, g2, g1]) (g := L) (.head _)
    have gerL : (rnd W n₀ hor.hn).B ≤ L := hor.ge (.head _)
    have Nrg2 := oth_ne (W := W) (S := [L, g2, g1]) (g := g2) (.tail _ (.head _))
    have gerg2 : (rnd W n₀ hor.hn).B ≤ g2 := hor.ge (.tail _ (.head _))
    have Nrg1 := oth_ne (W := W) (S := [L, g2, g1]) (g := g1) (.tail _ (.tail _ (.head _)))
    have gerg1 : (rnd W n₀ hor.hn).B ≤ g1 := hor.ge (.tail _ (.tail _ (.head _)))
    generalize hF : Array.foldl _ _ _ _ _ = F
    obtain rfl : F = #[.func (.yield l) #[] #[], .pointer (some ⟨b1, 0, none⟩), .pointer (some ⟨b2, 0, none⟩), .pointer (some ⟨g1, 0, none⟩), .pointer (some ⟨g2, 0, none⟩), undef, undef, undef, .slice p0 closed.length cap0, .func (.func gf) #[] lb2, .agg #[.int .i64 x.1, .int .i64 x.2], undef, undef, undef, undef, undef, undef, undef, undef, undef, undef, undef, undef, undef, undef, undef, undef, undef, undef, undef, undef, undef, undef, undef, undef, undef, undef, undef, undef, undef, undef, undef, undef, undef, undef, undef, undef, undef, undef, undef, undef, undef, undef, undef, undef, undef, undef, undef, undef, undef, undef, undef, undef, undef] := hF.symm.trans (by kernel_rfl)
    clear hF
    refine wp_region_LI (W0 := (rnd W n₀ hor.hn)) ((L, .loop r) :: (g2, .cells #[.slice p ls0.length cap] 22 (0, 0)) :: (g1, .cells #[.func (.yield l) #[] #[]] 95 (0, 0)) :: (oth W [L, g2, g1])) (by kernel_rfl) (hkr) ?_
    refine wpL_new (fun g => .pointer (some ⟨g, 0, none⟩)) (obi := .cells #[.int .i64 0, .int .i64 0] 41 (0, 0)) rfl rfl (fun _ => by kernel_rfl) (fun _ => by simp only [List.setIfInBounds_toArray, List.set_cons_succ, List.set_cons_zero] <;> rfl) fun g11 Bg11 Fg11 => ?_
    try simp only [List.forall_mem_cons] at Fg11
    refine wpL_s ((g11, .cells #[.int .i64 x.1, .int .i64 x.2] 41 (0, 0)) :: (L, .loop r) :: (g2, .cells #[.slice p ls0.length cap] 22 (0, 0)) :: (g1, .cells #[.func (.yield l) #[] #[]] 95 (0, 0)) :: (oth W [L, g2, g1])) rfl rfl (st_span rfl (by kernel_rfl) (by kernel_rfl) (.head _) (by omega) (List.forall_mem_cons.2 ⟨.inl rfl, (List.forall_mem_cons.2 ⟨.inr ⟨(.tail _ (.head _)), Fg11.1⟩, (List.forall_mem_cons.2 ⟨.inr ⟨(.tail _ (.tail _ (.head _))), Fg11.2.1⟩, (List.forall_mem_cons.2 ⟨.inr ⟨(.tail _ (.tail _ (.tail _ (.head _)))), Fg11.2.2.1⟩, (fun p hp => .inr ⟨(.tail _ (.tail _ (.tail _ (.tail _ hp)))), Fg11.2.2.2 p hp⟩)⟩)⟩)⟩)⟩)) ?_
    refine wpL_done (fun W21 hW21 => ?_)
    refine ⟨(hW21.2 (L, .loop r) (.tail _ (.head _))).trans hL.symm, fun o => ?_⟩
    obtain ⟨ho21, hJ21⟩ := Tw.Own.work (O' := [g11, L, g2, g1]) hJa hor hJr hW21 (fun p hp => (.tail _ (.tail _ (.tail _ (.tail _ hp))))) (List.forall_mem_cons.2 ⟨.inr ⟨new_oth (O := [L, g2, g1]) Fg11.2.2.2 (List.forall_mem_cons.2 ⟨Fg11.1, (List.forall_mem_cons.2 ⟨Fg11.2.1, (List.forall_mem_cons.2 ⟨Fg11.2.2.1, (List.forall_mem_nil _)⟩)⟩)⟩), lt_of_block (hW21.2 _ (.head _))⟩, (List.forall_mem_cons.2 ⟨.inl (.head _), (List.forall_mem_cons.2 ⟨.inl (.tail _ (.head _)), (List.forall_mem_cons.2 ⟨.inl (.tail _ (.tail _ (.head _))), (List.forall_mem_nil _)⟩)⟩)⟩)⟩)
    have hk21 : KS (rnd W21 n₀ ho21.hn) ((g11, .cells #[.int .i64 x.1, .int .i64 x.2] 41 (0, 0)) :: (L, .loop r) :: (g2, .cells #[.slice p ls0.length cap] 22 (0, 0)) :: (g1, .cells #[.func (.yield l) #[] #[]] 95 (0, 0)) :: (oth W21 [g11, L, g2, g1])) W21 := ks_oth (K := [(g11, .cells #[.int .i64 x.1, .int .i64 x.2] 41 (0, 0)), (L, .loop r), (g2, .cells #[.slice p ls0.length cap] 22 (0, 0)), (g1, .cells #[.func (.yield l) #[] #[]] 95 (0, 0))]) (fun p hp => hW21.2 p (List.mem_append_left _ hp))
    have N21g11 := oth_ne (W := W21) (S := [g11, L, g2, g1]) (g := g11) (.head _)
    have ge21g11 : (rnd W21 n₀ ho21.hn).B ≤ g11 := ho21.ge (.head _)
    have N21L := oth_ne (W := W21) (S := [g11, L, g2, g1]) (g := L) (.tail _ (.head _))
    have ge21L : (rnd W21 n₀ ho21.hn).B ≤ L := ho21.ge (.tail _ (.head _))
    have N21g2 := oth_ne (W := W21) (S := [g11, L, g2, g1]) (g := g2) (.tail _ (.tail _ (.head _)))
    have ge21g2 : (rnd W21 n₀ ho21.hn).B ≤ g2 := ho21.ge (.tail _ (.tail _ (.head _)))
    have N21g1 := oth_ne (W := W21) (S := [g11, L, g2, g1]) (g := g1) (.tail _ (.tail _ (.tail _ (.head _))))
    have ge21g1 : (rnd W21 n₀ ho21.hn).B ≤ g1 := ho21.ge (.tail _ (.tail _ (.tail _ (.head _))))
    obtain ⟨hoP, hJP⟩ := Tw.Own.put o hJa ho21 hJ21 (.tail _ (.head _))
    have qg11 : (W21.putObj L o).heap[g11]? = some (.cells #[.int .i64 x.1, .int .i64 x.2] 41 (0, 0)) := (World.putObj_heap_other (Ne.symm Fg11.1)).trans (hk21.2 _ (.head _))
    have qL : (W21.putObj L o).heap[L]? = some o := World.putObj_heap_same (lt_of_block (hk21.2 _ (.tail _ (.head _))))
    have qg2 : (W21.putObj L o).heap[g2]? = some (.cells #[.slice p ls0.length cap] 22 (0, 0)) := (World.putObj_heap_other nL.1.symm).trans (hk21.2 _ (.tail _ (.tail _ (.head _))))
    have qg1 : (W21.putObj L o).heap[g1]? = some (.cells #[.func (.yield l) #[] #[]] 95 (0, 0)) := (World.putObj_heap_other nL.2.1.symm).trans (hk21.2 _ (.tail _ (.tail _ (.tail _ (.head _)))))
    generalize W21.putObj L o = WP at hoP hJP qg11 qL qg2 qg1 ⊢
    have hkP : KS (rnd WP n₀ hoP.hn) ((g11, .cells #[.int .i64 x.1, .int .i64 x.2] 41 (0, 0)) :: (L, o) :: (g2, .cells #[.slice p ls0.length cap] 22 (0, 0)) :: (g1, .cells #[.func (.yield l) #[] #[]] 95 (0, 0)) :: (oth WP [g11, L, g2, g1])) WP := ks_oth (K := [(g11, .cells #[.int .i64 x.1, .int .i64 x.2] 41 (0, 0)), (L, o), (g2, .cells #[.slice p ls0.length cap] 22 (0, 0)), (g1, .cells #[.func (.yield l) #[] #[]] 95 (0, 0))]) (List.forall_mem_cons.2 ⟨qg11, (List.forall_mem_cons.2 ⟨qL, (List.forall_mem_cons.2 ⟨qg2, (List.forall_mem_cons.2 ⟨qg1, (List.forall_mem_nil _)⟩)⟩)⟩)⟩)
    have NPg11 := oth_ne (W := WP) (S := [g11, L, g2, g1]) (g := g11) (.head _)
    have gePg11 : (rnd WP n₀ hoP.hn).B ≤ g11 := hoP.ge (.head _)
    have NPL := oth_ne (W := WP) (S := [g11, L, g2, g1]) (g := L) (.tail _ (.head _))
    have gePL : (rnd WP n₀ hoP.hn).B ≤ L := hoP.ge (.tail _ (.head _))
    have NPg2 := oth_ne (W := WP) (S := [g11, L, g2, g1]) (g := g2) (.tail _ (.tail _ (.head _)))
    have gePg2 : (rnd WP n₀ hoP.hn).B ≤ g2 := hoP.ge (.tail _ (.tail _ (.head _)))
    have NPg1 := oth_ne (W := WP) (S := [g11, L, g2, g1]) (g := g1) (.tail _ (.tail _ (.tail _ (.head _))))
    have gePg1 : (rnd WP n₀ hoP.hn).B ≤ g1 := hoP.ge (.tail _ (.tail _ (.tail _ (.head _))))
    refine wpIn_block ?_
    refine wpIn_seq ?_
    refine wpIn_block ?_
    gi_loopw [] (fun wr => ∃ (ls : List (Int × Int)) (p : Option Addr) (cap : Nat), skipL x.1 ls0 = skipL x.1 ls ∧ ls.length ≤ 1000 ∧ AV W1 n₀ ls p cap ∧ Tw.Own n₀ B (L :: g2 :: g1 :: So) [g11, L, g2, g1] So W wr ∧ J os So wr ∧ (∀ q ∈ [(g11, .cells #[.int .i64 x.1, .int .i64 x.2] 41 (0, 0)), (L, o), (g2, .cells #[.slice p ls.length cap] 22 (0, 0)), (g1, .cells #[.func (.yield l) #[] #[]] 95 (0, 0))], wr.heap[q.1]? = some q.2)) (fun wr => lenAt wr g2)
    case atStart => exact ⟨ls0, p, cap, rfl, hll0, hAV0, hoP, hJP, fun q hq => hkP.2 q (List.mem_append_left _ hq)⟩
    case round =>
      clear hAV0
      obtain ⟨ls, p, cap, hsk, hll, hAV, hol, hJl, hql⟩ := hrel
      have hkl : KS (rnd wr n₀ hol.hn) ((g11, .cells #[.int .i64 x.1, .int .i64 x.2] 41 (0, 0)) :: (L, o) :: (g2, .cells #[.slice p ls.length cap] 22 (0, 0)) :: (g1, .cells #[.func (.yield l) #[] #[]] 95 (0, 0)) :: (oth wr [g11, L, g2, g1])) wr := ks_oth (K := [(g11, .cells #[.int .i64 x.1, .int .i64 x.2] 41 (0, 0)), (L, o), (g2, .cells #[.slice p ls.length cap] 22 (0, 0)), (g1, .cells #[.func (.yield l) #[] #[]] 95 (0, 0))]) hql
      have Nlg11 := oth_ne (W := wr) (S := [g11, L, g2, g1]) (g := g11) (.head _)
      have gelg11 : (rnd wr n₀ hol.hn).B ≤ g11 := hol.ge (.head _)
      have NlL := oth_ne (W := wr) (S := [g11, L, g2, g1]) (g := L) (.tail _ (.head _))
      have gelL : (rnd wr n₀ hol.hn).B ≤ L := hol.ge (.tail _ (.head _))
      have Nlg2 := oth_ne (W := wr) (S := [g11, L, g2, g1]) (g := g2) (.tail _ (.tail _ (.head _)))
      have gelg2 : (rnd wr n₀ hol.hn).B ≤ g2 := hol.ge (.tail _ (.tail _ (.head _)))
      have Nlg1 := oth_ne (W := wr) (S := [g11, L, g2, g1]) (g := g1) (.tail _ (.tail _ (.tail _ (.head _))))
      have gelg1 : (rnd wr n₀ hol.hn).B ≤ g1 := hol.ge (.tail _ (.tail _ (.tail _ (.head _))))
      by_cases hkn : 0 < ls.length
      · obtain ⟨b, off, hp, hbn, hcl⟩ := hAV.2.resolve_left (fun e => by rw [e] at hkn; simp at hkn)
        obtain ⟨⟨cf, ct⟩, hget⟩ : ∃ s, ls[0]? = some s := ⟨_, List.getElem?_eq_getElem hkn⟩
        by_cases hce : ct ≤ x.1
        · refine wpIn_seq ?_
          refine wpIn_seq ?_
          have hcell := cells_low hcl (hWr.trans hol.below) hbn
          refine wp_region_VI (W0 := (rnd wr n₀ hol.hn)) ((g11, .cells #[.int .i64 x.1, .int .i64 x.2] 41 (0, 0)) :: (L, o) :: (g2, .cells #[.slice p ls.length cap] 22 (0, 0)) :: (g1, .cells #[.func (.yield l) #[] #[]] 95 (0, 0)) :: (oth wr [g11, L, g2, g1])) (by kernel_rfl) (by kernel_rfl) (hkl) ?_
          refine vv (i := 0) (v := .slice p ls.length cap) rfl rfl rfl (yb_loadc (off := 0) rfl (by kernel_rfl) (.tail _ (.tail _ (.head _))) Tryd.underlying22 rfl (by kernel_rfl)) ?_
          refine vm (i := 1) (v := .int .i64 (ls.length : Int)) rfl rfl rfl ?_
          refine vp (i := 2) (v := .bool true) rfl rfl rfl (run_bin rfl (vx := .int .i64 (ls.length : Int)) (vy := .int .i64 0) (by kernel_rfl) (by kernel_rfl) fun w => run_gtrI (decide_eq_true (by omega)) w) ?_
          refine vm (i := 3) (v := .bool true) rfl rfl rfl ?_
          refine vv (i := 4) (v := .slice p ls.length cap) rfl rfl rfl (yb_loadc (off := 0) rfl (by kernel_rfl) (.tail _ (.tail _ (.head _))) Tryd.underlying22 rfl (by kernel_rfl)) ?_
          refine vp (i := 5) (v := .pointer (some ⟨b, off + 2 * 0, none⟩)) rfl rfl rfl (run_idxp (b := b) (off := off) (n := ls.length) (cap := cap) (k := 0) rfl (by kernel_rfl) hp (by kernel_rfl) hkn) ?_
          refine vm (i := 6) (v := .pointer (some ⟨b, off + 2 * 0 + 1, none⟩)) rfl rfl rfl ?_
          refine vv (i := 7) (v := .int .i64 ct) rfl rfl rfl (yb_load1 rfl (by kernel_rfl) (hcell 0 (cf, ct) hget).2 hbn Tryd.underlying3 rfl) ?_
          refine vm (i := 8) (v := .pointer (some ⟨g11, 0, none⟩)) rfl rfl rfl ?_
          refine vv (i := 9) (v := .int .i64 x.1) rfl rfl rfl (yb_loadc (off := 0) rfl (by kernel_rfl) (.head _) Tryd.underlying3 rfl (by kernel_rfl)) ?_
          refine vp (i := 10) (v := .bool true) rfl rfl rfl (run_bin rfl (vx := .int .i64 ct) (vy := .int .i64 x.1) (by kernel_rfl) (by kernel_rfl) fun w => run_leqI (decide_eq_true hce) w) ?_
          refine vm (i := 11) (v := .bool true) rfl rfl rfl ?_
          refine wpV_done (by kernel_rfl) (fun W22 hW22 => ?_) _
          obtain ⟨ho22, hJ22⟩ := Tw.Own.work (O' := [g11, L, g2, g1]) hJa hol hJl hW22 (fun p hp => (.tail _ (.tail _ (.tail _ (.tail _ hp))))) (List.forall_mem_cons.2 ⟨.inl (.head _), (List.forall_mem_cons.2 ⟨.inl (.tail _ (.head _)), (List.forall_mem_cons.2 ⟨.inl (.tail _ (.tail _ (.head _))), (List.forall_mem_cons.2 ⟨.inl (.tail _ (.tail _ (.tail _ (.head _)))), (List.forall_mem_nil _)⟩)⟩)⟩)⟩)
          have hk22 : KS (rnd W22 n₀ ho22.hn) ((g11, .cells #[.int .i64 x.1, .int .i64 x.2] 41 (0, 0)) :: (L, o) :: (g2, .cells #[.slice p ls.length cap] 22 (0, 0)) :: (g1, .cells #[.func (.yield l) #[] #[]] 95 (0, 0)) :: (oth W22 [g11, L, g2, g1])) W22 := ks_oth (K := [(g11, .cells #[.int .i64 x.1, .int .i64 x.2] 41 (0, 0)), (L, o), (g2, .cells #[.slice p ls.length cap] 22 (0, 0)), (g1, .cells #[.func (.yield l) #[] #[]] 95 (0, 0))]) (fun p hp => hW22.2 p (List.mem_append_left _ hp))
          have N22g11 := oth_ne (W := W22) (S := [g11, L, g2, g1]) (g := g11) (.head _)
          have ge22g11 : (rnd W22 n₀ ho22.hn).B ≤ g11 := ho22.ge (.head _)
          have N22L := oth_ne (W := W22) (S := [g11, L, g2, g1]) (g := L) (.tail _ (.head _))
          have ge22L : (rnd W22 n₀ ho22.hn).B ≤ L := ho22.ge (.tail _ (.head _))
          have N22g2 := oth_ne (W := W22) (S := [g11, L, g2, g1]) (g := g2) (.tail _ (.tail _ (.head _)))
          have ge22g2 : (rnd W22 n₀ ho22.hn).B ≤ g2 := ho22.ge (.tail _ (.tail _ (.head _)))
          have N22g1 := oth_ne (W := W22) (S := [g11, L, g2, g1]) (g := g1) (.tail _ (.tail _ (.tail _ (.head _))))
          have ge22g1 : (rnd W22 n₀ ho22.hn).B ≤ g1 := ho22.ge (.tail _ (.tail _ (.tail _ (.head _))))
          refine (show Code.wpIn _ _ _ _ _ _ _ from ?_)
          refine wpIn_cond_true rfl ?_
          refine wpIn_skip ?_
          refine (show Code.wpIn _ _ _ _ _ _ _ from ?_)
          refine wpIn_block ?_
          refine wp_region_LI (W0 := (rnd W22 n₀ ho22.hn)) ((g11, .cells #[.int .i64 x.1, .int .i64 x.2] 41 (0, 0)) :: (L, o) :: (g2, .cells #[.slice p ls.length cap] 22 (0, 0)) :: (g1, .cells #[.func (.yield l) #[] #[]] 95 (0, 0)) :: (oth W22 [g11, L, g2, g1])) (by kernel_rfl) (hk22) ?_
          refine lv (v := .slice p ls.length cap) rfl rfl (yb_loadc (off := 0) rfl (by kernel_rfl) (.tail _ (.tail _ (.head _))) Tryd.underlying22 rfl (by kernel_rfl)) ?_
          refine lp (v := .slice (if cap = 1 then p else p.map (·.add (1 * 2))) (ls.length - 1) (cap - 1)) rfl rfl (run_tl rfl (by kernel_rfl) hkn) ?_
          refine wpL_s ((g11, .cells #[.int .i64 x.1, .int .i64 x.2] 41 (0, 0)) :: (L, o) :: (g2, .cells #[.slice (if cap = 1 then p else p.map (·.add (1 * 2))) (ls.length - 1) (cap - 1)] 22 (0, 0)) :: (g1, .cells #[.func (.yield l) #[] #[]] 95 (0, 0)) :: (oth W22 [g11, L, g2, g1])) rfl rfl (st_cell rfl (by kernel_rfl) (by kernel_rfl) (.tail _ (.tail _ (.head _))) (by omega) (by kernel_rfl) ⟨rfl, rfl⟩ (List.forall_mem_cons.2 ⟨.inr ⟨(.head _), (Ne.symm Fg11.2.1)⟩, (List.forall_mem_cons.2 ⟨.inr ⟨(.tail _ (.head _)), nL.1⟩, (List.forall_mem_cons.2 ⟨.inl rfl, (List.forall_mem_cons.2 ⟨.inr ⟨(.tail _ (.tail _ (.tail _ (.head _)))), n12⟩, (fun p hp => .inr ⟨(.tail _ (.tail _ (.tail _ (.tail _ hp)))), N22g2 p hp⟩)⟩)⟩)⟩)⟩)) ?_
          refine wpL_done (fun W23 hW23 => ?_)
          obtain ⟨ho23, hJ23⟩ := Tw.Own.work (O' := [g11, L, g2, g1]) hJa ho22 hJ22 hW23 (fun p hp => (.tail _ (.tail _ (.tail _ (.tail _ hp))))) (List.forall_mem_cons.2 ⟨.inl (.head _), (List.forall_mem_cons.2 ⟨.inl (.tail _ (.head _)), (List.forall_mem_cons.2 ⟨.inl (.tail _ (.tail _ (.head _))), (List.forall_mem_cons.2 ⟨.inl (.tail _ (.tail _ (.tail _ (.head _)))), (List.forall_mem_nil _)⟩)⟩)⟩)⟩)
          have hk23 : KS (rnd W23 n₀ ho23.hn) ((g11, .cells #[.int .i64 x.1, .int .i64 x.2] 41 (0, 0)) :: (L, o) :: (g2, .cells #[.slice (if cap = 1 then p else p.map (·.add (1 * 2))) (ls.length - 1) (cap - 1)] 22 (0, 0)) :: (g1, .cells #[.func (.yield l) #[] #[]] 95 (0, 0)) :: (oth W23 [g11, L, g2, g1])) W23 := ks_oth (K := [(g11, .cells #[.int .i64 x.1, .int .i64 x.2] 41 (0, 0)), (L, o), (g2, .cells #[.slice (if cap = 1 then p else p.map (·.add (1 * 2))) (ls.length - 1) (cap - 1)] 22 (0, 0)), (g1, .cells #[.func (.yield l) #[] #[]] 95 (0, 0))]) (fun p hp => hW23.2 p (List.mem_append_left _ hp))
          have N23g11 := oth_ne (W := W23) (S := [g11, L, g2, g1]) (g := g11) (.head _)
          have ge23g11 : (rnd W23 n₀ ho23.hn).B ≤ g11 := ho23.ge (.head _)
          have N23L := oth_ne (W := W23) (S := [g11, L, g2, g1]) (g := L) (.tail _ (.head _))
          have ge23L : (rnd W23 n₀ ho23.hn).B ≤ L := ho23.ge (.tail _ (.head _))
          have N23g2 := oth_ne (W := W23) (S := [g11, L, g2, g1]) (g := g2) (.tail _ (.tail _ (.head _)))
          have ge23g2 : (rnd W23 n₀ ho23.hn).B ≤ g2 := ho23.ge (.tail _ (.tail _ (.head _)))
          have N23g1 := oth_ne (W := W23) (S := [g11, L, g2, g1]) (g := g1) (.tail _ (.tail _ (.tail _ (.head _))))
          have ge23g1 : (rnd W23 n₀ ho23.hn).B ≤ g1 := ho23.ge (.tail _ (.tail _ (.tail _ (.head _))))
          go_roundw
          case rel =>
            repeat apply Exists.intro
            have hld : (ls.drop 1).length = ls.length - 1 := List.length_drop
            exact ⟨⟨ls.drop 1, _, _, by rw [hsk, skip_get hget, if_pos hce], by omega, hAV.tail hkn, ho23, hJ23, by rw [hld]; exact fun q hq => hk23.2 q (List.mem_append_left _ hq)⟩, rfl⟩
          case measure => (show lenAt _ g2 < lenAt _ g2); rw [lenAt_of (hk23.2 _ (.tail _ (.tail _ (.head _)))), lenAt_of (hql (g2, _) (.tail _ (.tail _ (.head _))))]; omega
        · have hls : skipL x.1 ls0 = ls := by rw [hsk, skip_get hget, if_neg hce]
          refine wpIn_seq ?_
          refine wpIn_seq ?_
          have hcell := cells_low hcl (hWr.trans hol.below) hbn
          refine wp_region_VI (W0 := (rnd wr n₀ hol.hn)) ((g11, .cells #[.int .i64 x.1, .int .i64 x.2] 41 (0, 0)) :: (L, o) :: (g2, .cells #[.slice p ls.length cap] 22 (0, 0)) :: (g1, .cells #[.func (.yield l) #[] #[]] 95 (0, 0)) :: (oth wr [g11, L, g2, g1])) (by kernel_rfl) (by kernel_rfl) (hkl) ?_
          refine vv (i := 0) (v := .slice p ls.length cap) rfl rfl rfl (yb_loadc (off := 0) rfl (by kernel_rfl) (.tail _ (.tail _ (.head _))) Tryd.underlying22 rfl (by kernel_rfl)) ?_
          refine vm (i := 1) (v := .int .i64 (ls.length : Int)) rfl rfl rfl ?_
          refine vp (i := 2) (v := .bool true) rfl rfl rfl (run_bin rfl (vx := .int .i64 (ls.length : Int)) (vy := .int .i64 0) (by kernel_rfl) (by kernel_rfl) fun w => run_gtrI (decide_eq_true (by omega)) w) ?_
          refine vm (i := 3) (v := .bool true) rfl rfl rfl ?_
          refine vv (i := 4) (v := .slice p ls.length cap) rfl rfl rfl (yb_loadc (off := 0) rfl (by kernel_rfl) (.tail _ (.tail _ (.head _))) Tryd.underlying22 rfl (by kernel_rfl)) ?_
          refine vp (i := 5) (v := .pointer (some ⟨b, off + 2 * 0, none⟩)) rfl rfl rfl (run_idxp (b := b) (off := off) (n := ls.length) (cap := cap) (k := 0) rfl (by kernel_rfl) hp (by kernel_rfl) hkn) ?_
          refine vm (i := 6) (v := .pointer (some ⟨b, off + 2 * 0 + 1, none⟩)) rfl rfl rfl ?_
          refine vv (i := 7) (v := .int .i64 ct) rfl rfl rfl (yb_load1 rfl (by kernel_rfl) (hcell 0 (cf, ct) hget).2 hbn Tryd.underlying3 rfl) ?_
          refine vm (i := 8) (v := .pointer (some ⟨g11, 0, none⟩)) rfl rfl rfl ?_
          refine vv (i := 9) (v := .int .i64 x.1) rfl rfl rfl (yb_loadc (off := 0) rfl (by kernel_rfl) (.head _) Tryd.underlying3 rfl (by kernel_rfl)) ?_
          refine vp (i := 10) (v := .bool false) rfl rfl rfl (run_bin rfl (vx := .int .i64 ct) (vy := .int .i64 x.1) (by kernel_rfl) (by kernel_rfl) fun w => run_leqI (decide_eq_false hce) w) ?_
          refine vm (i := 11) (v := .bool false) rfl rfl rfl ?_
          refine wpV_done (by kernel_rfl) (fun W22 hW22 => ?_) _
          obtain ⟨ho22, hJ22⟩ := Tw.Own.work (O' := [g11, L, g2, g1]) hJa hol hJl hW22 (fun p hp => (.tail _ (.tail _ (.tail _ (.tail _ hp))))) (List.forall_mem_cons.2 ⟨.inl (.head _), (List.forall_mem_cons.2 ⟨.inl (.tail _ (.head _)), (List.forall_mem_cons.2 ⟨.inl (.tail _ (.tail _ (.head _))), (List.forall_mem_cons.2 ⟨.inl (.tail _ (.tail _ (.tail _ (.head _)))), (List.forall_mem_nil _)⟩)⟩)⟩)⟩)
          have hk22 : KS (rnd W22 n₀ ho22.hn) ((g11, .cells #[.int .i64 x.1, .int .i64 x.2] 41 (0, 0)) :: (L, o) :: (g2, .cells #[.slice p ls.length cap] 22 (0, 0)) :: (g1, .cells #[.func (.yield l) #[] #[]] 95 (0, 0)) :: (oth W22 [g11, L, g2, g1])) W22 := ks_oth (K := [(g11, .cells #[.int .i64 x.1, .int .i64 x.2] 41 (0, 0)), (L, o), (g2, .cells #[.slice p ls.length cap] 22 (0, 0)), (g1, .cells #[.func (.yield l) #[] #[]] 95 (0, 0))]) (fun p hp => hW22.2 p (List.mem_append_left _ hp))
          have N22g11 := oth_ne (W := W22) (S := [g11, L, g2, g1]) (g := g11) (.head _)
          have ge22g11 : (rnd W22 n₀ ho22.hn).B ≤ g11 := ho22.ge (.head _)
          have N22L := oth_ne (W := W22) (S := [g11, L, g2, g1]) (g := L) (.tail _ (.head _))
          have ge22L : (rnd W22 n₀ ho22.hn).B ≤ L := ho22.ge (.tail _ (.head _))
          have N22g2 := oth_ne (W := W22) (S := [g11, L, g2, g1]) (g := g2) (.tail _ (.tail _ (.head _)))
          have ge22g2 : (rnd W22 n₀ ho22.hn).B ≤ g2 := ho22.ge (.tail _ (.tail _ (.head _)))
          have N22g1 := oth_ne (W := W22) (S := [g11, L, g2, g1]) (g := g1) (.tail _ (.tail _ (.tail _ (.head _))))
          have ge22g1 : (rnd W22 n₀ ho22.hn).B ≤ g1 := ho22.ge (.tail _ (.tail _ (.tail _ (.head _))))
          refine (show Code.wpIn _ _ _ _ _ _ _ from ?_)
          refine wpIn_cond_false rfl ?_
          refine wpIn_exit ?_
          refine (show Code.wpIn _ _ _ _ _ _ _ from ?_)
          refine wpIn_seq ?_
          refine wpIn_seq ?_
          refine wp_region_LI (W0 := (rnd W22 n₀ ho22.hn)) ((g11, .cells #[.int .i64 x.1, .int .i64 x.2] 41 (0, 0)) :: (L, o) :: (g2, .cells #[.slice p ls.length cap] 22 (0, 0)) :: (g1, .cells #[.func (.yield l) #[] #[]] 95 (0, 0)) :: (oth W22 [g11, L, g2, g1])) (by kernel_rfl) (hk22) ?_
          refine lv (v := .slice p ls.length cap) rfl rfl (yb_loadc (off := 0) rfl (by kernel_rfl) (.tail _ (.tail _ (.head _))) Tryd.underlying22 rfl (by kernel_rfl)) ?_
          refine lm (v := .int .i64 (ls.length : Int)) rfl rfl ?_
          refine lm (v := .int .i64 0) rfl rfl ?_
          refine wpL_done (fun W23 hW23 => ?_)
          obtain ⟨ho23, hJ23⟩ := Tw.Own.work (O' := [g11, L, g2, g1]) hJa ho22 hJ22 hW23 (fun p hp => (.tail _ (.tail _ (.tail _ (.tail _ hp))))) (List.forall_mem_cons.2 ⟨.inl (.head _), (List.forall_mem_cons.2 ⟨.inl (.tail _ (.head _)), (List.forall_mem_cons.2 ⟨.inl (.tail _ (.tail _ (.head _))), (List.forall_mem_cons.2 ⟨.inl (.tail _ (.tail _ (.tail _ (.head _)))), (List.forall_mem_nil _)⟩)⟩)⟩)⟩)
          have hk23 : KS (rnd W23 n₀ ho23.hn) ((g11, .cells #[.int .i64 x.1, .int .i64 x.2] 41 (0, 0)) :: (L, o) :: (g2, .cells #[.slice p ls.length cap] 22 (0, 0)) :: (g1, .cells #[.func (.yield l) #[] #[]] 95 (0, 0)) :: (oth W23 [g11, L, g2, g1])) W23 := ks_oth (K := [(g11, .cells #[.int .i64 x.1, .int .i64 x.2] 41 (0, 0)), (L, o), (g2, .cells #[.slice p ls.length cap] 22 (0, 0)), (g1, .cells #[.func (.yield l) #[] #[]] 95 (0, 0))]) (fun p hp => hW23.2 p (List.mem_append_left _ hp))
          have N23g11 := oth_ne (W := W23) (S := [g11, L, g2, g1]) (g := g11) (.head _)
          have ge23g11 : (rnd W23 n₀ ho23.hn).B ≤ g11 := ho23.ge (.head _)
          have N23L := oth_ne (W := W23) (S := [g11, L, g2, g1]) (g := L) (.tail _ (.head _))
          have ge23L : (rnd W23 n₀ ho23.hn).B ≤ L := ho23.ge (.tail _ (.head _))
          have N23g2 := oth_ne (W := W23) (S := [g11, L, g2, g1]) (g := g2) (.tail _ (.tail _ (.head _)))
          have ge23g2 : (rnd W23 n₀ ho23.hn).B ≤ g2 := ho23.ge (.tail _ (.tail _ (.head _)))
          have N23g1 := oth_ne (W := W23) (S := [g11, L, g2, g1]) (g := g1) (.tail _ (.tail _ (.tail _ (.head _))))
          have ge23g1 : (rnd W23 n₀ ho23.hn).B ≤ g1 := ho23.ge (.tail _ (.tail _ (.tail _ (.head _))))
          refine (show Code.wpIn _ _ _ _ _ _ _ from ?_)
          refine wpIn_block ?_
          rw [hls] at hfull0
          gi_loopw [27] (fun u wr => ∃ (k : Nat) (f : Int) (os2 : List (Int × Int)) (So2 : List Nat), withoutL closed xs = os2 ++ (cutL x.2 f (ls.drop k) ++ withoutL ls (xs.drop (pre.length + 1))) ∧ k ≤ ls.length ∧ u = .int .i64 (k : Int) ∧ Tw.Own n₀ B (L :: g2 :: g1 :: So) [g11, L, g2, g1] So2 W wr ∧ J os2 So2 wr ∧ (∀ q ∈ [(g11, .cells #[.int .i64 f, .int .i64 x.2] 41 (0, 0)), (L, o), (g2, .cells #[.slice p ls.length cap] 22 (0, 0)), (g1, .cells #[.func (.yield l) #[] #[]] 95 (0, 0))], wr.heap[q.1]? = some q.2)) (fun u _ => (ls.length - intOf u).toNat)
          case atStart => exact ⟨0, x.1, os, So, hfull0, by omega, rfl, ho23, hJ23, fun q hq => hk23.2 q (List.mem_append_left _ hq)⟩
          case round =>
            obtain ⟨k, f, os2, So2, hfull, hk, rfl, hom, hJm, hqm⟩ := hrel
            have hkm : KS (rnd wr n₀ hom.hn) ((g11, .cells #[.int .i64 f, .int .i64 x.2] 41 (0, 0)) :: (L, o) :: (g2, .cells #[.slice p ls.length cap] 22 (0, 0)) :: (g1, .cells #[.func (.yield l) #[] #[]] 95 (0, 0)) :: (oth wr [g11, L, g2, g1])) wr := ks_oth (K := [(g11, .cells #[.int .i64 f, .int .i64 x.2] 41 (0, 0)), (L, o), (g2, .cells #[.slice p ls.length cap] 22 (0, 0)), (g1, .cells #[.func (.yield l) #[] #[]] 95 (0, 0))]) hqm
            have Nmg11 := oth_ne (W := wr) (S := [g11, L, g2, g1]) (g := g11) (.head _)
            have gemg11 : (rnd wr n₀ hom.hn).B ≤ g11 := hom.ge (.head _)
            have NmL := oth_ne (W := wr) (S := [g11, L, g2, g1]) (g := L) (.tail _ (.head _))
            have gemL : (rnd wr n₀ hom.hn).B ≤ L := hom.ge (.tail _ (.head _))
            have Nmg2 := oth_ne (W := wr) (S := [g11, L, g2, g1]) (g := g2) (.tail _ (.tail _ (.head _)))
            have gemg2 : (rnd wr n₀ hom.hn).B ≤ g2 := hom.ge (.tail _ (.tail _ (.head _)))
            have Nmg1 := oth_ne (W := wr) (S := [g11, L, g2, g1]) (g := g1) (.tail _ (.tail _ (.tail _ (.head _))))
            have gemg1 : (rnd wr n₀ hom.hn).B ≤ g1 := hom.ge (.tail _ (.tail _ (.tail _ (.head _))))
            by_cases hkn : k < ls.length
            · obtain ⟨b, off, hp, hbn, hcl⟩ := hAV.2.resolve_left (fun e => by rw [e] at hkn; simp at hkn)
              obtain ⟨⟨cf, ct⟩, hget⟩ : ∃ s, ls[k]? = some s := ⟨_, List.getElem?_eq_getElem hkn⟩
              rw [cut_drop hget] at hfull
              by_cases hbr : x.2 ≤ cf
              · rw [if_pos hbr] at hfull
                have hlast : withoutL closed xs = os2 ++ (lastL f x.2 ++ withoutL ls (xs.drop (pre.length + 1))) := hfull
                by_cases he : x.2 ≤ f
                · have hem := fun W => empty_any f x.2 W
                  rw [decide_eq_true he] at hem
                  refine wpIn_seq ?_
                  refine wp_region_LI (W0 := (rnd wr n₀ hom.hn)) ((g11, .cells #[.int .i64 f, .int .i64 x.2] 41 (0, 0)) :: (L, o) :: (g2, .cells #[.slice p ls.length cap] 22 (0, 0)) :: (g1, .cells #[.func (.yield l) #[] #[]] 95 (0, 0)) :: (oth wr [g11, L, g2, g1])) (by kernel_rfl) (hkm) ?_
                  refine lp (v := .bool true) rfl rfl (run_bin rfl (vx := .int .i64 (k : Int)) (vy := .int .i64 (ls.length : Int)) (by kernel_rfl) (by kernel_rfl) fun w => run_lssI (decide_eq_true (by omega)) w) ?_
                  refine wpL_done (fun W24 hW24 => ?_)
                  obtain ⟨ho24, hJ24⟩ := Tw.Own.work (O' := [g11, L, g2, g1]) hJa hom hJm hW24 (fun p hp => (.tail _ (.tail _ (.tail _ (.tail _ hp))))) (List.forall_mem_cons.2 ⟨.inl (.head _), (List.forall_mem_cons.2 ⟨.inl (.tail _ (.head _)), (List.forall_mem_cons.2 ⟨.inl (.tail _ (.tail _ (.head _))), (List.forall_mem_cons.2 ⟨.inl (.tail _ (.tail _ (.tail _ (.head _)))), (List.forall_mem_nil _)⟩)⟩)⟩)⟩)
                  have hk24 : KS (rnd W24 n₀ ho24.hn) ((g11, .cells #[.int .i64 f, .int .i64 x.2] 41 (0, 0)) :: (L, o) :: (g2, .cells #[.slice p ls.length cap] 22 (0, 0)) :: (g1, .cells #[.func (.yield l) #[] #[]] 95 (0, 0)) :: (oth W24 [g11, L, g2, g1])) W24 := ks_oth (K := [(g11, .cells #[.int .i64 f, .int .i64 x.2] 41 (0, 0)), (L, o), (g2, .cells #[.slice p ls.length cap] 22 (0, 0)), (g1, .cells #[.func (.yield l) #[] #[]] 95 (0, 0))]) (fun p hp => hW24.2 p (List.mem_append_left _ hp))
                  have N24g11 := oth_ne (W := W24) (S := [g11, L, g2, g1]) (g := g11) (.head _)
                  have ge24g11 : (rnd W24 n₀ ho24.hn).B ≤ g11 := ho24.ge (.head _)
                  have N24L := oth_ne (W := W24) (S := [g11, L, g2, g1]) (g := L) (.tail _ (.head _))
                  have ge24L : (rnd W24 n₀ ho24.hn).B ≤ L := ho24.ge (.tail _ (.head _))
                  have N24g2 := oth_ne (W := W24) (S := [g11, L, g2, g1]) (g := g2) (.tail _ (.tail _ (.head _)))
                  have ge24g2 : (rnd W24 n₀ ho24.hn).B ≤ g2 := ho24.ge (.tail _ (.tail _ (.head _)))
                  have N24g1 := oth_ne (W := W24) (S := [g11, L, g2, g1]) (g := g1) (.tail _ (.tail _ (.tail _ (.head _))))
                  have ge24g1 : (rnd W24 n₀ ho24.hn).B ≤ g1 := ho24.ge (.tail _ (.tail _ (.tail _ (.head _))))
                  refine (show Code.wpIn _ _ _ _ _ _ _ from ?_)
                  refine wpIn_seq ?_
                  refine wpIn_cond_true rfl ?_
                  refine wpIn_skip ?_
                  refine (show Code.wpIn _ _ _ _ _ _ _ from ?_)
                  refine wpIn_seq ?_
                  refine wpIn_block ?_
                  refine wpIn_seq ?_
                  have hcell := cells_low hcl (hWr.trans ho24.below) hbn
                  refine wp_region_LI (W0 := (rnd W24 n₀ ho24.hn)) ((g11, .cells #[.int .i64 f, .int .i64 x.2] 41 (0, 0)) :: (L, o) :: (g2, .cells #[.slice p ls.length cap] 22 (0, 0)) :: (g1, .cells #[.func (.yield l) #[] #[]] 95 (0, 0)) :: (oth W24 [g11, L, g2, g1])) (by kernel_rfl) (hk24) ?_
                  refine lp (v := .pointer (some ⟨b, off + 2 * k, none⟩)) rfl rfl (run_idxp (b := b) (off := off) (n := ls.length) (cap := cap) (k := k) rfl (by kernel_rfl) hp (by kernel_rfl) hkn) ?_
                  refine lv (v := .agg #[.int .i64 cf, .int .i64 ct]) rfl rfl (yb_load2 rfl (by kernel_rfl) (hcell k (cf, ct) hget).1 (hcell k (cf, ct) hget).2 hbn) ?_
                  refine wpL_new (fun g => .pointer (some ⟨g, 0, none⟩)) (obi := .cells #[.int .i64 0, .int .i64 0] 41 (0, 0)) rfl rfl (fun _ => by kernel_rfl) (fun _ => by simp only [List.setIfInBounds_toArray, List.set_cons_succ, List.set_cons_zero] <;> rfl) fun g12 Bg12 Fg12 => ?_
                  try simp only [List.forall_mem_cons] at Fg12
                  refine wpL_s ((g12, .cells #[.int .i64 cf, .int .i64 ct] 41 (0, 0)) :: (g11, .cells #[.int .i64 f, .int .i64 x.2] 41 (0, 0)) :: (L, o) :: (g2, .cells #[.slice p ls.length cap] 22 (0, 0)) :: (g1, .cells #[.func (.yield l) #[] #[]] 95 (0, 0)) :: (oth W24 [g11, L, g2, g1])) rfl rfl (st_span rfl (by kernel_rfl) (by kernel_rfl) (.head _) (by omega) (List.forall_mem_cons.2 ⟨.inl rfl, (List.forall_mem_cons.2 ⟨.inr ⟨(.tail _ (.head _)), Fg12.1⟩, (List.forall_mem_cons.2 ⟨.inr ⟨(.tail _ (.tail _ (.head _))), Fg12.2.1⟩, (List.forall_mem_cons.2 ⟨.inr ⟨(.tail _ (.tail _ (.tail _ (.head _)))), Fg12.2.2.1⟩, (List.forall_mem_cons.2 ⟨.inr ⟨(.tail _ (.tail _ (.tail _ (.tail _ (.head _))))), Fg12.2.2.2.1⟩, (fun p hp => .inr ⟨(.tail _ (.tail _ (.tail _ (.tail _ (.tail _ hp))))), Fg12.2.2.2.2 p hp⟩)⟩)⟩)⟩)⟩)⟩)) ?_
                  refine wpL_done (fun W25 hW25 => ?_)
                  obtain ⟨ho25, hJ25⟩ := Tw.Own.work (O' := [g12, g11, L, g2, g1]) hJa ho24 hJ24 hW25 (fun p hp => (.tail _ (.tail _ (.tail _ (.tail _ (.tail _ hp)))))) (List.forall_mem_cons.2 ⟨.inr ⟨new_oth (O := [g11, L, g2, g1]) Fg12.2.2.2.2 (List.forall_mem_cons.2 ⟨Fg12.1, (List.forall_mem_cons.2 ⟨Fg12.2.1, (List.forall_mem_cons.2 ⟨Fg12.2.2.1, (List.forall_mem_cons.2 ⟨Fg12.2.2.2.1, (List.forall_mem_nil _)⟩)⟩)⟩)⟩), lt_of_block (hW25.2 _ (.head _))⟩, (List.forall_mem_cons.2 ⟨.inl (.head _), (List.forall_mem_cons.2 ⟨.inl (.tail _ (.head _)), (List.forall_mem_cons.2 ⟨.inl (.tail _ (.tail _ (.head _))), (List.forall_mem_cons.2 ⟨.inl (.tail _ (.tail _ (.tail _ (.head _)))), (List.forall_mem_nil _)⟩)⟩)⟩)⟩)⟩)
                  have hk25 : KS (rnd W25 n₀ ho25.hn) ((g12, .cells #[.int .i64 cf, .int .i64 ct] 41 (0, 0)) :: (g11, .cells #[.int .i64 f, .int .i64 x.2] 41 (0, 0)) :: (L, o) :: (g2, .cells #[.slice p ls.length cap] 22 (0, 0)) :: (g1, .cells #[.func (.yield l) #[] #[]] 95 (0, 0)) :: (oth W25 [g12, g11, L, g2, g1])) W25 := ks_oth (K := [(g12, .cells #[.int .i64 cf, .int .i64 ct] 41 (0, 0)), (g11, .cells #[.int .i64 f, .int .i64 x.2] 41 (0, 0)), (L, o), (g2, .cells #[.slice p ls.length cap] 22 (0, 0)), (g1, .cells #[.func (.yield l) #[] #[]] 95 (0, 0))]) (fun p hp => hW25.2 p (List.mem_append_left _ hp))
                  have N25g12 := oth_ne (W := W25) (S := [g12, g11, L, g2, g1]) (g := g12) (.head _)
                  have ge25g12 : (rnd W25 n₀ ho25.hn).B ≤ g12 := ho25.ge (.head _)
                  have N25g11 := oth_ne (W := W25) (S := [g12, g11, L, g2, g1]) (g := g11) (.tail _ (.head _))
                  have ge25g11 : (rnd W25 n₀ ho25.hn).B ≤ g11 := ho25.ge (.tail _ (.head _))
                  have N25L := oth_ne (W := W25) (S := [g12, g11, L, g2, g1]) (g := L) (.tail _ (.tail _ (.head _)))
                  have ge25L : (rnd W25 n₀ ho25.hn).B ≤ L := ho25.ge (.tail _ (.tail _ (.head _)))
                  have N25g2 := oth_ne (W := W25) (S := [g12, g11, L, g2, g1]) (g := g2) (.tail _ (.tail _ (.tail _ (.head _))))
                  have ge25g2 : (rnd W25 n₀ ho25.hn).B ≤ g2 := ho25.ge (.tail _ (.tail _ (.tail _ (.head _))))
                  have N25g1 := oth_ne (W := W25) (S := [g12, g11, L, g2, g1]) (g := g1) (.tail _ (.tail _ (.tail _ (.tail _ (.head _)))))
                  have ge25g1 : (rnd W25 n₀ ho25.hn).B ≤ g1 := ho25.ge (.tail _ (.tail _ (.tail _ (.tail _ (.head _)))))
                  refine (show Code.wpIn _ _ _ _ _ _ _ from ?_)
                  refine wpIn_seq ?_
                  refine wpIn_seq ?_
                  refine wp_region_LI (W0 := (rnd W25 n₀ ho25.hn)) ((g12, .cells #[.int .i64 cf, .int .i64 ct] 41 (0, 0)) :: (g11, .cells #[.int .i64 f, .int .i64 x.2] 41 (0, 0)) :: (L, o) :: (g2, .cells #[.slice p ls.length cap] 22 (0, 0)) :: (g1, .cells #[.func (.yield l) #[] #[]] 95 (0, 0)) :: (oth W25 [g12, g11, L, g2, g1])) (by kernel_rfl) (hk25) ?_
                  refine lm (v := .pointer (some ⟨g12, 0, none⟩)) rfl rfl ?_
                  refine lv (v := .int .i64 cf) rfl rfl (yb_loadc (off := 0) rfl (by kernel_rfl) (.head _) Tryd.underlying3 rfl (by kernel_rfl)) ?_
                  refine lm (v := .pointer (some ⟨g11, 1, none⟩)) rfl rfl ?_
                  refine lv (v := .int .i64 x.2) rfl rfl (yb_loadc (off := 1) rfl (by kernel_rfl) (.tail _ (.head _)) Tryd.underlying3 rfl (by kernel_rfl)) ?_
                  refine lp (v := .bool true) rfl rfl (run_bin rfl (vx := .int .i64 cf) (vy := .int .i64 x.2) (by kernel_rfl) (by kernel_rfl) fun w => run_geqI (decide_eq_true hbr) w) ?_
                  refine wpL_done (fun W26 hW26 => ?_)
                  obtain ⟨ho26, hJ26⟩ := Tw.Own.work (O' := [g12, g11, L, g2, g1]) hJa ho25 hJ25 hW26 (fun p hp => (.tail _ (.tail _ (.tail _ (.tail _ (.tail _ hp)))))) (List.forall_mem_cons.2 ⟨.inl (.head _), (List.forall_mem_cons.2 ⟨.inl (.tail _ (.head _)), (List.forall_mem_cons.2 ⟨.inl (.tail _ (.tail _ (.head _))), (List.forall_mem_cons.2 ⟨.inl (.tail _ (.tail _ (.tail _ (.head _)))), (List.forall_mem_cons.2 ⟨.inl (.tail _ (.tail _ (.tail _ (.tail _ (.head _))))), (List.forall_mem_nil _)⟩)⟩)⟩)⟩)⟩)
                  have hk26 : KS (rnd W26 n₀ ho26.hn) ((g12, .cells #[.int .i64 cf, .int .i64 ct] 41 (0, 0)) :: (g11, .cells #[.int .i64 f, .int .i64 x.2] 41 (0, 0)) :: (L, o) :: (g2, .cells #[.slice p ls.length cap] 22 (0, 0)) :: (g1, .cells #[.func (.yield l) #[] #[]] 95 (0, 0)) :: (oth W26 [g12, g11, L, g2, g1])) W26 := ks_oth (K := [(g12, .cells #[.int .i64 cf, .int .i64 ct] 41 (0, 0)), (g11, .cells #[.int .i64 f, .int .i64 x.2] 41 (0, 0)), (L, o), (g2, .cells #[.slice p ls.length cap] 22 (0, 0)), (g1, .cells #[.func (.yield l) #[] #[]] 95 (0, 0))]) (fun p hp => hW26.2 p (List.mem_append_left _ hp))
                  have N26g12 := oth_ne (W := W26) (S := [g12, g11, L, g2, g1]) (g := g12) (.head _)
                  have ge26g12 : (rnd W26 n₀ ho26.hn).B ≤ g12 := ho26.ge (.head _)
                  have N26g11 := oth_ne (W := W26) (S := [g12, g11, L, g2, g1]) (g := g11) (.tail _ (.head _))
                  have ge26g11 : (rnd W26 n₀ ho26.hn).B ≤ g11 := ho26.ge (.tail _ (.head _))
                  have N26L := oth_ne (W := W26) (S := [g12, g11, L, g2, g1]) (g := L) (.tail _ (.tail _ (.head _)))
                  have ge26L : (rnd W26 n₀ ho26.hn).B ≤ L := ho26.ge (.tail _ (.tail _ (.head _)))
                  have N26g2 := oth_ne (W := W26) (S := [g12, g11, L, g2, g1]) (g := g2) (.tail _ (.tail _ (.tail _ (.head _))))
                  have ge26g2 : (rnd W26 n₀ ho26.hn).B ≤ g2 := ho26.ge (.tail _ (.tail _ (.tail _ (.head _))))
                  have N26g1 := oth_ne (W := W26) (S := [g12, g11, L, g2, g1]) (g := g1) (.tail _ (.tail _ (.tail _ (.tail _ (.head _)))))
                  have ge26g1 : (rnd W26 n₀ ho26.hn).B ≤ g1 := ho26.ge (.tail _ (.tail _ (.tail _ (.tail _ (.head _)))))
                  refine (show Code.wpIn _ _ _ _ _ _ _ from ?_)
                  refine wpIn_cond_true rfl ?_
                  refine wpIn_exit ?_
                  refine (show Code.wpIn _ _ _ _ _ _ _ from ?_)
                  refine wpIn_seq ?_
                  refine wp_region_LI (W0 := (rnd W26 n₀ ho26.hn)) ((g12, .cells #[.int .i64 cf, .int .i64 ct] 41 (0, 0)) :: (g11, .cells #[.int .i64 f, .int .i64 x.2] 41 (0, 0)) :: (L, o) :: (g2, .cells #[.slice p ls.length cap] 22 (0, 0)) :: (g1, .cells #[.func (.yield l) #[] #[]] 95 (0, 0)) :: (oth W26 [g12, g11, L, g2, g1])) (by kernel_rfl) (hk26) ?_
                  refine lv (v := .agg #[.int .i64 f, .int .i64 x.2]) rfl rfl (yb_load (n := 2) (off := 0) rfl (by kernel_rfl) (.tail _ (.head _)) Tryd.underlying41 rfl size_span (by simp) (by kernel_rfl)) ?_
                  refine lv (v := .bool true) rfl rfl (yb_call (f := 60) (args := #[.agg #[.int .i64 f, .int .i64 x.2]]) (fun _ => by kernel_rfl) fun W hW => hem W) ?_
                  refine lm (v := .bool false) rfl rfl ?_
                  refine lm (v := .bool false) rfl rfl ?_
                  refine ln rfl ?_
                  refine ln rfl ?_
                  refine ln rfl ?_
                  refine ln rfl ?_
                  refine lm (v := .bool false) rfl rfl ?_
                  refine wpL_done (fun W27 hW27 => ?_)
                  obtain ⟨ho27, hJ27⟩ := Tw.Own.work (O' := [g12, g11, L, g2, g1]) hJa ho26 hJ26 hW27 (fun p hp => (.tail _ (.tail _ (.tail _ (.tail _ (.tail _ hp)))))) (List.forall_mem_cons.2 ⟨.inl (.head _), (List.forall_mem_cons.2 ⟨.inl (.tail _ (.head _)), (List.forall_mem_cons.2 ⟨.inl (.tail _ (.tail _ (.head _))), (List.forall_mem_cons.2 ⟨.inl (.tail _ (.tail _ (.tail _ (.head _)))), (List.forall_mem_cons.2 ⟨.inl (.tail _ (.tail _ (.tail _ (.tail _ (.head _))))), (List.forall_mem_nil _)⟩)⟩)⟩)⟩)⟩)
                  have hk27 : KS (rnd W27 n₀ ho27.hn) ((g12, .cells #[.int .i64 cf, .int .i64 ct] 41 (0, 0)) :: (g11, .cells #[.int .i64 f, .int .i64 x.2] 41 (0, 0)) :: (L, o) :: (g2, .cells #[.slice p ls.length cap] 22 (0, 0)) :: (g1, .cells #[.func (.yield l) #[] #[]] 95 (0, 0)) :: (oth W27 [g12, g11, L, g2, g1])) W27 := ks_oth (K := [(g12, .cells #[.int .i64 cf, .int .i64 ct] 41 (0, 0)), (g11, .cells #[.int .i64 f, .int .i64 x.2] 41 (0, 0)), (L, o), (g2, .cells #[.slice p ls.length cap] 22 (0, 0)), (g1, .cells #[.func (.yield l) #[] #[]] 95 (0, 0))]) (fun p hp => hW27.2 p (List.mem_append_left _ hp))
                  have N27g12 := oth_ne (W := W27) (S := [g12, g11, L, g2, g1]) (g := g12) (.head _)
                  have ge27g12 : (rnd W27 n₀ ho27.hn).B ≤ g12 := ho27.ge (.head _)
                  have N27g11 := oth_ne (W := W27) (S := [g12, g11, L, g2, g1]) (g := g11) (.tail _ (.head _))
                  have ge27g11 : (rnd W27 n₀ ho27.hn).B ≤ g11 := ho27.ge (.tail _ (.head _))
                  have N27L := oth_ne (W := W27) (S := [g12, g11, L, g2, g1]) (g := L) (.tail _ (.tail _ (.head _)))
                  have ge27L : (rnd W27 n₀ ho27.hn).B ≤ L := ho27.ge (.tail _ (.tail _ (.head _)))
                  have N27g2 := oth_ne (W := W27) (S := [g12, g11, L, g2, g1]) (g := g2) (.tail _ (.tail _ (.tail _ (.head _))))
                  have ge27g2 : (rnd W27 n₀ ho27.hn).B ≤ g2 := ho27.ge (.tail _ (.tail _ (.tail _ (.head _))))
                  have N27g1 := oth_ne (W := W27) (S := [g12, g11, L, g2, g1]) (g := g1) (.tail _ (.tail _ (.tail _ (.tail _ (.head _)))))
                  have ge27g1 : (rnd W27 n₀ ho27.hn).B ≤ g1 := ho27.ge (.tail _ (.tail _ (.tail _ (.tail _ (.head _)))))
                  refine (show Code.wpIn _ _ _ _ _ _ _ from ?_)
                  refine wpIn_cond_false rfl ?_
                  refine wpIn_skip ?_
                  exact round_end (Ix := WX Jx g1 g2) (a := ⟨#[], []⟩) (O := [g2, g1]) (ho27.fewer (O' := [L, g2, g1]) (List.forall_mem_cons.2 ⟨(.tail _ (.tail _ (.head _))), (List.forall_mem_cons.2 ⟨(.tail _ (.tail _ (.tail _ (.head _)))), (List.forall_mem_cons.2 ⟨(.tail _ (.tail _ (.tail _ (.tail _ (.head _))))), (List.forall_mem_nil _)⟩)⟩)⟩)) (hk27.2 _ (.tail _ (.tail _ (.head _)))) (by simp only [List.mem_cons, List.not_mem_nil, or_false, not_or]; exact ⟨nL.1, nL.2.1⟩) ⟨_, _, ls, p, cap, rfl, by rw [List.length_append]; rw [hlast, lastL, if_pos he]; simp, hll, hJ27, hAV, hWr.trans ho27.below, (ho27.apart g2 (.tail _ (.tail _ (.tail _ (.head _))))).2, (ho27.apart g1 (.tail _ (.tail _ (.tail _ (.tail _ (.head _)))))).2, ho27.lo, hk27.2 _ (.tail _ (.tail _ (.tail _ (.head _)))), hk27.2 _ (.tail _ (.tail _ (.tail _ (.tail _ (.head _)))))⟩
                · have hem := fun W => empty_any f x.2 W
                  rw [decide_eq_false he] at hem
                  refine wpIn_seq ?_
                  refine wp_region_LI (W0 := (rnd wr n₀ hom.hn)) ((g11, .cells #[.int .i64 f, .int .i64 x.2] 41 (0, 0)) :: (L, o) :: (g2, .cells #[.slice p ls.length cap] 22 (0, 0)) :: (g1, .cells #[.func (.yield l) #[] #[]] 95 (0, 0)) :: (oth wr [g11, L, g2, g1])) (by kernel_rfl) (hkm) ?_
                  refine lp (v := .bool true) rfl rfl (run_bin rfl (vx := .int .i64 (k : Int)) (vy := .int .i64 (ls.length : Int)) (by kernel_rfl) (by kernel_rfl) fun w => run_lssI (decide_eq_true (by omega)) w) ?_
                  refine wpL_done (fun W24 hW24 => ?_)
                  obtain ⟨ho24, hJ24⟩ := Tw.Own.work (O' := [g11, L, g2, g1]) hJa hom hJm hW24 (fun p hp => (.tail _ (.tail _ (.tail _ (.tail _ hp))))) (List.forall_mem_cons.2 ⟨.inl (.head _), (List.forall_mem_cons.2 ⟨.inl (.tail _ (.head _)), (List.forall_mem_cons.2 ⟨.inl (.tail _ (.tail _ (.head _))), (List.forall_mem_cons.2 ⟨.inl (.tail _ (.tail _ (.tail _ (.head _)))), (List.forall_mem_nil _)⟩)⟩)⟩)⟩)
                  have hk24 : KS (rnd W24 n₀ ho24.hn) ((g11, .cells #[.int .i64 f, .int .i64 x.2] 41 (0, 0)) :: (L, o) :: (g2, .cells #[.slice p ls.length cap] 22 (0, 0)) :: (g1, .cells #[.func (.yield l) #[] #[]] 95 (0, 0)) :: (oth W24 [g11, L, g2, g1])) W24 := ks_oth (K := [(g11, .cells #[.int .i64 f, .int .i64 x.2] 41 (0, 0)), (L, o), (g2, .cells #[.slice p ls.length cap] 22 (0, 0)), (g1, .cells #[.func (.yield l) #[] #[]] 95 (0, 0))]) (fun p hp => hW24.2 p (List.mem_append_left _ hp))
                  have N24g11 := oth_ne (W := W24) (S := [g11, L, g2, g1]) (g := g11) (.head _)
                  have ge24g11 : (rnd W24 n₀ ho24.hn).B ≤ g11 := ho24.ge (.head _)
                  have N24L := oth_ne (W := W24) (S := [g11, L, g2, g1]) (g := L) (.tail _ (.head _))
                  have ge24L : (rnd W24 n₀ ho24.hn).B ≤ L := ho24.ge (.tail _ (.head _))
                  have N24g2 := oth_ne (W := W24) (S := [g11, L, g2, g1]) (g := g2) (.tail _ (.tail _ (.head _)))
                  have ge24g2 : (rnd W24 n₀ ho24.hn).B ≤ g2 := ho24.ge (.tail _ (.tail _ (.head _)))
                  have N24g1 := oth_ne (W := W24) (S := [g11, L, g2, g1]) (g := g1) (.tail _ (.tail _ (.tail _ (.head _))))
                  have ge24g1 : (rnd W24 n₀ ho24.hn).B ≤ g1 := ho24.ge (.tail _ (.tail _ (.tail _ (.head _))))
                  refine (show Code.wpIn _ _ _ _ _ _ _ from ?_)
                  refine wpIn_seq ?_
                  refine wpIn_cond_true rfl ?_
                  refine wpIn_skip ?_
                  refine (show Code.wpIn _ _ _ _ _ _ _ from ?_)
                  refine wpIn_seq ?_
                  refine wpIn_block ?_
                  refine wpIn_seq ?_
                  have hcell := cells_low hcl (hWr.trans ho24.below) hbn
                  refine wp_region_LI (W0 := (rnd W24 n₀ ho24.hn)) ((g11, .cells #[.int .i64 f, .int .i64 x.2] 41 (0, 0)) :: (L, o) :: (g2, .cells #[.slice p ls.length cap] 22 (0, 0)) :: (g1, .cells #[.func (.yield l) #[] #[]] 95 (0, 0)) :: (oth W24 [g11, L, g2, g1])) (by kernel_rfl) (hk24) ?_
                  refine lp (v := .pointer (some ⟨b, off + 2 * k, none⟩)) rfl rfl (run_idxp (b := b) (off := off) (n := ls.length) (cap := cap) (k := k) rfl (by kernel_rfl) hp (by kernel_rfl) hkn) ?_
                  refine lv (v := .agg #[.int .i64 cf, .int .i64 ct]) rfl rfl (yb_load2 rfl (by kernel_rfl) (hcell k (cf, ct) hget).1 (hcell k (cf, ct) hget).2 hbn) ?_
                  refine wpL_new (fun g => .pointer (some ⟨g, 0, none⟩)) (obi := .cells #[.int .i64 0, .int .i64 0] 41 (0, 0)) rfl rfl (fun _ => by kernel_rfl) (fun _ => by simp only [List.setIfInBounds_toArray, List.set_cons_succ, List.set_cons_zero] <;> rfl) fun g12 Bg12 Fg12 => ?_
                  try simp only [List.forall_mem_cons] at Fg12
                  refine wpL_s ((g12, .cells #[.int .i64 cf, .int .i64 ct] 41 (0, 0)) :: (g11, .cells #[.int .i64 f, .int .i64 x.2] 41 (0, 0)) :: (L, o) :: (g2, .cells #[.slice p ls.length cap] 22 (0, 0)) :: (g1, .cells #[.func (.yield l) #[] #[]] 95 (0, 0)) :: (oth W24 [g11, L, g2, g1])) rfl rfl (st_span rfl (by kernel_rfl) (by kernel_rfl) (.head _) (by omega) (List.forall_mem_cons.2 ⟨.inl rfl, (List.forall_mem_cons.2 ⟨.inr ⟨(.tail _ (.head _)), Fg12.1⟩, (List.forall_mem_cons.2 ⟨.inr ⟨(.tail _ (.tail _ (.head _))), Fg12.2.1⟩, (List.forall_mem_cons.2 ⟨.inr ⟨(.tail _ (.tail _ (.tail _ (.head _)))), Fg12.2.2.1⟩, (List.forall_mem_cons.2 ⟨.inr ⟨(.tail _ (.tail _ (.tail _ (.tail _ (.head _))))), Fg12.2.2.2.1⟩, (fun p hp => .inr ⟨(.tail _ (.tail _ (.tail _ (.tail _ (.tail _ hp))))), Fg12.2.2.2.2 p hp⟩)⟩)⟩)⟩)⟩)⟩)) ?_
                  refine wpL_done (fun W25 hW25 => ?_)
                  obtain ⟨ho25, hJ25⟩ := Tw.Own.work (O' := [g12, g11, L, g2, g1]) hJa ho24 hJ24 hW25 (fun p hp => (.tail _ (.tail _ (.tail _ (.tail _ (.tail _ hp)))))) (List.forall_mem_cons.2 ⟨.inr ⟨new_oth (O := [g11, L, g2, g1]) Fg12.2.2.2.2 (List.forall_mem_cons.2 ⟨Fg12.1, (List.forall_mem_cons.2 ⟨Fg12.2.1, (List.forall_mem_cons.2 ⟨Fg12.2.2.1, (List.forall_mem_cons.2 ⟨Fg12.2.2.2.1, (List.forall_mem_nil _)⟩)⟩)⟩)⟩), lt_of_block (hW25.2 _ (.head _))⟩, (List.forall_mem_cons.2 ⟨.inl (.head _), (List.forall_mem_cons.2 ⟨.inl (.tail _ (.head _)), (List.forall_mem_cons.2 ⟨.inl (.tail _ (.tail _ (.head _))), (List.forall_mem_cons.2 ⟨.inl (.tail _ (.tail _ (.tail _ (.head _)))), (List.forall_mem_nil _)⟩)⟩)⟩)⟩)⟩)
                  have hk25 : KS (rnd W25 n₀ ho25.hn) ((g12, .cells #[.int .i64 cf, .int .i64 ct] 41 (0, 0)) :: (g11, .cells #[.int .i64 f, .int .i64 x.2] 41 (0, 0)) :: (L, o) :: (g2, .cells #[.slice p ls.length cap] 22 (0, 0)) :: (g1, .cells #[.func (.yield l) #[] #[]] 95 (0, 0)) :: (oth W25 [g12, g11, L, g2, g1])) W25 := ks_oth (K := [(g12, .cells #[.int .i64 cf, .int .i64 ct] 41 (0, 0)), (g11, .cells #[.int .i64 f, .int .i64 x.2] 41 (0, 0)), (L, o), (g2, .cells #[.slice p ls.length cap] 22 (0, 0)), (g1, .cells #[.func (.yield l) #[] #[]] 95 (0, 0))]) (fun p hp => hW25.2 p (List.mem_append_left _ hp))
                  have N25g12 := oth_ne (W := W25) (S := [g12, g11, L, g2, g1]) (g := g12) (.head _)
                  have ge25g12 : (rnd W25 n₀ ho25.hn).B ≤ g12 := ho25.ge (.head _)
                  have N25g11 := oth_ne (W := W25) (S := [g12, g11, L, g2, g1]) (g := g11) (.tail _ (.head _))
                  have ge25g11 : (rnd W25 n₀ ho25.hn).B ≤ g11 := ho25.ge (.tail _ (.head _))
                  have N25L := oth_ne (W := W25) (S := [g12, g11, L, g2, g1]) (g := L) (.tail _ (.tail _ (.head _)))
                  have ge25L : (rnd W25 n₀ ho25.hn).B ≤ L := ho25.ge (.tail _ (.tail _ (.head _)))
                  have N25g2 := oth_ne (W := W25) (S := [g12, g11, L, g2, g1]) (g := g2) (.tail _ (.tail _ (.tail _ (.head _))))
                  have ge25g2 : (rnd W25 n₀ ho25.hn).B ≤ g2 := ho25.ge (.tail _ (.tail _ (.tail _ (.head _))))
                  have N25g1 := oth_ne (W := W25) (S := [g12, g11, L, g2, g1]) (g := g1) (.tail _ (.tail _ (.tail _ (.tail _ (.head _)))))
                  have ge25g1 : (rnd W25 n₀ ho25.hn).B ≤ g1 := ho25.ge (.tail _ (.tail _ (.tail _ (.tail _ (.head _)))))
                  refine (show Code.wpIn _ _ _ _ _ _ _ from ?_)
                  refine wpIn_seq ?_
                  refine wpIn_seq ?_
                  refine wp_region_LI (W0 := (rnd W25 n₀ ho25.hn)) ((g12, .cells #[.int .i64 cf, .int .i64 ct] 41 (0, 0)) :: (g11, .cells #[.int .i64 f, .int .i64 x.2] 41 (0, 0)) :: (L, o) :: (g2, .cells #[.slice p ls.length cap] 22 (0, 0)) :: (g1, .cells #[.func (.yield l) #[] #[]] 95 (0, 0)) :: (oth W25 [g12, g11, L, g2, g1])) (by kernel_rfl) (hk25) ?_
                  refine lm (v := .pointer (some ⟨g12, 0, none⟩)) rfl rfl ?_
                  refine lv (v := .int .i64 cf) rfl rfl (yb_loadc (off := 0) rfl (by kernel_rfl) (.head _) Tryd.underlying3 rfl (by kernel_rfl)) ?_
                  refine lm (v := .pointer (some ⟨g11, 1, none⟩)) rfl rfl ?_
                  refine lv (v := .int .i64 x.2) rfl rfl (yb_loadc (off := 1) rfl (by kernel_rfl) (.tail _ (.head _)) Tryd.underlying3 rfl (by kernel_rfl)) ?_
                  refine lp (v := .bool true) rfl rfl (run_bin rfl (vx := .int .i64 cf) (vy := .int .i64 x.2) (by kernel_rfl) (by kernel_rfl) fun w => run_geqI (decide_eq_true hbr) w) ?_
                  refine wpL_done (fun W26 hW26 => ?_)
                  obtain ⟨ho26, hJ26⟩ := Tw.Own.work (O' := [g12, g11, L, g2, g1]) hJa ho25 hJ25 hW26 (fun p hp => (.tail _ (.tail _ (.tail _ (.tail _ (.tail _ hp)))))) (List.forall_mem_cons.2 ⟨.inl (.head _), (List.forall_mem_cons.2 ⟨.inl (.tail _ (.head _)), (List.forall_mem_cons.2 ⟨.inl (.tail _ (.tail _ (.head _))), (List.forall_mem_cons.2 ⟨.inl (.tail _ (.tail _ (.tail _ (.head _)))), (List.forall_mem_cons.2 ⟨.inl (.tail _ (.tail _ (.tail _ (.tail _ (.head _))))), (List.forall_mem_nil _)⟩)⟩)⟩)⟩)⟩)
                  have hk26 : KS (rnd W26 n₀ ho26.hn) ((g12, .cells #[.int .i64 cf, .int .i64 ct] 41 (0, 0)) :: (g11, .cells #[.int .i64 f, .int .i64 x.2] 41 (0, 0)) :: (L, o) :: (g2, .cells #[.slice p ls.length cap] 22 (0, 0)) :: (g1, .cells #[.func (.yield l) #[] #[]] 95 (0, 0)) :: (oth W26 [g12, g11, L, g2, g1])) W26 := ks_oth (K := [(g12, .cells #[.int .i64 cf, .int .i64 ct] 41 (0, 0)), (g11, .cells #[.int .i64 f, .int .i64 x.2] 41 (0, 0)), (L, o), (g2, .cells #[.slice p ls.length cap] 22 (0, 0)), (g1, .cells #[.func (.yield l) #[] #[]] 95 (0, 0))]) (fun p hp => hW26.2 p (List.mem_append_left _ hp))
                  have N26g12 := oth_ne (W := W26) (S := [g12, g11, L, g2, g1]) (g := g12) (.head _)
                  have ge26g12 : (rnd W26 n₀ ho26.hn).B ≤ g12 := ho26.ge (.head _)
                  have N26g11 := oth_ne (W := W26) (S := [g12, g11, L, g2, g1]) (g := g11) (.tail _ (.head _))
                  have ge26g11 : (rnd W26 n₀ ho26.hn).B ≤ g11 := ho26.ge (.tail _ (.head _))
                  have N26L := oth_ne (W := W26) (S := [g12, g11, L, g2, g1]) (g := L) (.tail _ (.tail _ (.head _)))
                  have ge26L : (rnd W26 n₀ ho26.hn).B ≤ L := ho26.ge (.tail _ (.tail _ (.head _)))
                  have N26g2 := oth_ne (W := W26) (S := [g12, g11, L, g2, g1]) (g := g2) (.tail _ (.tail _ (.tail _ (.head _))))
                  have ge26g2 : (rnd W26 n₀ ho26.hn).B ≤ g2 := ho26.ge (.tail _ (.tail _ (.tail _ (.head _))))
                  have N26g1 := oth_ne (W := W26) (S := [g12, g11, L, g2, g1]) (g := g1) (.tail _ (.tail _ (.tail _ (.tail _ (.head _)))))
                  have ge26g1 : (rnd W26 n₀ ho26.hn).B ≤ g1 := ho26.ge (.tail _ (.tail _ (.tail _ (.tail _ (.head _)))))
                  refine (show Code.wpIn _ _ _ _ _ _ _ from ?_)
                  refine wpIn_cond_true rfl ?_
                  refine wpIn_exit ?_
                  refine (show Code.wpIn _ _ _ _ _ _ _ from ?_)
                  refine wpIn_seq ?_
                  refine wp_region_S (W0 := (rnd W26 n₀ ho26.hn)) (List.take 6 _) (List.drop 6 _) ((g12, .cells #[.int .i64 cf, .int .i64 ct] 41 (0, 0)) :: (g11, .cells #[.int .i64 f, .int .i64 x.2] 41 (0, 0)) :: (L, o) :: (g2, .cells #[.slice p ls.length cap] 22 (0, 0)) :: (g1, .cells #[.func (.yield l) #[] #[]] 95 (0, 0)) :: (oth W26 [g12, g11, L, g2, g1])) (List.take_append_drop 6 _).symm (by kernel_rfl) (hk26) ?_
                  simp only [List.take_succ_cons, List.take_zero, List.drop_succ_cons, List.drop_zero]
                  refine lv (v := .agg #[.int .i64 f, .int .i64 x.2]) rfl rfl (yb_load (n := 2) (off := 0) rfl (by kernel_rfl) (.tail _ (.head _)) Tryd.underlying41 rfl size_span (by simp) (by kernel_rfl)) ?_
                  refine lv (v := .bool false) rfl rfl (yb_call (f := 60) (args := #[.agg #[.int .i64 f, .int .i64 x.2]]) (fun _ => by kernel_rfl) fun W hW => hem W) ?_
                  refine lm (v := .bool true) rfl rfl ?_
                  refine lm (v := .bool true) rfl rfl ?_
                  refine lv (v := .func (.yield l) #[] #[]) rfl rfl (yb_loadc (off := 0) rfl (by kernel_rfl) (.tail _ (.tail _ (.tail _ (.tail _ (.head _))))) Tryd.underlying95 rfl (by kernel_rfl)) ?_
                  refine lv (v := .agg #[.int .i64 f, .int .i64 x.2]) rfl rfl (yb_load (n := 2) (off := 0) rfl (by kernel_rfl) (.tail _ (.head _)) Tryd.underlying41 rfl size_span (by simp) (by kernel_rfl)) ?_
                  refine wpL_done (fun W27 hW27 => ?_)
                  obtain ⟨ho27, hJ27⟩ := Tw.Own.work (O' := [g12, g11, L, g2, g1]) hJa ho26 hJ26 hW27 (fun p hp => (.tail _ (.tail _ (.tail _ (.tail _ (.tail _ hp)))))) (List.forall_mem_cons.2 ⟨.inl (.head _), (List.forall_mem_cons.2 ⟨.inl (.tail _ (.head _)), (List.forall_mem_cons.2 ⟨.inl (.tail _ (.tail _ (.head _))), (List.forall_mem_cons.2 ⟨.inl (.tail _ (.tail _ (.tail _ (.head _)))), (List.forall_mem_cons.2 ⟨.inl (.tail _ (.tail _ (.tail _ (.tail _ (.head _))))), (List.forall_mem_nil _)⟩)⟩)⟩)⟩)⟩)
                  have hk27 : KS (rnd W27 n₀ ho27.hn) ((g12, .cells #[.int .i64 cf, .int .i64 ct] 41 (0, 0)) :: (g11, .cells #[.int .i64 f, .int .i64 x.2] 41 (0, 0)) :: (L, o) :: (g2, .cells #[.slice p ls.length cap] 22 (0, 0)) :: (g1, .cells #[.func (.yield l) #[] #[]] 95 (0, 0)) :: (oth W27 [g12, g11, L, g2, g1])) W27 := ks_oth (K := [(g12, .cells #[.int .i64 cf, .int .i64 ct] 41 (0, 0)), (g11, .cells #[.int .i64 f, .int .i64 x.2] 41 (0, 0)), (L, o), (g2, .cells #[.slice p ls.length cap] 22 (0, 0)), (g1, .cells #[.func (.yield l) #[] #[]] 95 (0, 0))]) (fun p hp => hW27.2 p (List.mem_append_left _ hp))
                  have N27g12 := oth_ne (W := W27) (S := [g12, g11, L, g2, g1]) (g := g12) (.head _)
                  have ge27g12 : (rnd W27 n₀ ho27.hn).B ≤ g12 := ho27.ge (.head _)
                  have N27g11 := oth_ne (W := W27) (S := [g12, g11, L, g2, g1]) (g := g11) (.tail _ (.head _))
                  have ge27g11 : (rnd W27 n₀ ho27.hn).B ≤ g11 := ho27.ge (.tail _ (.head _))
                  have N27L := oth_ne (W := W27) (S := [g12, g11, L, g2, g1]) (g := L) (.tail _ (.tail _ (.head _)))
                  have ge27L : (rnd W27 n₀ ho27.hn).B ≤ L := ho27.ge (.tail _ (.tail _ (.head _)))
                  have N27g2 := oth_ne (W := W27) (S := [g12, g11, L, g2, g1]) (g := g2) (.tail _ (.tail _ (.tail _ (.head _))))
                  have ge27g2 : (rnd W27 n₀ ho27.hn).B ≤ g2 := ho27.ge (.tail _ (.tail _ (.tail _ (.head _))))
                  have N27g1 := oth_ne (W := W27) (S := [g12, g11, L, g2, g1]) (g := g1) (.tail _ (.tail _ (.tail _ (.tail _ (.head _)))))
                  have ge27g1 : (rnd W27 n₀ ho27.hn).B ≤ g1 := ho27.ge (.tail _ (.tail _ (.tail _ (.tail _ (.head _)))))
                  refine (show wpListIn _ _ _ _ _ _ _ _ from ?_)
                  have hYY := yieldF (m := 0) (r := (some L)) (hYd os2 (f, x.2) _ W27 hJ27 ho27.mem (pre_of (rest := withoutL ls (xs.drop (pre.length + 1))) (by rw [hlast, lastL, if_neg he]; simp)))
                  refine wpl_yield rfl rfl (by kernel_rfl) (by kernel_rfl) (by kernel_rfl) rfl hYY (by simp only [List.setIfInBounds_toArray, List.set_cons_succ, List.set_cons_zero] <;> rfl) (by simp only [List.setIfInBounds_toArray, List.set_cons_succ, List.set_cons_zero] <;> rfl) (fun W28 hA28 => ?_) (fun W28 hX28 => ?_)
                  · obtain ⟨Sy, hFy, hJy28⟩ := hA28
                    have hoy28 := ho27.yielded hFy
                    have hq28 := ho27.kept (K := [(g12, .cells #[.int .i64 cf, .int .i64 ct] 41 (0, 0)), (g11, .cells #[.int .i64 f, .int .i64 x.2] 41 (0, 0)), (L, o), (g2, .cells #[.slice p ls.length cap] 22 (0, 0)), (g1, .cells #[.func (.yield l) #[] #[]] 95 (0, 0))]) hFy (fun p hp => hk27.2 p (List.mem_append_left _ hp)) (List.forall_mem_cons.2 ⟨.inl (.head _), (List.forall_mem_cons.2 ⟨.inl (.tail _ (.head _)), (List.forall_mem_cons.2 ⟨.inl (.tail _ (.tail _ (.head _))), (List.forall_mem_cons.2 ⟨.inl (.tail _ (.tail _ (.tail _ (.head _)))), (List.forall_mem_cons.2 ⟨.inl (.tail _ (.tail _ (.tail _ (.tail _ (.head _))))), (List.forall_mem_nil _)⟩)⟩)⟩)⟩)⟩)
                    have hk28 : KS (rnd W28 n₀ hoy28.hn) ((g12, .cells #[.int .i64 cf, .int .i64 ct] 41 (0, 0)) :: (g11, .cells #[.int .i64 f, .int .i64 x.2] 41 (0, 0)) :: (L, o) :: (g2, .cells #[.slice p ls.length cap] 22 (0, 0)) :: (g1, .cells #[.func (.yield l) #[] #[]] 95 (0, 0)) :: (oth W28 [g12, g11, L, g2, g1])) W28 := ks_oth (K := [(g12, .cells #[.int .i64 cf, .int .i64 ct] 41 (0, 0)), (g11, .cells #[.int .i64 f, .int .i64 x.2] 41 (0, 0)), (L, o), (g2, .cells #[.slice p ls.length cap] 22 (0, 0)), (g1, .cells #[.func (.yield l) #[] #[]] 95 (0, 0))]) hq28
                    have N28g12 := oth_ne (W := W28) (S := [g12, g11, L, g2, g1]) (g := g12) (.head _)
                    have ge28g12 : (rnd W28 n₀ hoy28.hn).B ≤ g12 := hoy28.ge (.head _)
                    have N28g11 := oth_ne (W := W28) (S := [g12, g11, L, g2, g1]) (g := g11) (.tail _ (.head _))
                    have ge28g11 : (rnd W28 n₀ hoy28.hn).B ≤ g11 := hoy28.ge (.tail _ (.head _))
                    have N28L := oth_ne (W := W28) (S := [g12, g11, L, g2, g1]) (g := L) (.tail _ (.tail _ (.head _)))
                    have ge28L : (rnd W28 n₀ hoy28.hn).B ≤ L := hoy28.ge (.tail _ (.tail _ (.head _)))
                    have N28g2 := oth_ne (W := W28) (S := [g12, g11, L, g2, g1]) (g := g2) (.tail _ (.tail _ (.tail _ (.head _))))
                    have ge28g2 : (rnd W28 n₀ hoy28.hn).B ≤ g2 := hoy28.ge (.tail _ (.tail _ (.tail _ (.head _))))
                    have N28g1 := oth_ne (W := W28) (S := [g12, g11, L, g2, g1]) (g := g1) (.tail _ (.tail _ (.tail _ (.tail _ (.head _)))))
                    have ge28g1 : (rnd W28 n₀ hoy28.hn).B ≤ g1 := hoy28.ge (.tail _ (.tail _ (.tail _ (.tail _ (.head _)))))
                    refine wpl_rest (W0 := (rnd W28 n₀ hoy28.hn)) ((g12, .cells #[.int .i64 cf, .int .i64 ct] 41 (0, 0)) :: (g11, .cells #[.int .i64 f, .int .i64 x.2] 41 (0, 0)) :: (L, o) :: (g2, .cells #[.slice p ls.length cap] 22 (0, 0)) :: (g1, .cells #[.func (.yield l) #[] #[]] 95 (0, 0)) :: (oth W28 [g12, g11, L, g2, g1])) (by kernel_rfl) (hk28) ?_
                    refine lm (v := .bool false) rfl rfl ?_
                    refine lm (v := .bool false) rfl rfl ?_
                    refine wpL_done (fun W29 hW29 => ?_)
                    obtain ⟨ho29, hJ29⟩ := Tw.Own.work (O' := [g12, g11, L, g2, g1]) hJa hoy28 hJy28 hW29 (fun p hp => (.tail _ (.tail _ (.tail _ (.tail _ (.tail _ hp)))))) (List.forall_mem_cons.2 ⟨.inl (.head _), (List.forall_mem_cons.2 ⟨.inl (.tail _ (.head _)), (List.forall_mem_cons.2 ⟨.inl (.tail _ (.tail _ (.head _))), (List.forall_mem_cons.2 ⟨.inl (.tail _ (.tail _ (.tail _ (.head _)))), (List.forall_mem_cons.2 ⟨.inl (.tail _ (.tail _ (.tail _ (.tail _ (.head _))))), (List.forall_mem_nil _)⟩)⟩)⟩)⟩)⟩)
                    have hk29 : KS (rnd W29 n₀ ho29.hn) ((g12, .cells #[.int .i64 cf, .int .i64 ct] 41 (0, 0)) :: (g11, .cells #[.int .i64 f, .int .i64 x.2] 41 (0, 0)) :: (L, o) :: (g2, .cells #[.slice p ls.length cap] 22 (0, 0)) :: (g1, .cells #[.func (.yield l) #[] #[]] 95 (0, 0)) :: (oth W29 [g12, g11, L, g2, g1])) W29 := ks_oth (K := [(g12, .cells #[.int .i64 cf, .int .i64 ct] 41 (0, 0)), (g11, .cells #[.int .i64 f, .int .i64 x.2] 41 (0, 0)), (L, o), (g2, .cells #[.slice p ls.length cap] 22 (0, 0)), (g1, .cells #[.func (.yield l) #[] #[]] 95 (0, 0))]) (fun p hp => hW29.2 p (List.mem_append_left _ hp))
                    have N29g12 := oth_ne (W := W29) (S := [g12, g11, L, g2, g1]) (g := g12) (.head _)
                    have ge29g12 : (rnd W29 n₀ ho29.hn).B ≤ g12 := ho29.ge (.head _)
                    have N29g11 := oth_ne (W := W29) (S := [g12, g11, L, g2, g1]) (g := g11) (.tail _ (.head _))
                    have ge29g11 : (rnd W29 n₀ ho29.hn).B ≤ g11 := ho29.ge (.tail _ (.head _))
                    have N29L := oth_ne (W := W29) (S := [g12, g11, L, g2, g1]) (g := L) (.tail _ (.tail _ (.head _)))
                    have ge29L : (rnd W29 n₀ ho29.hn).B ≤ L := ho29.ge (.tail _ (.tail _ (.head _)))
                    have N29g2 := oth_ne (W := W29) (S := [g12, g11, L, g2, g1]) (g := g2) (.tail _ (.tail _ (.tail _ (.head _))))
                    have ge29g2 : (rnd W29 n₀ ho29.hn).B ≤ g2 := ho29.ge (.tail _ (.tail _ (.tail _ (.head _))))
                    have N29g1 := oth_ne (W := W29) (S := [g12, g11, L, g2, g1]) (g := g1) (.tail _ (.tail _ (.tail _ (.tail _ (.head _)))))
                    have ge29g1 : (rnd W29 n₀ ho29.hn).B ≤ g1 := ho29.ge (.tail _ (.tail _ (.tail _ (.tail _ (.head _)))))
                    refine (show Code.wpIn _ _ _ _ _ _ _ from ?_)
                    refine wpIn_cond_false rfl ?_
                    refine wpIn_skip ?_
                    exact round_end (Ix := WX Jx g1 g2) (a := ⟨#[], []⟩) (O := [g2, g1]) (ho29.fewer (O' := [L, g2, g1]) (List.forall_mem_cons.2 ⟨(.tail _ (.tail _ (.head _))), (List.forall_mem_cons.2 ⟨(.tail _ (.tail _ (.tail _ (.head _)))), (List.forall_mem_cons.2 ⟨(.tail _ (.tail _ (.tail _ (.tail _ (.head _))))), (List.forall_mem_nil _)⟩)⟩)⟩)) (hk29.2 _ (.tail _ (.tail _ (.head _)))) (by simp only [List.mem_cons, List.not_mem_nil, or_false, not_or]; exact ⟨nL.1, nL.2.1⟩) ⟨_, _, ls, p, cap, rfl, by rw [List.length_append]; rw [hlast, lastL, if_neg he]; simp, hll, hJ29, hAV, hWr.trans ho29.below, (ho29.apart g2 (.tail _ (.tail _ (.tail _ (.head _))))).2, (ho29.apart g1 (.tail _ (.tail _ (.tail _ (.tail _ (.head _)))))).2, ho29.lo, hk29.2 _ (.tail _ (.tail _ (.tail _ (.head _)))), hk29.2 _ (.tail _ (.tail _ (.tail _ (.tail _ (.head _)))))⟩
                  · obtain ⟨Sy, hFy, hJy28⟩ := hX28
                    have hoy28 := ho27.yielded hFy
                    have hq28 := ho27.kept (K := [(g12, .cells #[.int .i64 cf, .int .i64 ct] 41 (0, 0)), (g11, .cells #[.int .i64 f, .int .i64 x.2] 41 (0, 0)), (L, o), (g2, .cells #[.slice p ls.length cap] 22 (0, 0)), (g1, .cells #[.func (.yield l) #[] #[]] 95 (0, 0))]) hFy (fun p hp => hk27.2 p (List.mem_append_left _ hp)) (List.forall_mem_cons.2 ⟨.inl (.head _), (List.forall_mem_cons.2 ⟨.inl (.tail _ (.head _)), (List.forall_mem_cons.2 ⟨.inl (.tail _ (.tail _ (.head _))), (List.forall_mem_cons.2 ⟨.inl (.tail _ (.tail _ (.tail _ (.head _)))), (List.forall_mem_cons.2 ⟨.inl (.tail _ (.tail _ (.tail _ (.tail _ (.head _))))), (List.forall_mem_nil _)⟩)⟩)⟩)⟩)⟩)
                    have hk28 : KS (rnd W28 n₀ hoy28.hn) ((g12, .cells #[.int .i64 cf, .int .i64 ct] 41 (0, 0)) :: (g11, .cells #[.int .i64 f, .int .i64 x.2] 41 (0, 0)) :: (L, o) :: (g2, .cells #[.slice p ls.length cap] 22 (0, 0)) :: (g1, .cells #[.func (.yield l) #[] #[]] 95 (0, 0)) :: (oth W28 [g12, g11, L, g2, g1])) W28 := ks_oth (K := [(g12, .cells #[.int .i64 cf, .int .i64 ct] 41 (0, 0)), (g11, .cells #[.int .i64 f, .int .i64 x.2] 41 (0, 0)), (L, o), (g2, .cells #[.slice p ls.length cap] 22 (0, 0)), (g1, .cells #[.func (.yield l) #[] #[]] 95 (0, 0))]) hq28
                    have N28g12 := oth_ne (W := W28) (S := [g12, g11, L, g2, g1]) (g := g12) (.head _)
                    have ge28g12 : (rnd W28 n₀ hoy28.hn).B ≤ g12 := hoy28.ge (.head _)
                    have N28g11 := oth_ne (W := W28) (S := [g12, g11, L, g2, g1]) (g := g11) (.tail _ (.head _))
                    have ge28g11 : (rnd W28 n₀ hoy28.hn).B ≤ g11 := hoy28.ge (.tail _ (.head _))
                    have N28L := oth_ne (W := W28) (S := [g12, g11, L, g2, g1]) (g := L) (.tail _ (.tail _ (.head _)))
                    have ge28L : (rnd W28 n₀ hoy28.hn).B ≤ L := hoy28.ge (.tail _ (.tail _ (.head _)))
                    have N28g2 := oth_ne (W := W28) (S := [g12, g11, L, g2, g1]) (g := g2) (.tail _ (.tail _ (.tail _ (.head _))))
                    have ge28g2 : (rnd W28 n₀ hoy28.hn).B ≤ g2 := hoy28.ge (.tail _ (.tail _ (.tail _ (.head _))))
                    have N28g1 := oth_ne (W := W28) (S := [g12, g11, L, g2, g1]) (g := g1) (.tail _ (.tail _ (.tail _ (.tail _ (.head _)))))
                    have ge28g1 : (rnd W28 n₀ hoy28.hn).B ≤ g1 := hoy28.ge (.tail _ (.tail _ (.tail _ (.tail _ (.head _)))))
                    refine wpl_rest (W0 := (rnd W28 n₀ hoy28.hn)) ((g12, .cells #[.int .i64 cf, .int .i64 ct] 41 (0, 0)) :: (g11, .cells #[.int .i64 f, .int .i64 x.2] 41 (0, 0)) :: (L, o) :: (g2, .cells #[.slice p ls.length cap] 22 (0, 0)) :: (g1, .cells #[.func (.yield l) #[] #[]] 95 (0, 0)) :: (oth W28 [g12, g11, L, g2, g1])) (by kernel_rfl) (hk28) ?_
                    refine lm (v := .bool true) rfl rfl ?_
                    refine lm (v := .bool true) rfl rfl ?_
                    refine wpL_done (fun W29 hW29 => ?_)
                    obtain ⟨ho29, hJ29⟩ := Tw.Own.work (O' := [g12, g11, L, g2, g1]) hJxa hoy28 hJy28 hW29 (fun p hp => (.tail _ (.tail _ (.tail _ (.tail _ (.tail _ hp)))))) (List.forall_mem_cons.2 ⟨.inl (.head _), (List.forall_mem_cons.2 ⟨.inl (.tail _ (.head _)), (List.forall_mem_cons.2 ⟨.inl (.tail _ (.tail _ (.head _))), (List.forall_mem_cons.2 ⟨.inl (.tail _ (.tail _ (.tail _ (.head _)))), (List.forall_mem_cons.2 ⟨.inl (.tail _ (.tail _ (.tail _ (.tail _ (.head _))))), (List.forall_mem_nil _)⟩)⟩)⟩)⟩)⟩)
                    have hk29 : KS (rnd W29 n₀ ho29.hn) ((g12, .cells #[.int .i64 cf, .int .i64 ct] 41 (0, 0)) :: (g11, .cells #[.int .i64 f, .int .i64 x.2] 41 (0, 0)) :: (L, o) :: (g2, .cells #[.slice p ls.length cap] 22 (0, 0)) :: (g1, .cells #[.func (.yield l) #[] #[]] 95 (0, 0)) :: (oth W29 [g12, g11, L, g2, g1])) W29 := ks_oth (K := [(g12, .cells #[.int .i64 cf, .int .i64 ct] 41 (0, 0)), (g11, .cells #[.int .i64 f, .int .i64 x.2] 41 (0, 0)), (L, o), (g2, .cells #[.slice p ls.length cap] 22 (0, 0)), (g1, .cells #[.func (.yield l) #[] #[]] 95 (0, 0))]) (fun p hp => hW29.2 p (List.mem_append_left _ hp))
                    have N29g12 := oth_ne (W := W29) (S := [g12, g11, L, g2, g1]) (g := g12) (.head _)
                    have ge29g12 : (rnd W29 n₀ ho29.hn).B ≤ g12 := ho29.ge (.head _)
                    have N29g11 := oth_ne (W := W29) (S := [g12, g11, L, g2, g1]) (g := g11) (.tail _ (.head _))
                    have ge29g11 : (rnd W29 n₀ ho29.hn).B ≤ g11 := ho29.ge (.tail _ (.head _))
                    have N29L := oth_ne (W := W29) (S := [g12, g11, L, g2, g1]) (g := L) (.tail _ (.tail _ (.head _)))
                    have ge29L : (rnd W29 n₀ ho29.hn).B ≤ L := ho29.ge (.tail _ (.tail _ (.head _)))
                    have N29g2 := oth_ne (W := W29) (S := [g12, g11, L, g2, g1]) (g := g2) (.tail _ (.tail _ (.tail _ (.head _))))
                    have ge29g2 : (rnd W29 n₀ ho29.hn).B ≤ g2 := ho29.ge (.tail _ (.tail _ (.tail _ (.head _))))
                    have N29g1 := oth_ne (W := W29) (S := [g12, g11, L, g2, g1]) (g := g1) (.tail _ (.tail _ (.tail _ (.tail _ (.head _)))))
                    have ge29g1 : (rnd W29 n₀ ho29.hn).B ≤ g1 := ho29.ge (.tail _ (.tail _ (.tail _ (.tail _ (.head _)))))
                    refine (show Code.wpIn _ _ _ _ _ _ _ from ?_)
                    refine wpIn_cond_true rfl ?_
                    refine wpIn_ret ?_
                    try simp only [inBlock_ret, then_ret]
                    exact round_stop (I := WI J n₀ g1 g2 l W1 closed xs) (a := ⟨#[], []⟩) (O := [g2, g1]) (ho29.fewer (O' := [L, g2, g1]) (List.forall_mem_cons.2 ⟨(.tail _ (.tail _ (.head _))), (List.forall_mem_cons.2 ⟨(.tail _ (.tail _ (.tail _ (.head _)))), (List.forall_mem_cons.2 ⟨(.tail _ (.tail _ (.tail _ (.tail _ (.head _))))), (List.forall_mem_nil _)⟩)⟩)⟩)) (hk29.2 _ (.tail _ (.tail _ (.head _)))) (by simp only [List.mem_cons, List.not_mem_nil, or_false, not_or]; exact ⟨nL.1, nL.2.1⟩) ⟨_, _, rfl, hJ29⟩
              · by_cases hga : f < cf
                · refine wpIn_seq ?_
                  refine wp_region_LI (W0 := (rnd wr n₀ hom.hn)) ((g11, .cells #[.int .i64 f, .int .i64 x.2] 41 (0, 0)) :: (L, o) :: (g2, .cells #[.slice p ls.length cap] 22 (0, 0)) :: (g1, .cells #[.func (.yield l) #[] #[]] 95 (0, 0)) :: (oth wr [g11, L, g2, g1])) (by kernel_rfl) (hkm) ?_
                  refine lp (v := .bool true) rfl rfl (run_bin rfl (vx := .int .i64 (k : Int)) (vy := .int .i64 (ls.length : Int)) (by kernel_rfl) (by kernel_rfl) fun w => run_lssI (decide_eq_true (by omega)) w) ?_
                  refine wpL_done (fun W24 hW24 => ?_)
                  obtain ⟨ho24, hJ24⟩ := Tw.Own.work (O' := [g11, L, g2, g1]) hJa hom hJm hW24 (fun p hp => (.tail _ (.tail _ (.tail _ (.tail _ hp))))) (List.forall_mem_cons.2 ⟨.inl (.head _), (List.forall_mem_cons.2 ⟨.inl (.tail _ (.head _)), (List.forall_mem_cons.2 ⟨.inl (.tail _ (.tail _ (.head _))), (List.forall_mem_cons.2 ⟨.inl (.tail _ (.tail _ (.tail _ (.head _)))), (List.forall_mem_nil _)⟩)⟩)⟩)⟩)
                  have hk24 : KS (rnd W24 n₀ ho24.hn) ((g11, .cells #[.int .i64 f, .int .i64 x.2] 41 (0, 0)) :: (L, o) :: (g2, .cells #[.slice p ls.length cap] 22 (0, 0)) :: (g1, .cells #[.func (.yield l) #[] #[]] 95 (0, 0)) :: (oth W24 [g11, L, g2, g1])) W24 := ks_oth (K := [(g11, .cells #[.int .i64 f, .int .i64 x.2] 41 (0, 0)), (L, o), (g2, .cells #[.slice p ls.length cap] 22 (0, 0)), (g1, .cells #[.func (.yield l) #[] #[]] 95 (0, 0))]) (fun p hp => hW24.2 p (List.mem_append_left _ hp))
                  have N24g11 := oth_ne (W := W24) (S := [g11, L, g2, g1]) (g := g11) (.head _)
                  have ge24g11 : (rnd W24 n₀ ho24.hn).B ≤ g11 := ho24.ge (.head _)
                  have N24L := oth_ne (W := W24) (S := [g11, L, g2, g1]) (g := L) (.tail _ (.head _))
                  have ge24L : (rnd W24 n₀ ho24.hn).B ≤ L := ho24.ge (.tail _ (.head _))
                  have N24g2 := oth_ne (W := W24) (S := [g11, L, g2, g1]) (g := g2) (.tail _ (.tail _ (.head _)))
                  have ge24g2 : (rnd W24 n₀ ho24.hn).B ≤ g2 := ho24.ge (.tail _ (.tail _ (.head _)))
                  have N24g1 := oth_ne (W := W24) (S := [g11, L, g2, g1]) (g := g1) (.tail _ (.tail _ (.tail _ (.head _))))
                  have ge24g1 : (rnd W24 n₀ ho24.hn).B ≤ g1 := ho24.ge (.tail _ (.tail _ (.tail _ (.head _))))
                  refine (show Code.wpIn _ _ _ _ _ _ _ from ?_)
                  refine wpIn_seq ?_
                  refine wpIn_cond_true rfl ?_
                  refine wpIn_skip ?_
                  refine (show Code.wpIn _ _ _ _ _ _ _ from ?_)
                  refine wpIn_seq ?_
                  refine wpIn_block ?_
                  refine wpIn_seq ?_
                  have hcell := cells_low hcl (hWr.trans ho24.below) hbn
                  refine wp_region_LI (W0 := (rnd W24 n₀ ho24.hn)) ((g11, .cells #[.int .i64 f, .int .i64 x.2] 41 (0, 0)) :: (L, o) :: (g2, .cells #[.slice p ls.length cap] 22 (0, 0)) :: (g1, .cells #[.func (.yield l) #[] #[]] 95 (0, 0)) :: (oth W24 [g11, L, g2, g1])) (by kernel_rfl) (hk24) ?_
                  refine lp (v := .pointer (some ⟨b, off + 2 * k, none⟩)) rfl rfl (run_idxp (b := b) (off := off) (n := ls.length) (cap := cap) (k := k) rfl (by kernel_rfl) hp (by kernel_rfl) hkn) ?_
                  refine lv (v := .agg #[.int .i64 cf, .int .i64 ct]) rfl rfl (yb_load2 rfl (by kernel_rfl) (hcell k (cf, ct) hget).1 (hcell k (cf, ct) hget).2 hbn) ?_
                  refine wpL_new (fun g => .pointer (some ⟨g, 0, none⟩)) (obi := .cells #[.int .i64 0, .int .i64 0] 41 (0, 0)) rfl rfl (fun _ => by kernel_rfl) (fun _ => by simp only [List.setIfInBounds_toArray, List.set_cons_succ, List.set_cons_zero] <;> rfl) fun g12 Bg12 Fg12 => ?_
                  try simp only [List.forall_mem_cons] at Fg12
                  refine wpL_s ((g12, .cells #[.int .i64 cf, .int .i64 ct] 41 (0, 0)) :: (g11, .cells #[.int .i64 f, .int .i64 x.2] 41 (0, 0)) :: (L, o) :: (g2, .cells #[.slice p ls.length cap] 22 (0, 0)) :: (g1, .cells #[.func (.yield l) #[] #[]] 95 (0, 0)) :: (oth W24 [g11, L, g2, g1])) rfl rfl (st_span rfl (by kernel_rfl) (by kernel_rfl) (.head _) (by omega) (List.forall_mem_cons.2 ⟨.inl rfl, (List.forall_mem_cons.2 ⟨.inr ⟨(.tail _ (.head _)), Fg12.1⟩, (List.forall_mem_cons.2 ⟨.inr ⟨(.tail _ (.tail _ (.head _))), Fg12.2.1⟩, (List.forall_mem_cons.2 ⟨.inr ⟨(.tail _ (.tail _ (.tail _ (.head _)))), Fg12.2.2.1⟩, (List.forall_mem_cons.2 ⟨.inr ⟨(.tail _ (.tail _ (.tail _ (.tail _ (.head _))))), Fg12.2.2.2.1⟩, (fun p hp => .inr ⟨(.tail _ (.tail _ (.tail _ (.tail _ (.tail _ hp))))), Fg12.2.2.2.2 p hp⟩)⟩)⟩)⟩)⟩)⟩)) ?_
                  refine wpL_done (fun W25 hW25 => ?_)
                  obtain ⟨ho25, hJ25⟩ := Tw.Own.work (O' := [g12, g11, L, g2, g1]) hJa ho24 hJ24 hW25 (fun p hp => (.tail _ (.tail _ (.tail _ (.tail _ (.tail _ hp)))))) (List.forall_mem_cons.2 ⟨.inr ⟨new_oth (O := [g11, L, g2, g1]) Fg12.2.2.2.2 (List.forall_mem_cons.2 ⟨Fg12.1, (List.forall_mem_cons.2 ⟨Fg12.2.1, (List.forall_mem_cons.2 ⟨Fg12.2.2.1, (List.forall_mem_cons.2 ⟨Fg12.2.2.2.1, (List.forall_mem_nil _)⟩)⟩)⟩)⟩), lt_of_block (hW25.2 _ (.head _))⟩, (List.forall_mem_cons.2 ⟨.inl (.head _), (List.forall_mem_cons.2 ⟨.inl (.tail _ (.head _)), (List.forall_mem_cons.2 ⟨.inl (.tail _ (.tail _ (.head _))), (List.forall_mem_cons.2 ⟨.inl (.tail _ (.tail _ (.tail _ (.head _)))), (List.forall_mem_nil _)⟩)⟩)⟩)⟩)⟩)
                  have hk25 : KS (rnd W25 n₀ ho25.hn) ((g12, .cells #[.int .i64 cf, .int .i64 ct] 41 (0, 0)) :: (g11, .cells #[.int .i64 f, .int .i64 x.2] 41 (0, 0)) :: (L, o) :: (g2, .cells #[.slice p ls.length cap] 22 (0, 0)) :: (g1, .cells #[.func (.yield l) #[] #[]] 95 (0, 0)) :: (oth W25 [g12, g11, L, g2, g1])) W25 := ks_oth (K := [(g12, .cells #[.int .i64 cf, .int .i64 ct] 41 (0, 0)), (g11, .cells #[.int .i64 f, .int .i64 x.2] 41 (0, 0)), (L, o), (g2, .cells #[.slice p ls.length cap] 22 (0, 0)), (g1, .cells #[.func (.yield l) #[] #[]] 95 (0, 0))]) (fun p hp => hW25.2 p (List.mem_append_left _ hp))
                  have N25g12 := oth_ne (W := W25) (S := [g12, g11, L, g2, g1]) (g := g12) (.head _)
                  have ge25g12 : (rnd W25 n₀ ho25.hn).B ≤ g12 := ho25.ge (.head _)
                  have N25g11 := oth_ne (W := W25) (S := [g12, g11, L, g2, g1]) (g := g11) (.tail _ (.head _))
                  have ge25g11 : (rnd W25 n₀ ho25.hn).B ≤ g11 := ho25.ge (.tail _ (.head _))
                  have N25L := oth_ne (W := W25) (S := [g12, g11, L, g2, g1]) (g := L) (.tail _ (.tail _ (.head _)))
                  have ge25L : (rnd W25 n₀ ho25.hn).B ≤ L := ho25.ge (.tail _ (.tail _ (.head _)))
                  have N25g2 := oth_ne (W := W25) (S := [g12, g11, L, g2, g1]) (g := g2) (.tail _ (.tail _ (.tail _ (.head _))))
                  have ge25g2 : (rnd W25 n₀ ho25.hn).B ≤ g2 := ho25.ge (.tail _ (.tail _ (.tail _ (.head _))))
                  have N25g1 := oth_ne (W := W25) (S := [g12, g11, L, g2, g1]) (g := g1) (.tail _ (.tail _ (.tail _ (.tail _ (.head _)))))
                  have ge25g1 : (rnd W25 n₀ ho25.hn).B ≤ g1 := ho25.ge (.tail _ (.tail _ (.tail _ (.tail _ (.head _)))))
                  refine (show Code.wpIn _ _ _ _ _ _ _ from ?_)
                  refine wpIn_seq ?_
                  refine wpIn_seq ?_
                  refine wp_region_LI (W0 := (rnd W25 n₀ ho25.hn)) ((g12, .cells #[.int .i64 cf, .int .i64 ct] 41 (0, 0)) :: (g11, .cells #[.int .i64 f, .int .i64 x.2] 41 (0, 0)) :: (L, o) :: (g2, .cells #[.slice p ls.length cap] 22 (0, 0)) :: (g1, .cells #[.func (.yield l) #[] #[]] 95 (0, 0)) :: (oth W25 [g12, g11, L, g2, g1])) (by kernel_rfl) (hk25) ?_
                  refine lm (v := .pointer (some ⟨g12, 0, none⟩)) rfl rfl ?_
                  refine lv (v := .int .i64 cf) rfl rfl (yb_loadc (off := 0) rfl (by kernel_rfl) (.head _) Tryd.underlying3 rfl (by kernel_rfl)) ?_
                  refine lm (v := .pointer (some ⟨g11, 1, none⟩)) rfl rfl ?_
                  refine lv (v := .int .i64 x.2) rfl rfl (yb_loadc (off := 1) rfl (by kernel_rfl) (.tail _ (.head _)) Tryd.underlying3 rfl (by kernel_rfl)) ?_
                  refine lp (v := .bool false) rfl rfl (run_bin rfl (vx := .int .i64 cf) (vy := .int .i64 x.2) (by kernel_rfl) (by kernel_rfl) fun w => run_geqI (decide_eq_false hbr) w) ?_
                  refine wpL_done (fun W26 hW26 => ?_)
                  obtain ⟨ho26, hJ26⟩ := Tw.Own.work (O' := [g12, g11, L, g2, g1]) hJa ho25 hJ25 hW26 (fun p hp => (.tail _ (.tail _ (.tail _ (.tail _ (.tail _ hp)))))) (List.forall_mem_cons.2 ⟨.inl (.head _), (List.forall_mem_cons.2 ⟨.inl (.tail _ (.head _)), (List.forall_mem_cons.2 ⟨.inl (.tail _ (.tail _ (.head _))), (List.forall_mem_cons.2 ⟨.inl (.tail _ (.tail _ (.tail _ (.head _)))), (List.forall_mem_cons.2 ⟨.inl (.tail _ (.tail _ (.tail _ (.tail _ (.head _))))), (List.forall_mem_nil _)⟩)⟩)⟩)⟩)⟩)
                  have hk26 : KS (rnd W26 n₀ ho26.hn) ((g12, .cells #[.int .i64 cf, .int .i64 ct] 41 (0, 0)) :: (g11, .cells #[.int .i64 f, .int .i64 x.2] 41 (0, 0)) :: (L, o) :: (g2, .cells #[.slice p ls.length cap] 22 (0, 0)) :: (g1, .cells #[.func (.yield l) #[] #[]] 95 (0, 0)) :: (oth W26 [g12, g11, L, g2, g1])) W26 := ks_oth (K := [(g12, .cells #[.int .i64 cf, .int .i64 ct] 41 (0, 0)), (g11, .cells #[.int .i64 f, .int .i64 x.2] 41 (0, 0)), (L, o), (g2, .cells #[.slice p ls.length cap] 22 (0, 0)), (g1, .cells #[.func (.yield l) #[] #[]] 95 (0, 0))]) (fun p hp => hW26.2 p (List.mem_append_left _ hp))
                  have N26g12 := oth_ne (W := W26) (S := [g12, g11, L, g2, g1]) (g := g12) (.head _)
                  have ge26g12 : (rnd W26 n₀ ho26.hn).B ≤ g12 := ho26.ge (.head _)
                  have N26g11 := oth_ne (W := W26) (S := [g12, g11, L, g2, g1]) (g := g11) (.tail _ (.head _))
                  have ge26g11 : (rnd W26 n₀ ho26.hn).B ≤ g11 := ho26.ge (.tail _ (.head _))
                  have N26L := oth_ne (W := W26) (S := [g12, g11, L, g2, g1]) (g := L) (.tail _ (.tail _ (.head _)))
                  have ge26L : (rnd W26 n₀ ho26.hn).B ≤ L := ho26.ge (.tail _ (.tail _ (.head _)))
                  have N26g2 := oth_ne (W := W26) (S := [g12, g11, L, g2, g1]) (g := g2) (.tail _ (.tail _ (.tail _ (.head _))))
                  have ge26g2 : (rnd W26 n₀ ho26.hn).B ≤ g2 := ho26.ge (.tail _ (.tail _ (.tail _ (.head _))))
                  have N26g1 := oth_ne (W := W26) (S := [g12, g11, L, g2, g1]) (g := g1) (.tail _ (.tail _ (.tail _ (.tail _ (.head _)))))
                  have ge26g1 : (rnd W26 n₀ ho26.hn).B ≤ g1 := ho26.ge (.tail _ (.tail _ (.tail _ (.tail _ (.head _)))))
                  refine (show Code.wpIn _ _ _ _ _ _ _ from ?_)
                  refine wpIn_cond_false rfl ?_
                  refine wpIn_skip ?_
                  refine (show Code.wpIn _ _ _ _ _ _ _ from ?_)
                  refine wpIn_seq ?_
                  refine wpIn_seq ?_
                  refine wp_region_S (W0 := (rnd W26 n₀ ho26.hn)) (List.take 12 _) (List.drop 12 _) ((g12, .cells #[.int .i64 cf, .int .i64 ct] 41 (0, 0)) :: (g11, .cells #[.int .i64 f, .int .i64 x.2] 41 (0, 0)) :: (L, o) :: (g2, .cells #[.slice p ls.length cap] 22 (0, 0)) :: (g1, .cells #[.func (.yield l) #[] #[]] 95 (0, 0)) :: (oth W26 [g12, g11, L, g2, g1])) (List.take_append_drop 12 _).symm (by kernel_rfl) (hk26) ?_
                  simp only [List.take_succ_cons, List.take_zero, List.drop_succ_cons, List.drop_zero]
                  refine lm (v := .pointer (some ⟨g12, 0, none⟩)) rfl rfl ?_
                  refine lv (v := .int .i64 cf) rfl rfl (yb_loadc (off := 0) rfl (by kernel_rfl) (.head _) Tryd.underlying3 rfl (by kernel_rfl)) ?_
                  refine lm (v := .pointer (some ⟨g11, 0, none⟩)) rfl rfl ?_
                  refine lv (v := .int .i64 f) rfl rfl (yb_loadc (off := 0) rfl (by kernel_rfl) (.tail _ (.head _)) Tryd.underlying3 rfl (by kernel_rfl)) ?_
                  refine lp (v := .bool true) rfl rfl (run_bin rfl (vx := .int .i64 cf) (vy := .int .i64 f) (by kernel_rfl) (by kernel_rfl) fun w => run_gtrI (decide_eq_true hga) w) ?_
                  refine lm (v := .bool true) rfl rfl ?_
                  refine lv (v := .func (.yield l) #[] #[]) rfl rfl (yb_loadc (off := 0) rfl (by kernel_rfl) (.tail _ (.tail _ (.tail _ (.tail _ (.head _))))) Tryd.underlying95 rfl (by kernel_rfl)) ?_
                  refine lm (v := .pointer (some ⟨g11, 0, none⟩)) rfl rfl ?_
                  refine lv (v := .int .i64 f) rfl rfl (yb_loadc (off := 0) rfl (by kernel_rfl) (.tail _ (.head _)) Tryd.underlying3 rfl (by kernel_rfl)) ?_
                  refine lm (v := .pointer (some ⟨g12, 0, none⟩)) rfl rfl ?_
                  refine lv (v := .int .i64 cf) rfl rfl (yb_loadc (off := 0) rfl (by kernel_rfl) (.head _) Tryd.underlying3 rfl (by kernel_rfl)) ?_
                  refine lm (v := .agg #[.int .i64 f, .int .i64 cf]) rfl rfl ?_
                  refine wpL_done (fun W27 hW27 => ?_)
                  obtain ⟨ho27, hJ27⟩ := Tw.Own.work (O' := [g12, g11, L, g2, g1]) hJa ho26 hJ26 hW27 (fun p hp => (.tail _ (.tail _ (.tail _ (.tail _ (.tail _ hp)))))) (List.forall_mem_cons.2 ⟨.inl (.head _), (List.forall_mem_cons.2 ⟨.inl (.tail _ (.head _)), (List.forall_mem_cons.2 ⟨.inl (.tail _ (.tail _ (.head _))), (List.forall_mem_cons.2 ⟨.inl (.tail _ (.tail _ (.tail _ (.head _)))), (List.forall_mem_cons.2 ⟨.inl (.tail _ (.tail _ (.tail _ (.tail _ (.head _))))), (List.forall_mem_nil _)⟩)⟩)⟩)⟩)⟩)
                  have hk27 : KS (rnd W27 n₀ ho27.hn) ((g12, .cells #[.int .i64 cf, .int .i64 ct] 41 (0, 0)) :: (g11, .cells #[.int .i64 f, .int .i64 x.2] 41 (0, 0)) :: (L, o) :: (g2, .cells #[.slice p ls.length cap] 22 (0, 0)) :: (g1, .cells #[.func (.yield l) #[] #[]] 95 (0, 0)) :: (oth W27 [g12, g11, L, g2, g1])) W27 := ks_oth (K := [(g12, .cells #[.int .i64 cf, .int .i64 ct] 41 (0, 0)), (g11, .cells #[.int .i64 f, .int .i64 x.2] 41 (0, 0)), (L, o), (g2, .cells #[.slice p ls.length cap] 22 (0, 0)), (g1, .cells #[.func (.yield l) #[] #[]] 95 (0, 0))]) (fun p hp => hW27.2 p (List.mem_append_left _ hp))
                  have N27g12 := oth_ne (W := W27) (S := [g12, g11, L, g2, g1]) (g := g12) (.head _)
                  have ge27g12 : (rnd W27 n₀ ho27.hn).B ≤ g12 := ho27.ge (.head _)
                  have N27g11 := oth_ne (W := W27) (S := [g12, g11, L, g2, g1]) (g := g11) (.tail _ (.head _))
                  have ge27g11 : (rnd W27 n₀ ho27.hn).B ≤ g11 := ho27.ge (.tail _ (.head _))
                  have N27L := oth_ne (W := W27) (S := [g12, g11, L, g2, g1]) (g := L) (.tail _ (.tail _ (.head _)))
                  have ge27L : (rnd W27 n₀ ho27.hn).B ≤ L := ho27.ge (.tail _ (.tail _ (.head _)))
                  have N27g2 := oth_ne (W := W27) (S := [g12, g11, L, g2, g1]) (g := g2) (.tail _ (.tail _ (.tail _ (.head _))))
                  have ge27g2 : (rnd W27 n₀ ho27.hn).B ≤ g2 := ho27.ge (.tail _ (.tail _ (.tail _ (.head _))))
                  have N27g1 := oth_ne (W := W27) (S := [g12, g11, L, g2, g1]) (g := g1) (.tail _ (.tail _ (.tail _ (.tail _ (.head _)))))
                  have ge27g1 : (rnd W27 n₀ ho27.hn).B ≤ g1 := ho27.ge (.tail _ (.tail _ (.tail _ (.tail _ (.head _)))))
                  refine (show wpListIn _ _ _ _ _ _ _ _ from ?_)
                  have hYY := yieldF (m := 0) (r := (some L)) (hYd os2 (f, cf) _ W27 hJ27 ho27.mem (pre_of (rest := cutL x.2 ct (ls.drop (k + 1)) ++ withoutL ls (xs.drop (pre.length + 1))) (by rw [hfull, if_neg hbr, if_pos hga]; simp)))
                  refine wpl_yield rfl rfl (by kernel_rfl) (by kernel_rfl) (by kernel_rfl) rfl hYY (by simp only [List.setIfInBounds_toArray, List.set_cons_succ, List.set_cons_zero] <;> rfl) (by simp only [List.setIfInBounds_toArray, List.set_cons_succ, List.set_cons_zero] <;> rfl) (fun W28 hA28 => ?_) (fun W28 hX28 => ?_)
                  · obtain ⟨Sy, hFy, hJy28⟩ := hA28
                    have hoy28 := ho27.yielded hFy
                    have hq28 := ho27.kept (K := [(g12, .cells #[.int .i64 cf, .int .i64 ct] 41 (0, 0)), (g11, .cells #[.int .i64 f, .int .i64 x.2] 41 (0, 0)), (L, o), (g2, .cells #[.slice p ls.length cap] 22 (0, 0)), (g1, .cells #[.func (.yield l) #[] #[]] 95 (0, 0))]) hFy (fun p hp => hk27.2 p (List.mem_append_left _ hp)) (List.forall_mem_cons.2 ⟨.inl (.head _), (List.forall_mem_cons.2 ⟨.inl (.tail _ (.head _)), (List.forall_mem_cons.2 ⟨.inl (.tail _ (.tail _ (.head _))), (List.forall_mem_cons.2 ⟨.inl (.tail _ (.tail _ (.tail _ (.head _)))), (List.forall_mem_cons.2 ⟨.inl (.tail _ (.tail _ (.tail _ (.tail _ (.head _))))), (List.forall_mem_nil _)⟩)⟩)⟩)⟩)⟩)
                    have hk28 : KS (rnd W28 n₀ hoy28.hn) ((g12, .cells #[.int .i64 cf, .int .i64 ct] 41 (0, 0)) :: (g11, .cells #[.int .i64 f, .int .i64 x.2] 41 (0, 0)) :: (L, o) :: (g2, .cells #[.slice p ls.length cap] 22 (0, 0)) :: (g1, .cells #[.func (.yield l) #[] #[]] 95 (0, 0)) :: (oth W28 [g12, g11, L, g2, g1])) W28 := ks_oth (K := [(g12, .cells #[.int .i64 cf, .int .i64 ct] 41 (0, 0)), (g11, .cells #[.int .i64 f, .int .i64 x.2] 41 (0, 0)), (L, o), (g2, .cells #[.slice p ls.length cap] 22 (0, 0)), (g1, .cells #[.func (.yield l) #[] #[]] 95 (0, 0))]) hq28
                    have N28g12 := oth_ne (W := W28) (S := [g12, g11, L, g2, g1]) (g := g12) (.head _)
                    have ge28g12 : (rnd W28 n₀ hoy28.hn).B ≤ g12 := hoy28.ge (.head _)
                    have N28g11 := oth_ne (W := W28) (S := [g12, g11, L, g2, g1]) (g := g11) (.tail _ (.head _))
                    have ge28g11 : (rnd W28 n₀ hoy28.hn).B ≤ g11 := hoy28.ge (.tail _ (.head _))
                    have N28L := oth_ne (W := W28) (S := [g12, g11, L, g2, g1]) (g := L) (.tail _ (.tail _ (.head _)))
                    have ge28L : (rnd W28 n₀ hoy28.hn).B ≤ L := hoy28.ge (.tail _ (.tail _ (.head _)))
                    have N28g2 := oth_ne (W := W28) (S := [g12, g11, L, g2, g1]) (g := g2) (.tail _ (.tail _ (.tail _ (.head _))))
                    have ge28g2 : (rnd W28 n₀ hoy28.hn).B ≤ g2 := hoy28.ge (.tail _ (.tail _ (.tail _ (.head _))))
                    have N28g1 := oth_ne (W := W28) (S := [g12, g11, L, g2, g1]) (g := g1) (.tail _ (.tail _ (.tail _ (.tail _ (.head _)))))
                    have ge28g1 : (rnd W28 n₀ hoy28.hn).B ≤ g1 := hoy28.ge (.tail _ (.tail _ (.tail _ (.tail _ (.head _)))))
                    refine wpl_rest (W0 := (rnd W28 n₀ hoy28.hn)) ((g12, .cells #[.int .i64 cf, .int .i64 ct] 41 (0, 0)) :: (g11, .cells #[.int .i64 f, .int .i64 x.2] 41 (0, 0)) :: (L, o) :: (g2, .cells #[.slice p ls.length cap] 22 (0, 0)) :: (g1, .cells #[.func (.yield l) #[] #[]] 95 (0, 0)) :: (oth W28 [g12, g11, L, g2, g1])) (by kernel_rfl) (hk28) ?_
                    refine lm (v := .bool false) rfl rfl ?_
                    refine lm (v := .bool false) rfl rfl ?_
                    refine wpL_done (fun W29 hW29 => ?_)
                    obtain ⟨ho29, hJ29⟩ := Tw.Own.work (O' := [g12, g11, L, g2, g1]) hJa hoy28 hJy28 hW29 (fun p hp => (.tail _ (.tail _ (.tail _ (.tail _ (.tail _ hp)))))) (List.forall_mem_cons.2 ⟨.inl (.head _), (List.forall_mem_cons.2 ⟨.inl (.tail _ (.head _)), (List.forall_mem_cons.2 ⟨.inl (.tail _ (.tail _ (.head _))), (List.forall_mem_cons.2 ⟨.inl (.tail _ (.tail _ (.tail _ (.head _)))), (List.forall_mem_cons.2 ⟨.inl (.tail _ (.tail _ (.tail _ (.tail _ (.head _))))), (List.forall_mem_nil _)⟩)⟩)⟩)⟩)⟩)
                    have hk29 : KS (rnd W29 n₀ ho29.hn) ((g12, .cells #[.int .i64 cf, .int .i64 ct] 41 (0, 0)) :: (g11, .cells #[.int .i64 f, .int .i64 x.2] 41 (0, 0)) :: (L, o) :: (g2, .cells #[.slice p ls.length cap] 22 (0, 0)) :: (g1, .cells #[.func (.yield l) #[] #[]] 95 (0, 0)) :: (oth W29 [g12, g11, L, g2, g1])) W29 := ks_oth (K := [(g12, .cells #[.int .i64 cf, .int .i64 ct] 41 (0, 0)), (g11, .cells #[.int .i64 f, .int .i64 x.2] 41 (0, 0)), (L, o), (g2, .cells #[.slice p ls.length cap] 22 (0, 0)), (g1, .cells #[.func (.yield l) #[] #[]] 95 (0, 0))]) (fun p hp => hW29.2 p (List.mem_append_left _ hp))
                    have N29g12 := oth_ne (W := W29) (S := [g12, g11, L, g2, g1]) (g := g12) (.head _)
                    have ge29g12 : (rnd W29 n₀ ho29.hn).B ≤ g12 := ho29.ge (.head _)
                    have N29g11 := oth_ne (W := W29) (S := [g12, g11, L, g2, g1]) (g := g11) (.tail _ (.head _))
                    have ge29g11 : (rnd W29 n₀ ho29.hn).B ≤ g11 := ho29.ge (.tail _ (.head _))
                    have N29L := oth_ne (W := W29) (S := [g12, g11, L, g2, g1]) (g := L) (.tail _ (.tail _ (.head _)))
                    have ge29L : (rnd W29 n₀ ho29.hn).B ≤ L := ho29.ge (.tail _ (.tail _ (.head _)))
                    have N29g2 := oth_ne (W := W29) (S := [g12, g11, L, g2, g1]) (g := g2) (.tail _ (.tail _ (.tail _ (.head _))))
                    have ge29g2 : (rnd W29 n₀ ho29.hn).B ≤ g2 := ho29.ge (.tail _ (.tail _ (.tail _ (.head _))))
                    have N29g1 := oth_ne (W := W29) (S := [g12, g11, L, g2, g1]) (g := g1) (.tail _ (.tail _ (.tail _ (.tail _ (.head _)))))
                    have ge29g1 : (rnd W29 n₀ ho29.hn).B ≤ g1 := ho29.ge (.tail _ (.tail _ (.tail _ (.tail _ (.head _)))))
                    refine (show Code.wpIn _ _ _ _ _ _ _ from ?_)
                    refine wpIn_cond_false rfl ?_
                    refine wpIn_skip ?_
                    refine (show Code.wpIn _ _ _ _ _ _ _ from ?_)
                    refine wp_region_LI (W0 := (rnd W29 n₀ ho29.hn)) ((g12, .cells #[.int .i64 cf, .int .i64 ct] 41 (0, 0)) :: (g11, .cells #[.int .i64 f, .int .i64 x.2] 41 (0, 0)) :: (L, o) :: (g2, .cells #[.slice p ls.length cap] 22 (0, 0)) :: (g1, .cells #[.func (.yield l) #[] #[]] 95 (0, 0)) :: (oth W29 [g12, g11, L, g2, g1])) (by kernel_rfl) (hk29) ?_
                    refine lm (v := .pointer (some ⟨g12, 1, none⟩)) rfl rfl ?_
                    refine lv (v := .int .i64 ct) rfl rfl (yb_loadc (off := 1) rfl (by kernel_rfl) (.head _) Tryd.underlying3 rfl (by kernel_rfl)) ?_
                    refine lm (v := .pointer (some ⟨g11, 0, none⟩)) rfl rfl ?_
                    refine wpL_s ((g12, .cells #[.int .i64 cf, .int .i64 ct] 41 (0, 0)) :: (g11, .cells #[.int .i64 ct, .int .i64 x.2] 41 (0, 0)) :: (L, o) :: (g2, .cells #[.slice p ls.length cap] 22 (0, 0)) :: (g1, .cells #[.func (.yield l) #[] #[]] 95 (0, 0)) :: (oth W29 [g12, g11, L, g2, g1])) rfl rfl (st_row (off := 0) (v := .int .i64 ct) rfl (by kernel_rfl) (by kernel_rfl) (.tail _ (.head _)) (by omega) (by kernel_rfl) (by simp [Value.cells]) (by intro v hv; simp [Value.cells] at hv; subst hv; rfl) rfl (List.forall_mem_cons.2 ⟨.inr ⟨(.head _), (Ne.symm Fg12.1)⟩, (List.forall_mem_cons.2 ⟨.inl rfl, (List.forall_mem_cons.2 ⟨.inr ⟨(.tail _ (.tail _ (.head _))), Fg11.1⟩, (List.forall_mem_cons.2 ⟨.inr ⟨(.tail _ (.tail _ (.tail _ (.head _)))), Fg11.2.1⟩, (List.forall_mem_cons.2 ⟨.inr ⟨(.tail _ (.tail _ (.tail _ (.tail _ (.head _))))), Fg11.2.2.1⟩, (fun p hp => .inr ⟨(.tail _ (.tail _ (.tail _ (.tail _ (.tail _ hp))))), N29g11 p hp⟩)⟩)⟩)⟩)⟩)⟩)) ?_
                    refine wpL_done (fun W30 hW30 => ?_)
                    obtain ⟨ho30, hJ30⟩ := Tw.Own.work (O' := [g12, g11, L, g2, g1]) hJa ho29 hJ29 hW30 (fun p hp => (.tail _ (.tail _ (.tail _ (.tail _ (.tail _ hp)))))) (List.forall_mem_cons.2 ⟨.inl (.head _), (List.forall_mem_cons.2 ⟨.inl (.tail _ (.head _)), (List.forall_mem_cons.2 ⟨.inl (.tail _ (.tail _ (.head _))), (List.forall_mem_cons.2 ⟨.inl (.tail _ (.tail _ (.tail _ (.head _)))), (List.forall_mem_cons.2 ⟨.inl (.tail _ (.tail _ (.tail _ (.tail _ (.head _))))), (List.forall_mem_nil _)⟩)⟩)⟩)⟩)⟩)
                    have hk30 : KS (rnd W30 n₀ ho30.hn) ((g12, .cells #[.int .i64 cf, .int .i64 ct] 41 (0, 0)) :: (g11, .cells #[.int .i64 ct, .int .i64 x.2] 41 (0, 0)) :: (L, o) :: (g2, .cells #[.slice p ls.length cap] 22 (0, 0)) :: (g1, .cells #[.func (.yield l) #[] #[]] 95 (0, 0)) :: (oth W30 [g12, g11, L, g2, g1])) W30 := ks_oth (K := [(g12, .cells #[.int .i64 cf, .int .i64 ct] 41 (0, 0)), (g11, .cells #[.int .i64 ct, .int .i64 x.2] 41 (0, 0)), (L, o), (g2, .cells #[.slice p ls.length cap] 22 (0, 0)), (g1, .cells #[.func (.yield l) #[] #[]] 95 (0, 0))]) (fun p hp => hW30.2 p (List.mem_append_left _ hp))
                    have N30g12 := oth_ne (W := W30) (S := [g12, g11, L, g2, g1]) (g := g12) (.head _)
                    have ge30g12 : (rnd W30 n₀ ho30.hn).B ≤ g12 := ho30.ge (.head _)
                    have N30g11 := oth_ne (W := W30) (S := [g12, g11, L, g2, g1]) (g := g11) (.tail _ (.head _))
                    have ge30g11 : (rnd W30 n₀ ho30.hn).B ≤ g11 := ho30.ge (.tail _ (.head _))
                    have N30L := oth_ne (W := W30) (S := [g12, g11, L, g2, g1]) (g := L) (.tail _ (.tail _ (.head _)))
                    have ge30L : (rnd W30 n₀ ho30.hn).B ≤ L := ho30.ge (.tail _ (.tail _ (.head _)))
                    have N30g2 := oth_ne (W := W30) (S := [g12, g11, L, g2, g1]) (g := g2) (.tail _ (.tail _ (.tail _ (.head _))))
                    have ge30g2 : (rnd W30 n₀ ho30.hn).B ≤ g2 := ho30.ge (.tail _ (.tail _ (.tail _ (.head _))))
                    have N30g1 := oth_ne (W := W30) (S := [g12, g11, L, g2, g1]) (g := g1) (.tail _ (.tail _ (.tail _ (.tail _ (.head _)))))
                    have ge30g1 : (rnd W30 n₀ ho30.hn).B ≤ g1 := ho30.ge (.tail _ (.tail _ (.tail _ (.tail _ (.head _)))))
                    refine (show Code.wpIn _ _ _ _ _ _ _ from ?_)
                    refine wp_region_LI (W0 := (rnd W30 n₀ ho30.hn)) ((g12, .cells #[.int .i64 cf, .int .i64 ct] 41 (0, 0)) :: (g11, .cells #[.int .i64 ct, .int .i64 x.2] 41 (0, 0)) :: (L, o) :: (g2, .cells #[.slice p ls.length cap] 22 (0, 0)) :: (g1, .cells #[.func (.yield l) #[] #[]] 95 (0, 0)) :: (oth W30 [g12, g11, L, g2, g1])) (by kernel_rfl) (hk30) ?_
                    refine lp (v := .int .i64 ((k + 1 : Nat) : Int)) rfl rfl (run_bin rfl (vx := .int .i64 (k : Int)) (vy := .int .i64 1) (by kernel_rfl) (by kernel_rfl) fun w => run_addI (z := ((k + 1 : Nat) : Int)) rfl (by omega) w) ?_
                    refine lm (v := .int .i64 ((k + 1 : Nat) : Int)) rfl rfl ?_
                    refine wpL_done (fun W31 hW31 => ?_)
                    obtain ⟨ho31, hJ31⟩ := Tw.Own.work (O' := [g12, g11, L, g2, g1]) hJa ho30 hJ30 hW31 (fun p hp => (.tail _ (.tail _ (.tail _ (.tail _ (.tail _ hp)))))) (List.forall_mem_cons.2 ⟨.inl (.head _), (List.forall_mem_cons.2 ⟨.inl (.tail _ (.head _)), (List.forall_mem_cons.2 ⟨.inl (.tail _ (.tail _ (.head _))), (List.forall_mem_cons.2 ⟨.inl (.tail _ (.tail _ (.tail _ (.head _)))), (List.forall_mem_cons.2 ⟨.inl (.tail _ (.tail _ (.tail _ (.tail _ (.head _))))), (List.forall_mem_nil _)⟩)⟩)⟩)⟩)⟩)
                    have hk31 : KS (rnd W31 n₀ ho31.hn) ((g12, .cells #[.int .i64 cf, .int .i64 ct] 41 (0, 0)) :: (g11, .cells #[.int .i64 ct, .int .i64 x.2] 41 (0, 0)) :: (L, o) :: (g2, .cells #[.slice p ls.length cap] 22 (0, 0)) :: (g1, .cells #[.func (.yield l) #[] #[]] 95 (0, 0)) :: (oth W31 [g12, g11, L, g2, g1])) W31 := ks_oth (K := [(g12, .cells #[.int .i64 cf, .int .i64 ct] 41 (0, 0)), (g11, .cells #[.int .i64 ct, .int .i64 x.2] 41 (0, 0)), (L, o), (g2, .cells #[.slice p ls.length cap] 22 (0, 0)), (g1, .cells #[.func (.yield l) #[] #[]] 95 (0, 0))]) (fun p hp => hW31.2 p (List.mem_append_left _ hp))
                    have N31g12 := oth_ne (W := W31) (S := [g12, g11, L, g2, g1]) (g := g12) (.head _)
                    have ge31g12 : (rnd W31 n₀ ho31.hn).B ≤ g12 := ho31.ge (.head _)
                    have N31g11 := oth_ne (W := W31) (S := [g12, g11, L, g2, g1]) (g := g11) (.tail _ (.head _))
                    have ge31g11 : (rnd W31 n₀ ho31.hn).B ≤ g11 := ho31.ge (.tail _ (.head _))
                    have N31L := oth_ne (W := W31) (S := [g12, g11, L, g2, g1]) (g := L) (.tail _ (.tail _ (.head _)))
                    have ge31L : (rnd W31 n₀ ho31.hn).B ≤ L := ho31.ge (.tail _ (.tail _ (.head _)))
                    have N31g2 := oth_ne (W := W31) (S := [g12, g11, L, g2, g1]) (g := g2) (.tail _ (.tail _ (.tail _ (.head _))))
                    have ge31g2 : (rnd W31 n₀ ho31.hn).B ≤ g2 := ho31.ge (.tail _ (.tail _ (.tail _ (.head _))))
                    have N31g1 := oth_ne (W := W31) (S := [g12, g11, L, g2, g1]) (g := g1) (.tail _ (.tail _ (.tail _ (.tail _ (.head _)))))
                    have ge31g1 : (rnd W31 n₀ ho31.hn).B ≤ g1 := ho31.ge (.tail _ (.tail _ (.tail _ (.tail _ (.head _)))))
                    go_roundw
                    case rel =>
                      repeat apply Exists.intro
                      exact ⟨⟨k + 1, ct, (os2 ++ [(f, cf)]), _, by rw [hfull, if_neg hbr, if_pos hga]; simp, by omega, rfl, ho31.fewer (List.forall_mem_cons.2 ⟨(.tail _ (.head _)), (List.forall_mem_cons.2 ⟨(.tail _ (.tail _ (.head _))), (List.forall_mem_cons.2 ⟨(.tail _ (.tail _ (.tail _ (.head _)))), (List.forall_mem_cons.2 ⟨(.tail _ (.tail _ (.tail _ (.tail _ (.head _))))), (List.forall_mem_nil _)⟩)⟩)⟩)⟩), hJ31, (List.forall_mem_cons.2 ⟨hk31.2 _ (.tail _ (.head _)), (List.forall_mem_cons.2 ⟨hk31.2 _ (.tail _ (.tail _ (.head _))), (List.forall_mem_cons.2 ⟨hk31.2 _ (.tail _ (.tail _ (.tail _ (.head _)))), (List.forall_mem_cons.2 ⟨hk31.2 _ (.tail _ (.tail _ (.tail _ (.tail _ (.head _))))), (List.forall_mem_nil _)⟩)⟩)⟩)⟩)⟩, rfl⟩
                    case measure => (show (ls.length - intOf (.int .i64 ((k + 1 : Nat) : Int))).toNat < (ls.length - intOf (.int .i64 (k : Int))).toNat); simp only [intOf]; omega
                  · obtain ⟨Sy, hFy, hJy28⟩ := hX28
                    have hoy28 := ho27.yielded hFy
                    have hq28 := ho27.kept (K := [(g12, .cells #[.int .i64 cf, .int .i64 ct] 41 (0, 0)), (g11, .cells #[.int .i64 f, .int .i64 x.2] 41 (0, 0)), (L, o), (g2, .cells #[.slice p ls.length cap] 22 (0, 0)), (g1, .cells #[.func (.yield l) #[] #[]] 95 (0, 0))]) hFy (fun p hp => hk27.2 p (List.mem_append_left _ hp)) (List.forall_mem_cons.2 ⟨.inl (.head _), (List.forall_mem_cons.2 ⟨.inl (.tail _ (.head _)), (List.forall_mem_cons.2 ⟨.inl (.tail _ (.tail _ (.head _))), (List.forall_mem_cons.2 ⟨.inl (.tail _ (.tail _ (.tail _ (.head _)))), (List.forall_mem_cons.2 ⟨.inl (.tail _ (.tail _ (.tail _ (.tail _ (.head _))))), (List.forall_mem_nil _)⟩)⟩)⟩)⟩)⟩)
                    have hk28 : KS (rnd W28 n₀ hoy28.hn) ((g12, .cells #[.int .i64 cf, .int .i64 ct] 41 (0, 0)) :: (g11, .cells #[.int .i64 f, .int .i64 x.2] 41 (0, 0)) :: (L, o) :: (g2, .cells #[.slice p ls.length cap] 22 (0, 0)) :: (g1, .cells #[.func (.yield l) #[] #[]] 95 (0, 0)) :: (oth W28 [g12, g11, L, g2, g1])) W28 := ks_oth (K := [(g12, .cells #[.int .i64 cf, .int .i64 ct] 41 (0, 0)), (g11, .cells #[.int .i64 f, .int .i64 x.2] 41 (0, 0)), (L, o), (g2, .cells #[.slice p ls.length cap] 22 (0, 0)), (g1, .cells #[.func (.yield l) #[] #[]] 95 (0, 0))]) hq28
                    have N28g12 := oth_ne (W := W28) (S := [g12, g11, L, g2, g1]) (g := g12) (.head _)
                    have ge28g12 : (rnd W28 n₀ hoy28.hn).B ≤ g12 := hoy28.ge (.head _)
                    have N28g11 := oth_ne (W := W28) (S := [g12, g11, L, g2, g1]) (g := g11) (.tail _ (.head _))
                    have ge28g11 : (rnd W28 n₀ hoy28.hn).B ≤ g11 := hoy28.ge (.tail _ (.head _))
                    have N28L := oth_ne (W := W28) (S := [g12, g11, L, g2, g1]) (g := L) (.tail _ (.tail _ (.head _)))
                    have ge28L : (rnd W28 n₀ hoy28.hn).B ≤ L := hoy28.ge (.tail _ (.tail _ (.head _)))
                    have N28g2 := oth_ne (W := W28) (S := [g12, g11, L, g2, g1]) (g := g2) (.tail _ (.tail _ (.tail _ (.head _))))
                    have ge28g2 : (rnd W28 n₀ hoy28.hn).B ≤ g2 := hoy28.ge (.tail _ (.tail _ (.tail _ (.head _))))
                    have N28g1 := oth_ne (W := W28) (S := [g12, g11, L, g2, g1]) (g := g1) (.tail _ (.tail _ (.tail _ (.tail _ (.head _)))))
                    have ge28g1 : (rnd W28 n₀ hoy28.hn).B ≤ g1 := hoy28.ge (.tail _ (.tail _ (.tail _ (.tail _ (.head _)))))
                    refine wpl_rest (W0 := (rnd W28 n₀ hoy28.hn)) ((g12, .cells #[.int .i64 cf, .int .i64 ct] 41 (0, 0)) :: (g11, .cells #[.int .i64 f, .int .i64 x.2] 41 (0, 0)) :: (L, o) :: (g2, .cells #[.slice p ls.length cap] 22 (0, 0)) :: (g1, .cells #[.func (.yield l) #[] #[]] 95 (0, 0)) :: (oth W28 [g12, g11, L, g2, g1])) (by kernel_rfl) (hk28) ?_
                    refine lm (v := .bool true) rfl rfl ?_
                    refine lm (v := .bool true) rfl rfl ?_
                    refine wpL_done (fun W29 hW29 => ?_)
                    obtain ⟨ho29, hJ29⟩ := Tw.Own.work (O' := [g12, g11, L, g2, g1]) hJxa hoy28 hJy28 hW29 (fun p hp => (.tail _ (.tail _ (.tail _ (.tail _ (.tail _ hp)))))) (List.forall_mem_cons.2 ⟨.inl (.head _), (List.forall_mem_cons.2 ⟨.inl (.tail _ (.head _)), (List.forall_mem_cons.2 ⟨.inl (.tail _ (.tail _ (.head _))), (List.forall_mem_cons.2 ⟨.inl (.tail _ (.tail _ (.tail _ (.head _)))), (List.forall_mem_cons.2 ⟨.inl (.tail _ (.tail _ (.tail _ (.tail _ (.head _))))), (List.forall_mem_nil _)⟩)⟩)⟩)⟩)⟩)
                    have hk29 : KS (rnd W29 n₀ ho29.hn) ((g12, .cells #[.int .i64 cf, .int .i64 ct] 41 (0, 0)) :: (g11, .cells #[.int .i64 f, .int .i64 x.2] 41 (0, 0)) :: (L, o) :: (g2, .cells #[.slice p ls.length cap] 22 (0, 0)) :: (g1, .cells #[.func (.yield l) #[] #[]] 95 (0, 0)) :: (oth W29 [g12, g11, L, g2, g1])) W29 := ks_oth (K := [(g12, .cells #[.int .i64 cf, .int .i64 ct] 41 (0, 0)), (g11, .cells #[.int .i64 f, .int .i64 x.2] 41 (0, 0)), (L, o), (g2, .cells #[.slice p ls.length cap] 22 (0, 0)), (g1, .cells #[.func (.yield l) #[] #[]] 95 (0, 0))]) (fun p hp => hW29.2 p (List.mem_append_left _ hp))
                    have N29g12 := oth_ne (W := W29) (S := [g12, g11, L, g2, g1]) (g := g12) (.head _)
                    have ge29g12 : (rnd W29 n₀ ho29.hn).B ≤ g12 := ho29.ge (.head _)
                    have N29g11 := oth_ne (W := W29) (S := [g12, g11, L, g2, g1]) (g := g11) (.tail _ (.head _))
                    have ge29g11 : (rnd W29 n₀ ho29.hn).B ≤ g11 := ho29.ge (.tail _ (.head _))
                    have N29L := oth_ne (W := W29) (S := [g12, g11, L, g2, g1]) (g := L) (.tail _ (.tail _ (.head _)))
                    have ge29L : (rnd W29 n₀ ho29.hn).B ≤ L := ho29.ge (.tail _ (.tail _ (.head _)))
                    have N29g2 := oth_ne (W := W29) (S := [g12, g11, L, g2, g1]) (g := g2) (.tail _ (.tail _ (.tail _ (.head _))))
                    have ge29g2 : (rnd W29 n₀ ho29.hn).B ≤ g2 := ho29.ge (.tail _ (.tail _ (.tail _ (.head _))))
                    have N29g1 := oth_ne (W := W29) (S := [g12, g11, L, g2, g1]) (g := g1) (.tail _ (.tail _ (.tail _ (.tail _ (.head _)))))
                    have ge29g1 : (rnd W29 n₀ ho29.hn).B ≤ g1 := ho29.ge (.tail _ (.tail _ (.tail _ (.tail _ (.head _)))))
                    refine (show Code.wpIn _ _ _ _ _ _ _ from ?_)
                    refine wpIn_cond_true rfl ?_
                    refine wpIn_ret ?_
                    try simp only [inBlock_ret, then_ret]
                    exact round_stop (I := WI J n₀ g1 g2 l W1 closed xs) (a := ⟨#[], []⟩) (O := [g2, g1]) (ho29.fewer (O' := [L, g2, g1]) (List.forall_mem_cons.2 ⟨(.tail _ (.tail _ (.head _))), (List.forall_mem_cons.2 ⟨(.tail _ (.tail _ (.tail _ (.head _)))), (List.forall_mem_cons.2 ⟨(.tail _ (.tail _ (.tail _ (.tail _ (.head _))))), (List.forall_mem_nil _)⟩)⟩)⟩)) (hk29.2 _ (.tail _ (.tail _ (.head _)))) (by simp only [List.mem_cons, List.not_mem_nil, or_false, not_or]; exact ⟨nL.1, nL.2.1⟩) ⟨_, _, rfl, hJ29⟩
                · refine wpIn_seq ?_
                  refine wp_region_LI (W0 := (rnd wr n₀ hom.hn)) ((g11, .cells #[.int .i64 f, .int .i64 x.2] 41 (0, 0)) :: (L, o) :: (g2, .cells #[.slice p ls.length cap] 22 (0, 0)) :: (g1, .cells #[.func (.yield l) #[] #[]] 95 (0, 0)) :: (oth wr [g11, L, g2, g1])) (by kernel_rfl) (hkm) ?_
                  refine lp (v := .bool true) rfl rfl (run_bin rfl (vx := .int .i64 (k : Int)) (vy := .int .i64 (ls.length : Int)) (by kernel_rfl) (by kernel_rfl) fun w => run_lssI (decide_eq_true (by omega)) w) ?_
                  refine wpL_done (fun W24 hW24 => ?_)
                  obtain ⟨ho24, hJ24⟩ := Tw.Own.work (O' := [g11, L, g2, g1]) hJa hom hJm hW24 (fun p hp => (.tail _ (.tail _ (.tail _ (.tail _ hp))))) (List.forall_mem_cons.2 ⟨.inl (.head _), (List.forall_mem_cons.2 ⟨.inl (.tail _ (.head _)), (List.forall_mem_cons.2 ⟨.inl (.tail _ (.tail _ (.head _))), (List.forall_mem_cons.2 ⟨.inl (.tail _ (.tail _ (.tail _ (.head _)))), (List.forall_mem_nil _)⟩)⟩)⟩)⟩)
                  have hk24 : KS (rnd W24 n₀ ho24.hn) ((g11, .cells #[.int .i64 f, .int .i64 x.2] 41 (0, 0)) :: (L, o) :: (g2, .cells #[.slice p ls.length cap] 22 (0, 0)) :: (g1, .cells #[.func (.yield l) #[] #[]] 95 (0, 0)) :: (oth W24 [g11, L, g2, g1])) W24 := ks_oth (K := [(g11, .cells #[.int .i64 f, .int .i64 x.2] 41 (0, 0)), (L, o), (g2, .cells #[.slice p ls.length cap] 22 (0, 0)), (g1, .cells #[.func (.yield l) #[] #[]] 95 (0, 0))]) (fun p hp => hW24.2 p (List.mem_append_left _ hp))
                  have N24g11 := oth_ne (W := W24) (S := [g11, L, g2, g1]) (g := g11) (.head _)
                  have ge24g11 : (rnd W24 n₀ ho24.hn).B ≤ g11 := ho24.ge (.head _)
                  have N24L := oth_ne (W := W24) (S := [g11, L, g2, g1]) (g := L) (.tail _ (.head _))
                  have ge24L : (rnd W24 n₀ ho24.hn).B ≤ L := ho24.ge (.tail _ (.head _))
                  have N24g2 := oth_ne (W := W24) (S := [g11, L, g2, g1]) (g := g2) (.tail _ (.tail _ (.head _)))
                  have ge24g2 : (rnd W24 n₀ ho24.hn).B ≤ g2 := ho24.ge (.tail _ (.tail _ (.head _)))
                  have N24g1 := oth_ne (W := W24) (S := [g11, L, g2, g1]) (g := g1) (.tail _ (.tail _ (.tail _ (.head _))))
                  have ge24g1 : (rnd W24 n₀ ho24.hn).B ≤ g1 := ho24.ge (.tail _ (.tail _ (.tail _ (.head _))))
                  refine (show Code.wpIn _ _ _ _ _ _ _ from ?_)
                  refine wpIn_seq ?_
                  refine wpIn_cond_true rfl ?_
                  refine wpIn_skip ?_
                  refine (show Code.wpIn _ _ _ _ _ _ _ from ?_)
                  refine wpIn_seq ?_
                  refine wpIn_block ?_
                  refine wpIn_seq ?_
                  have hcell := cells_low hcl (hWr.trans ho24.below) hbn
                  refine wp_region_LI (W0 := (rnd W24 n₀ ho24.hn)) ((g11, .cells #[.int .i64 f, .int .i64 x.2] 41 (0, 0)) :: (L, o) :: (g2, .cells #[.slice p ls.length cap] 22 (0, 0)) :: (g1, .cells #[.func (.yield l) #[] #[]] 95 (0, 0)) :: (oth W24 [g11, L, g2, g1])) (by kernel_rfl) (hk24) ?_
                  refine lp (v := .pointer (some ⟨b, off + 2 * k, none⟩)) rfl rfl (run_idxp (b := b) (off := off) (n := ls.length) (cap := cap) (k := k) rfl (by kernel_rfl) hp (by kernel_rfl) hkn) ?_
                  refine lv (v := .agg #[.int .i64 cf, .int .i64 ct]) rfl rfl (yb_load2 rfl (by kernel_rfl) (hcell k (cf, ct) hget).1 (hcell k (cf, ct) hget).2 hbn) ?_
                  refine wpL_new (fun g => .pointer (some ⟨g, 0, none⟩)) (obi := .cells #[.int .i64 0, .int .i64 0] 41 (0, 0)) rfl rfl (fun _ => by kernel_rfl) (fun _ => by simp only [List.setIfInBounds_toArray, List.set_cons_succ, List.set_cons_zero] <;> rfl) fun g12 Bg12 Fg12 => ?_
                  try simp only [List.forall_mem_cons] at Fg12
                  refine wpL_s ((g12, .cells #[.int .i64 cf, .int .i64 ct] 41 (0, 0)) :: (g11, .cells #[.int .i64 f, .int .i64 x.2] 41 (0, 0)) :: (L, o) :: (g2, .cells #[.slice p ls.length cap] 22 (0, 0)) :: (g1, .cells #[.func (.yield l) #[] #[]] 95 (0, 0)) :: (oth W24 [g11, L, g2, g1])) rfl rfl (st_span rfl (by kernel_rfl) (by kernel_rfl) (.head _) (by omega) (List.forall_mem_cons.2 ⟨.inl rfl, (List.forall_mem_cons.2 ⟨.inr ⟨(.tail _ (.head _)), Fg12.1⟩, (List.forall_mem_cons.2 ⟨.inr ⟨(.tail _ (.tail _ (.head _))), Fg12.2.1⟩, (List.forall_mem_cons.2 ⟨.inr ⟨(.tail _ (.tail _ (.tail _ (.head _)))), Fg12.2.2.1⟩, (List.forall_mem_cons.2 ⟨.inr ⟨(.tail _ (.tail _ (.tail _ (.tail _ (.head _))))), Fg12.2.2.2.1⟩, (fun p hp => .inr ⟨(.tail _ (.tail _ (.tail _ (.tail _ (.tail _ hp))))), Fg12.2.2.2.2 p hp⟩)⟩)⟩)⟩)⟩)⟩)) ?_
                  refine wpL_done (fun W25 hW25 => ?_)
                  obtain ⟨ho25, hJ25⟩ := Tw.Own.work (O' := [g12, g11, L, g2, g1]) hJa ho24 hJ24 hW25 (fun p hp => (.tail _ (.tail _ (.tail _ (.tail _ (.tail _ hp)))))) (List.forall_mem_cons.2 ⟨.inr ⟨new_oth (O := [g11, L, g2, g1]) Fg12.2.2.2.2 (List.forall_mem_cons.2 ⟨Fg12.1, (List.forall_mem_cons.2 ⟨Fg12.2.1, (List.forall_mem_cons.2 ⟨Fg12.2.2.1, (List.forall_mem_cons.2 ⟨Fg12.2.2.2.1, (List.forall_mem_nil _)⟩)⟩)⟩)⟩), lt_of_block (hW25.2 _ (.head _))⟩, (List.forall_mem_cons.2 ⟨.inl (.head _), (List.forall_mem_cons.2 ⟨.inl (.tail _ (.head _)), (List.forall_mem_cons.2 ⟨.inl (.tail _ (.tail _ (.head _))), (List.forall_mem_cons.2 ⟨.inl (.tail _ (.tail _ (.tail _ (.head _)))), (List.forall_mem_nil _)⟩)⟩)⟩)⟩)⟩)
                  have hk25 : KS (rnd W25 n₀ ho25.hn) ((g12, .cells #[.int .i64 cf, .int .i64 ct] 41 (0, 0)) :: (g11, .cells #[.int .i64 f, .int .i64 x.2] 41 (0, 0)) :: (L, o) :: (g2, .cells #[.slice p ls.length cap] 22 (0, 0)) :: (g1, .cells #[.func (.yield l) #[] #[]] 95 (0, 0)) :: (oth W25 [g12, g11, L, g2, g1])) W25 := ks_oth (K := [(g12, .cells #[.int .i64 cf, .int .i64 ct] 41 (0, 0)), (g11, .cells #[.int .i64 f, .int .i64 x.2] 41 (0, 0)), (L, o), (g2, .cells #[.slice p ls.length cap] 22 (0, 0)), (g1, .cells #[.func (.yield l) #[] #[]] 95 (0, 0))]) (fun p hp => hW25.2 p (List.mem_append_left _ hp))
                  have N25g12 := oth_ne (W := W25) (S := [g12, g11, L, g2, g1]) (g := g12) (.head _)
                  have ge25g12 : (rnd W25 n₀ ho25.hn).B ≤ g12 := ho25.ge (.head _)
                  have N25g11 := oth_ne (W := W25) (S := [g12, g11, L, g2, g1]) (g := g11) (.tail _ (.head _))
                  have ge25g11 : (rnd W25 n₀ ho25.hn).B ≤ g11 := ho25.ge (.tail _ (.head _))
                  have N25L := oth_ne (W := W25) (S := [g12, g11, L, g2, g1]) (g := L) (.tail _ (.tail _ (.head _)))
                  have ge25L : (rnd W25 n₀ ho25.hn).B ≤ L := ho25.ge (.tail _ (.tail _ (.head _)))
                  have N25g2 := oth_ne (W := W25) (S := [g12, g11, L, g2, g1]) (g := g2) (.tail _ (.tail _ (.tail _ (.head _))))
                  have ge25g2 : (rnd W25 n₀ ho25.hn).B ≤ g2 := ho25.ge (.tail _ (.tail _ (.tail _ (.head _))))
                  have N25g1 := oth_ne (W := W25) (S := [g12, g11, L, g2, g1]) (g := g1) (.tail _ (.tail _ (.tail _ (.tail _ (.head _)))))
                  have ge25g1 : (rnd W25 n₀ ho25.hn).B ≤ g1 := ho25.ge (.tail _ (.tail _ (.tail _ (.tail _ (.head _)))))
                  refine (show Code.wpIn _ _ _ _ _ _ _ from ?_)
                  refine wpIn_seq ?_
                  refine wpIn_seq ?_
                  refine wp_region_LI (W0 := (rnd W25 n₀ ho25.hn)) ((g12, .cells #[.int .i64 cf, .int .i64 ct] 41 (0, 0)) :: (g11, .cells #[.int .i64 f, .int .i64 x.2] 41 (0, 0)) :: (L, o) :: (g2, .cells #[.slice p ls.length cap] 22 (0, 0)) :: (g1, .cells #[.func (.yield l) #[] #[]] 95 (0, 0)) :: (oth W25 [g12, g11, L, g2, g1])) (by kernel_rfl) (hk25) ?_
                  refine lm (v := .pointer (some ⟨g12, 0, none⟩)) rfl rfl ?_
                  refine lv (v := .int .i64 cf) rfl rfl (yb_loadc (off := 0) rfl (by kernel_rfl) (.head _) Tryd.underlying3 rfl (by kernel_rfl)) ?_
                  refine lm (v := .pointer (some ⟨g11, 1, none⟩)) rfl rfl ?_
                  refine lv (v := .int .i64 x.2) rfl rfl (yb_loadc (off := 1) rfl (by kernel_rfl) (.tail _ (.head _)) Tryd.underlying3 rfl (by kernel_rfl)) ?_
                  refine lp (v := .bool false) rfl rfl (run_bin rfl (vx := .int .i64 cf) (vy := .int .i64 x.2) (by kernel_rfl) (by kernel_rfl) fun w => run_geqI (decide_eq_false hbr) w) ?_
                  refine wpL_done (fun W26 hW26 => ?_)
                  obtain ⟨ho26, hJ26⟩ := Tw.Own.work (O' := [g12, g11, L, g2, g1]) hJa ho25 hJ25 hW26 (fun p hp => (.tail _ (.tail _ (.tail _ (.tail _ (.tail _ hp)))))) (List.forall_mem_cons.2 ⟨.inl (.head _), (List.forall_mem_cons.2 ⟨.inl (.tail _ (.head _)), (List.forall_mem_cons.2 ⟨.inl (.tail _ (.tail _ (.head _))), (List.forall_mem_cons.2 ⟨.inl (.tail _ (.tail _ (.tail _ (.head _)))), (List.forall_mem_cons.2 ⟨.inl (.tail _ (.tail _ (.tail _ (.tail _ (.head _))))), (List.forall_mem_nil _)⟩)⟩)⟩)⟩)⟩)
                  have hk26 : KS (rnd W26 n₀ ho26.hn) ((g12, .cells #[.int .i64 cf, .int .i64 ct] 41 (0, 0)) :: (g11, .cells #[.int .i64 f, .int .i64 x.2] 41 (0, 0)) :: (L, o) :: (g2, .cells #[.slice p ls.length cap] 22 (0, 0)) :: (g1, .cells #[.func (.yield l) #[] #[]] 95 (0, 0)) :: (oth W26 [g12, g11, L, g2, g1])) W26 := ks_oth (K := [(g12, .cells #[.int .i64 cf, .int .i64 ct] 41 (0, 0)), (g11, .cells #[.int .i64 f, .int .i64 x.2] 41 (0, 0)), (L, o), (g2, .cells #[.slice p ls.length cap] 22 (0, 0)), (g1, .cells #[.func (.yield l) #[] #[]] 95 (0, 0))]) (fun p hp => hW26.2 p (List.mem_append_left _ hp))
                  have N26g12 := oth_ne (W := W26) (S := [g12, g11, L, g2, g1]) (g := g12) (.head _)
                  have ge26g12 : (rnd W26 n₀ ho26.hn).B ≤ g12 := ho26.ge (.head _)
                  have N26g11 := oth_ne (W := W26) (S := [g12, g11, L, g2, g1]) (g := g11) (.tail _ (.head _))
                  have ge26g11 : (rnd W26 n₀ ho26.hn).B ≤ g11 := ho26.ge (.tail _ (.head _))
                  have N26L := oth_ne (W := W26) (S := [g12, g11, L, g2, g1]) (g := L) (.tail _ (.tail _ (.head _)))
                  have ge26L : (rnd W26 n₀ ho26.hn).B ≤ L := ho26.ge (.tail _ (.tail _ (.head _)))
                  have N26g2 := oth_ne (W := W26) (S := [g12, g11, L, g2, g1]) (g := g2) (.tail _ (.tail _ (.tail _ (.head _))))
                  have ge26g2 : (rnd W26 n₀ ho26.hn).B ≤ g2 := ho26.ge (.tail _ (.tail _ (.tail _ (.head _))))
                  have N26g1 := oth_ne (W := W26) (S := [g12, g11, L, g2, g1]) (g := g1) (.tail _ (.tail _ (.tail _ (.tail _ (.head _)))))
                  have ge26g1 : (rnd W26 n₀ ho26.hn).B ≤ g1 := ho26.ge (.tail _ (.tail _ (.tail _ (.tail _ (.head _)))))
                  refine (show Code.wpIn _ _ _ _ _ _ _ from ?_)
                  refine wpIn_cond_false rfl ?_
                  refine wpIn_skip ?_
                  refine (show Code.wpIn _ _ _ _ _ _ _ from ?_)
                  refine wpIn_seq ?_
                  refine wpIn_seq ?_
                  refine wp_region_LI (W0 := (rnd W26 n₀ ho26.hn)) ((g12, .cells #[.int .i64 cf, .int .i64 ct] 41 (0, 0)) :: (g11, .cells #[.int .i64 f, .int .i64 x.2] 41 (0, 0)) :: (L, o) :: (g2, .cells #[.slice p ls.length cap] 22 (0, 0)) :: (g1, .cells #[.func (.yield l) #[] #[]] 95 (0, 0)) :: (oth W26 [g12, g11, L, g2, g1])) (by kernel_rfl) (hk26) ?_
                  refine lm (v := .pointer (some ⟨g12, 0, none⟩)) rfl rfl ?_
                  refine lv (v := .int .i64 cf) rfl rfl (yb_loadc (off := 0) rfl (by kernel_rfl) (.head _) Tryd.underlying3 rfl (by kernel_rfl)) ?_
                  refine lm (v := .pointer (some ⟨g11, 0, none⟩)) rfl rfl ?_
                  refine lv (v := .int .i64 f) rfl rfl (yb_loadc (off := 0) rfl (by kernel_rfl) (.tail _ (.head _)) Tryd.underlying3 rfl (by kernel_rfl)) ?_
                  refine lp (v := .bool false) rfl rfl (run_bin rfl (vx := .int .i64 cf) (vy := .int .i64 f) (by kernel_rfl) (by kernel_rfl) fun w => run_gtrI (decide_eq_false hga) w) ?_
                  refine lm (v := .bool false) rfl rfl ?_
                  refine ln rfl ?_
                  refine ln rfl ?_
                  refine ln rfl ?_
                  refine ln rfl ?_
                  refine ln rfl ?_
                  refine ln rfl ?_
                  refine ln rfl ?_
                  refine ln rfl ?_
                  refine lm (v := .bool false) rfl rfl ?_
                  refine wpL_done (fun W27 hW27 => ?_)
                  obtain ⟨ho27, hJ27⟩ := Tw.Own.work (O' := [g12, g11, L, g2, g1]) hJa ho26 hJ26 hW27 (fun p hp => (.tail _ (.tail _ (.tail _ (.tail _ (.tail _ hp)))))) (List.forall_mem_cons.2 ⟨.inl (.head _), (List.forall_mem_cons.2 ⟨.inl (.tail _ (.head _)), (List.forall_mem_cons.2 ⟨.inl (.tail _ (.tail _ (.head _))), (List.forall_mem_cons.2 ⟨.inl (.tail _ (.tail _ (.tail _ (.head _)))), (List.forall_mem_cons.2 ⟨.inl (.tail _ (.tail _ (.tail _ (.tail _ (.head _))))), (List.forall_mem_nil _)⟩)⟩)⟩)⟩)⟩)
                  have hk27 : KS (rnd W27 n₀ ho27.hn) ((g12, .cells #[.int .i64 cf, .int .i64 ct] 41 (0, 0)) :: (g11, .cells #[.int .i64 f, .int .i64 x.2] 41 (0, 0)) :: (L, o) :: (g2, .cells #[.slice p ls.length cap] 22 (0, 0)) :: (g1, .cells #[.func (.yield l) #[] #[]] 95 (0, 0)) :: (oth W27 [g12, g11, L, g2, g1])) W27 := ks_oth (K := [(g12, .cells #[.int .i64 cf, .int .i64 ct] 41 (0, 0)), (g11, .cells #[.int .i64 f, .int .i64 x.2] 41 (0, 0)), (L, o), (g2, .cells #[.slice p ls.length cap] 22 (0, 0)), (g1, .cells #[.func (.yield l) #[] #[]] 95 (0, 0))]) (fun p hp => hW27.2 p (List.mem_append_left _ hp))
                  have N27g12 := oth_ne (W := W27) (S := [g12, g11, L, g2, g1]) (g := g12) (.head _)
                  have ge27g12 : (rnd W27 n₀ ho27.hn).B ≤ g12 := ho27.ge (.head _)
                  have N27g11 := oth_ne (W := W27) (S := [g12, g11, L, g2, g1]) (g := g11) (.tail _ (.head _))
                  have ge27g11 : (rnd W27 n₀ ho27.hn).B ≤ g11 := ho27.ge (.tail _ (.head _))
                  have N27L := oth_ne (W := W27) (S := [g12, g11, L, g2, g1]) (g := L) (.tail _ (.tail _ (.head _)))
                  have ge27L : (rnd W27 n₀ ho27.hn).B ≤ L := ho27.ge (.tail _ (.tail _ (.head _)))
                  have N27g2 := oth_ne (W := W27) (S := [g12, g11, L, g2, g1]) (g := g2) (.tail _ (.tail _ (.tail _ (.head _))))
                  have ge27g2 : (rnd W27 n₀ ho27.hn).B ≤ g2 := ho27.ge (.tail _ (.tail _ (.tail _ (.head _))))
                  have N27g1 := oth_ne (W := W27) (S := [g12, g11, L, g2, g1]) (g := g1) (.tail _ (.tail _ (.tail _ (.tail _ (.head _)))))
                  have ge27g1 : (rnd W27 n₀ ho27.hn).B ≤ g1 := ho27.ge (.tail _ (.tail _ (.tail _ (.tail _ (.head _)))))
                  refine (show Code.wpIn _ _ _ _ _ _ _ from ?_)
                  refine wpIn_cond_false rfl ?_
                  refine wpIn_skip ?_
                  refine (show Code.wpIn _ _ _ _ _ _ _ from ?_)
                  refine wp_region_LI (W0 := (rnd W27 n₀ ho27.hn)) ((g12, .cells #[.int .i64 cf, .int .i64 ct] 41 (0, 0)) :: (g11, .cells #[.int .i64 f, .int .i64 x.2] 41 (0, 0)) :: (L, o) :: (g2, .cells #[.slice p ls.length cap] 22 (0, 0)) :: (g1, .cells #[.func (.yield l) #[] #[]] 95 (0, 0)) :: (oth W27 [g12, g11, L, g2, g1])) (by kernel_rfl) (hk27) ?_
                  refine lm (v := .pointer (some ⟨g12, 1, none⟩)) rfl rfl ?_
                  refine lv (v := .int .i64 ct) rfl rfl (yb_loadc (off := 1) rfl (by kernel_rfl) (.head _) Tryd.underlying3 rfl (by kernel_rfl)) ?_
                  refine lm (v := .pointer (some ⟨g11, 0, none⟩)) rfl rfl ?_
                  refine wpL_s ((g12, .cells #[.int .i64 cf, .int .i64 ct] 41 (0, 0)) :: (g11, .cells #[.int .i64 ct, .int .i64 x.2] 41 (0, 0)) :: (L, o) :: (g2, .cells #[.slice p ls.length cap] 22 (0, 0)) :: (g1, .cells #[.func (.yield l) #[] #[]] 95 (0, 0)) :: (oth W27 [g12, g11, L, g2, g1])) rfl rfl (st_row (off := 0) (v := .int .i64 ct) rfl (by kernel_rfl) (by kernel_rfl) (.tail _ (.head _)) (by omega) (by kernel_rfl) (by simp [Value.cells]) (by intro v hv; simp [Value.cells] at hv; subst hv; rfl) rfl (List.forall_mem_cons.2 ⟨.inr ⟨(.head _), (Ne.symm Fg12.1)⟩, (List.forall_mem_cons.2 ⟨.inl rfl, (List.forall_mem_cons.2 ⟨.inr ⟨(.tail _ (.tail _ (.head _))), Fg11.1⟩, (List.forall_mem_cons.2 ⟨.inr ⟨(.tail _ (.tail _ (.tail _ (.head _)))), Fg11.2.1⟩, (List.forall_mem_cons.2 ⟨.inr ⟨(.tail _ (.tail _ (.tail _ (.tail _ (.head _))))), Fg11.2.2.1⟩, (fun p hp => .inr ⟨(.tail _ (.tail _ (.tail _ (.tail _ (.tail _ hp))))), N27g11 p hp⟩)⟩)⟩)⟩)⟩)⟩)) ?_
                  refine wpL_done (fun W28 hW28 => ?_)
                  obtain ⟨ho28, hJ28⟩ := Tw.Own.work (O' := [g12, g11, L, g2, g1]) hJa ho27 hJ27 hW28 (fun p hp => (.tail _ (.tail _ (.tail _ (.tail _ (.tail _ hp)))))) (List.forall_mem_cons.2 ⟨.inl (.head _), (List.forall_mem_cons.2 ⟨.inl (.tail _ (.head _)), (List.forall_mem_cons.2 ⟨.inl (.tail _ (.tail _ (.head _))), (List.forall_mem_cons.2 ⟨.inl (.tail _ (.tail _ (.tail _ (.head _)))), (List.forall_mem_cons.2 ⟨.inl (.tail _ (.tail _ (.tail _ (.tail _ (.head _))))), (List.forall_mem_nil _)⟩)⟩)⟩)⟩)⟩)
                  have hk28 : KS (rnd W28 n₀ ho28.hn) ((g12, .cells #[.int .i64 cf, .int .i64 ct] 41 (0, 0)) :: (g11, .cells #[.int .i64 ct, .int .i64 x.2] 41 (0, 0)) :: (L, o) :: (g2, .cells #[.slice p ls.length cap] 22 (0, 0)) :: (g1, .cells #[.func (.yield l) #[] #[]] 95 (0, 0)) :: (oth W28 [g12, g11, L, g2, g1])) W28 := ks_oth (K := [(g12, .cells #[.int .i64 cf, .int .i64 ct] 41 (0, 0)), (g11, .cells #[.int .i64 ct, .int .i64 x.2] 41 (0, 0)), (L, o), (g2, .cells #[.slice p ls.length cap] 22 (0, 0)), (g1, .cells #[.func (.yield l) #[] #[]] 95 (0, 0))]) (fun p hp => hW28.2 p (List.mem_append_left _ hp))
                  have N28g12 := oth_ne (W := W28) (S := [g12, g11, L, g2, g1]) (g := g12) (.head _)
                  have ge28g12 : (rnd W28 n₀ ho28.hn).B ≤ g12 := ho28.ge (.head _)
                  have N28g11 := oth_ne (W := W28) (S := [g12, g11, L, g2, g1]) (g := g11) (.tail _ (.head _))
                  have ge28g11 : (rnd W28 n₀ ho28.hn).B ≤ g11 := ho28.ge (.tail _ (.head _))
                  have N28L := oth_ne (W := W28) (S := [g12, g11, L, g2, g1]) (g := L) (.tail _ (.tail _ (.head _)))
                  have ge28L : (rnd W28 n₀ ho28.hn).B ≤ L := ho28.ge (.tail _ (.tail _ (.head _)))
                  have N28g2 := oth_ne (W := W28) (S := [g12, g11, L, g2, g1]) (g := g2) (.tail _ (.tail _ (.tail _ (.head _))))
                  have ge28g2 : (rnd W28 n₀ ho28.hn).B ≤ g2 := ho28.ge (.tail _ (.tail _ (.tail _ (.head _))))
                  have N28g1 := oth_ne (W := W28) (S := [g12, g11, L, g2, g1]) (g := g1) (.tail _ (.tail _ (.tail _ (.tail _ (.head _)))))
                  have ge28g1 : (rnd W28 n₀ ho28.hn).B ≤ g1 := ho28.ge (.tail _ (.tail _ (.tail _ (.tail _ (.head _)))))
                  refine (show Code.wpIn _ _ _ _ _ _ _ from ?_)
                  refine wp_region_LI (W0 := (rnd W28 n₀ ho28.hn)) ((g12, .cells #[.int .i64 cf, .int .i64 ct] 41 (0, 0)) :: (g11, .cells #[.int .i64 ct, .int .i64 x.2] 41 (0, 0)) :: (L, o) :: (g2, .cells #[.slice p ls.length cap] 22 (0, 0)) :: (g1, .cells #[.func (.yield l) #[] #[]] 95 (0, 0)) :: (oth W28 [g12, g11, L, g2, g1])) (by kernel_rfl) (hk28) ?_
                  refine lp (v := .int .i64 ((k + 1 : Nat) : Int)) rfl rfl (run_bin rfl (vx := .int .i64 (k : Int)) (vy := .int .i64 1) (by kernel_rfl) (by kernel_rfl) fun w => run_addI (z := ((k + 1 : Nat) : Int)) rfl (by omega) w) ?_
                  refine lm (v := .int .i64 ((k + 1 : Nat) : Int)) rfl rfl ?_
                  refine wpL_done (fun W29 hW29 => ?_)
                  obtain ⟨ho29, hJ29⟩ := Tw.Own.work (O' := [g12, g11, L, g2, g1]) hJa ho28 hJ28 hW29 (fun p hp => (.tail _ (.tail _ (.tail _ (.tail _ (.tail _ hp)))))) (List.forall_mem_cons.2 ⟨.inl (.head _), (List.forall_mem_cons.2 ⟨.inl (.tail _ (.head _)), (List.forall_mem_cons.2 ⟨.inl (.tail _ (.tail _ (.head _))), (List.forall_mem_cons.2 ⟨.inl (.tail _ (.tail _ (.tail _ (.head _)))), (List.forall_mem_cons.2 ⟨.inl (.tail _ (.tail _ (.tail _ (.tail _ (.head _))))), (List.forall_mem_nil _)⟩)⟩)⟩)⟩)⟩)
                  have hk29 : KS (rnd W29 n₀ ho29.hn) ((g12, .cells #[.int .i64 cf, .int .i64 ct] 41 (0, 0)) :: (g11, .cells #[.int .i64 ct, .int .i64 x.2] 41 (0, 0)) :: (L, o) :: (g2, .cells #[.slice p ls.length cap] 22 (0, 0)) :: (g1, .cells #[.func (.yield l) #[] #[]] 95 (0, 0)) :: (oth W29 [g12, g11, L, g2, g1])) W29 := ks_oth (K := [(g12, .cells #[.int .i64 cf, .int .i64 ct] 41 (0, 0)), (g11, .cells #[.int .i64 ct, .int .i64 x.2] 41 (0, 0)), (L, o), (g2, .cells #[.slice p ls.length cap] 22 (0, 0)), (g1, .cells #[.func (.yield l) #[] #[]] 95 (0, 0))]) (fun p hp => hW29.2 p (List.mem_append_left _ hp))
                  have N29g12 := oth_ne (W := W29) (S := [g12, g11, L, g2, g1]) (g := g12) (.head _)
                  have ge29g12 : (rnd W29 n₀ ho29.hn).B ≤ g12 := ho29.ge (.head _)
                  have N29g11 := oth_ne (W := W29) (S := [g12, g11, L, g2, g1]) (g := g11) (.tail _ (.head _))
                  have ge29g11 : (rnd W29 n₀ ho29.hn).B ≤ g11 := ho29.ge (.tail _ (.head _))
                  have N29L := oth_ne (W := W29) (S := [g12, g11, L, g2, g1]) (g := L) (.tail _ (.tail _ (.head _)))
                  have ge29L : (rnd W29 n₀ ho29.hn).B ≤ L := ho29.ge (.tail _ (.tail _ (.head _)))
                  have N29g2 := oth_ne (W := W29) (S := [g12, g11, L, g2, g1]) (g := g2) (.tail _ (.tail _ (.tail _ (.head _))))
                  have ge29g2 : (rnd W29 n₀ ho29.hn).B ≤ g2 := ho29.ge (.tail _ (.tail _ (.tail _ (.head _))))
                  have N29g1 := oth_ne (W := W29) (S := [g12, g11, L, g2, g1]) (g := g1) (.tail _ (.tail _ (.tail _ (.tail _ (.head _)))))
                  have ge29g1 : (rnd W29 n₀ ho29.hn).B ≤ g1 := ho29.ge (.tail _ (.tail _ (.tail _ (.tail _ (.head _)))))
                  go_roundw
                  case rel =>
                    repeat apply Exists.intro
                    exact ⟨⟨k + 1, ct, os2, _, by rw [hfull, if_neg hbr, if_neg hga]; simp, by omega, rfl, ho29.fewer (List.forall_mem_cons.2 ⟨(.tail _ (.head _)), (List.forall_mem_cons.2 ⟨(.tail _ (.tail _ (.head _))), (List.forall_mem_cons.2 ⟨(.tail _ (.tail _ (.tail _ (.head _)))), (List.forall_mem_cons.2 ⟨(.tail _ (.tail _ (.tail _ (.tail _ (.head _))))), (List.forall_mem_nil _)⟩)⟩)⟩)⟩), hJ29, (List.forall_mem_cons.2 ⟨hk29.2 _ (.tail _ (.head _)), (List.forall_mem_cons.2 ⟨hk29.2 _ (.tail _ (.tail _ (.head _))), (List.forall_mem_cons.2 ⟨hk29.2 _ (.tail _ (.tail _ (.tail _ (.head _)))), (List.forall_mem_cons.2 ⟨hk29.2 _ (.tail _ (.tail _ (.tail _ (.tail _ (.head _))))), (List.forall_mem_nil _)⟩)⟩)⟩)⟩)⟩, rfl⟩
                  case measure => (show (ls.length - intOf (.int .i64 ((k + 1 : Nat) : Int))).toNat < (ls.length - intOf (.int .i64 (k : Int))).toNat); simp only [intOf]; omega
            · have hnil : ls.drop k = [] := List.drop_eq_nil_of_le (by omega)
              rw [hnil] at hfull
              have hlast : withoutL closed xs = os2 ++ (lastL f x.2 ++ withoutL ls (xs.drop (pre.length + 1))) := hfull
              by_cases he : x.2 ≤ f
              · have hem := fun W => empty_any f x.2 W
                rw [decide_eq_true he] at hem
                refine wpIn_seq ?_
                refine wp_region_LI (W0 := (rnd wr n₀ hom.hn)) ((g11, .cells #[.int .i64 f, .int .i64 x.2] 41 (0, 0)) :: (L, o) :: (g2, .cells #[.slice p ls.length cap] 22 (0, 0)) :: (g1, .cells #[.func (.yield l) #[] #[]] 95 (0, 0)) :: (oth wr [g11, L, g2, g1])) (by kernel_rfl) (hkm) ?_
                refine lp (v := .bool false) rfl rfl (run_bin rfl (vx := .int .i64 (k : Int)) (vy := .int .i64 (ls.length : Int)) (by kernel_rfl) (by kernel_rfl) fun w => run_lssI (decide_eq_false (by omega)) w) ?_
                refine wpL_done (fun W24 hW24 => ?_)
                obtain ⟨ho24, hJ24⟩ := Tw.Own.work (O' := [g11, L, g2, g1]) hJa hom hJm hW24 (fun p hp => (.tail _ (.tail _ (.tail _ (.tail _ hp))))) (List.forall_mem_cons.2 ⟨.inl (.head _), (List.forall_mem_cons.2 ⟨.inl (.tail _ (.head _)), (List.forall_mem_cons.2 ⟨.inl (.tail _ (.tail _ (.head _))), (List.forall_mem_cons.2 ⟨.inl (.tail _ (.tail _ (.tail _ (.head _)))), (List.forall_mem_nil _)⟩)⟩)⟩)⟩)
                have hk24 : KS (rnd W24 n₀ ho24.hn) ((g11, .cells #[.int .i64 f, .int .i64 x.2] 41 (0, 0)) :: (L, o) :: (g2, .cells #[.slice p ls.length cap] 22 (0, 0)) :: (g1, .cells #[.func (.yield l) #[] #[]] 95 (0, 0)) :: (oth W24 [g11, L, g2, g1])) W24 := ks_oth (K := [(g11, .cells #[.int .i64 f, .int .i64 x.2] 41 (0, 0)), (L, o), (g2, .cells #[.slice p ls.length cap] 22 (0, 0)), (g1, .cells #[.func (.yield l) #[] #[]] 95 (0, 0))]) (fun p hp => hW24.2 p (List.mem_append_left _ hp))
                have N24g11 := oth_ne (W := W24) (S := [g11, L, g2, g1]) (g := g11) (.head _)
                have ge24g11 : (rnd W24 n₀ ho24.hn).B ≤ g11 := ho24.ge (.head _)
                have N24L := oth_ne (W := W24) (S := [g11, L, g2, g1]) (g := L) (.tail _ (.head _))
                have ge24L : (rnd W24 n₀ ho24.hn).B ≤ L := ho24.ge (.tail _ (.head _))
                have N24g2 := oth_ne (W := W24) (S := [g11, L, g2, g1]) (g := g2) (.tail _ (.tail _ (.head _)))
                have ge24g2 : (rnd W24 n₀ ho24.hn).B ≤ g2 := ho24.ge (.tail _ (.tail _ (.head _)))
                have N24g1 := oth_ne (W := W24) (S := [g11, L, g2, g1]) (g := g1) (.tail _ (.tail _ (.tail _ (.head _))))
                have ge24g1 : (rnd W24 n₀ ho24.hn).B ≤ g1 := ho24.ge (.tail _ (.tail _ (.tail _ (.head _))))
                refine (show Code.wpIn _ _ _ _ _ _ _ from ?_)
                refine wpIn_seq ?_
                refine wpIn_cond_false rfl ?_
                refine wpIn_exit ?_
                refine (show Code.wpIn _ _ _ _ _ _ _ from ?_)
                refine wpIn_seq ?_
                refine wp_region_LI (W0 := (rnd W24 n₀ ho24.hn)) ((g11, .cells #[.int .i64 f, .int .i64 x.2] 41 (0, 0)) :: (L, o) :: (g2, .cells #[.slice p ls.length cap] 22 (0, 0)) :: (g1, .cells #[.func (.yield l) #[] #[]] 95 (0, 0)) :: (oth W24 [g11, L, g2, g1])) (by kernel_rfl) (hk24) ?_
                refine lv (v := .agg #[.int .i64 f, .int .i64 x.2]) rfl rfl (yb_load (n := 2) (off := 0) rfl (by kernel_rfl) (.head _) Tryd.underlying41 rfl size_span (by simp) (by kernel_rfl)) ?_
                refine lv (v := .bool true) rfl rfl (yb_call (f := 60) (args := #[.agg #[.int .i64 f, .int .i64 x.2]]) (fun _ => by kernel_rfl) fun W hW => hem W) ?_
                refine lm (v := .bool false) rfl rfl ?_
                refine lm (v := .bool false) rfl rfl ?_
                refine ln rfl ?_
                refine ln rfl ?_
                refine ln rfl ?_
                refine ln rfl ?_
                refine lm (v := .bool false) rfl rfl ?_
                refine wpL_done (fun W25 hW25 => ?_)
                obtain ⟨ho25, hJ25⟩ := Tw.Own.work (O' := [g11, L, g2, g1]) hJa ho24 hJ24 hW25 (fun p hp => (.tail _ (.tail _ (.tail _ (.tail _ hp))))) (List.forall_mem_cons.2 ⟨.inl (.head _), (List.forall_mem_cons.2 ⟨.inl (.tail _ (.head _)), (List.forall_mem_cons.2 ⟨.inl (.tail _ (.tail _ (.head _))), (List.forall_mem_cons.2 ⟨.inl (.tail _ (.tail _ (.tail _ (.head _)))), (List.forall_mem_nil _)⟩)⟩)⟩)⟩)
                have hk25 : KS (rnd W25 n₀ ho25.hn) ((g11, .cells #[.int .i64 f, .int .i64 x.2] 41 (0, 0)) :: (L, o) :: (g2, .cells #[.slice p ls.length cap] 22 (0, 0)) :: (g1, .cells #[.func (.yield l) #[] #[]] 95 (0, 0)) :: (oth W25 [g11, L, g2, g1])) W25 := ks_oth (K := [(g11, .cells #[.int .i64 f, .int .i64 x.2] 41 (0, 0)), (L, o), (g2, .cells #[.slice p ls.length cap] 22 (0, 0)), (g1, .cells #[.func (.yield l) #[] #[]] 95 (0, 0))]) (fun p hp => hW25.2 p (List.mem_append_left _ hp))
                have N25g11 := oth_ne (W := W25) (S := [g11, L, g2, g1]) (g := g11) (.head _)
                have ge25g11 : (rnd W25 n₀ ho25.hn).B ≤ g11 := ho25.ge (.head _)
                have N25L := oth_ne (W := W25) (S := [g11, L, g2, g1]) (g := L) (.tail _ (.head _))
                have ge25L : (rnd W25 n₀ ho25.hn).B ≤ L := ho25.ge (.tail _ (.head _))
                have N25g2 := oth_ne (W := W25) (S := [g11, L, g2, g1]) (g := g2) (.tail _ (.tail _ (.head _)))
                have ge25g2 : (rnd W25 n₀ ho25.hn).B ≤ g2 := ho25.ge (.tail _ (.tail _ (.head _)))
                have N25g1 := oth_ne (W := W25) (S := [g11, L, g2, g1]) (g := g1) (.tail _ (.tail _ (.tail _ (.head _))))
                have ge25g1 : (rnd W25 n₀ ho25.hn).B ≤ g1 := ho25.ge (.tail _ (.tail _ (.tail _ (.head _))))
                refine (show Code.wpIn _ _ _ _ _ _ _ from ?_)
                refine wpIn_cond_false rfl ?_
                refine wpIn_skip ?_
                exact round_end (Ix := WX Jx g1 g2) (a := ⟨#[], []⟩) (O := [g2, g1]) (ho25.fewer (O' := [L, g2, g1]) (List.forall_mem_cons.2 ⟨(.tail _ (.head _)), (List.forall_mem_cons.2 ⟨(.tail _ (.tail _ (.head _))), (List.forall_mem_cons.2 ⟨(.tail _ (.tail _ (.tail _ (.head _)))), (List.forall_mem_nil _)⟩)⟩)⟩)) (hk25.2 _ (.tail _ (.head _))) (by simp only [List.mem_cons, List.not_mem_nil, or_false, not_or]; exact ⟨nL.1, nL.2.1⟩) ⟨_, _, ls, p, cap, rfl, by rw [List.length_append]; rw [hlast, lastL, if_pos he]; simp, hll, hJ25, hAV, hWr.trans ho25.below, (ho25.apart g2 (.tail _ (.tail _ (.head _)))).2, (ho25.apart g1 (.tail _ (.tail _ (.tail _ (.head _))))).2, ho25.lo, hk25.2 _ (.tail _ (.tail _ (.head _))), hk25.2 _ (.tail _ (.tail _ (.tail _ (.head _))))⟩
              · have hem := fun W => empty_any f x.2 W
                rw [decide_eq_false he] at hem
                refine wpIn_seq ?_
                refine wp_region_LI (W0 := (rnd wr n₀ hom.hn)) ((g11, .cells #[.int .i64 f, .int .i64 x.2] 41 (0, 0)) :: (L, o) :: (g2, .cells #[.slice p ls.length cap] 22 (0, 0)) :: (g1, .cells #[.func (.yield l) #[] #[]] 95 (0, 0)) :: (oth wr [g11, L, g2, g1])) (by kernel_rfl) (hkm) ?_
                refine lp (v := .bool false) rfl rfl (run_bin rfl (vx := .int .i64 (k : Int)) (vy := .int .i64 (ls.length : Int)) (by kernel_rfl) (by kernel_rfl) fun w => run_lssI (decide_eq_false (by omega)) w) ?_
                refine wpL_done (fun W24 hW24 => ?_)
                obtain ⟨ho24, hJ24⟩ := Tw.Own.work (O' := [g11, L, g2, g1]) hJa hom hJm hW24 (fun p hp => (.tail _ (.tail _ (.tail _ (.tail _ hp))))) (List.forall_mem_cons.2 ⟨.inl (.head _), (List.forall_mem_cons.2 ⟨.inl (.tail _ (.head _)), (List.forall_mem_cons.2 ⟨.inl (.tail _ (.tail _ (.head _))), (List.forall_mem_cons.2 ⟨.inl (.tail _ (.tail _ (.tail _ (.head _)))), (List.forall_mem_nil _)⟩)⟩)⟩)⟩)
                have hk24 : KS (rnd W24 n₀ ho24.hn) ((g11, .cells #[.int .i64 f, .int .i64 x.2] 41 (0, 0)) :: (L, o) :: (g2, .cells #[.slice p ls.length cap] 22 (0, 0)) :: (g1, .cells #[.func (.yield l) #[] #[]] 95 (0, 0)) :: (oth W24 [g11, L, g2, g1])) W24 := ks_oth (K := [(g11, .cells #[.int .i64 f, .int .i64 x.2] 41 (0, 0)), (L, o), (g2, .cells #[.slice p ls.length cap] 22 (0, 0)), (g1, .cells #[.func (.yield l) #[] #[]] 95 (0, 0))]) (fun p hp => hW24.2 p (List.mem_append_left _ hp))
                have N24g11 := oth_ne (W := W24) (S := [g11, L, g2, g1]) (g := g11) (.head _)
                have ge24g11 : (rnd W24 n₀ ho24.hn).B ≤ g11 := ho24.ge (.head _)
                have N24L := oth_ne (W := W24) (S := [g11, L, g2, g1]) (g := L) (.tail _ (.head _))
                have ge24L : (rnd W24 n₀ ho24.hn).B ≤ L := ho24.ge (.tail _ (.head _))
                have N24g2 := oth_ne (W := W24) (S := [g11, L, g2, g1]) (g := g2) (.tail _ (.tail _ (.head _)))
                have ge24g2 : (rnd W24 n₀ ho24.hn).B ≤ g2 := ho24.ge (.tail _ (.tail _ (.head _)))
                have N24g1 := oth_ne (W := W24) (S := [g11, L, g2, g1]) (g := g1) (.tail _ (.tail _ (.tail _ (.head _))))
                have ge24g1 : (rnd W24 n₀ ho24.hn).B ≤ g1 := ho24.ge (.tail _ (.tail _ (.tail _ (.head _))))
                refine (show Code.wpIn _ _ _ _ _ _ _ from ?_)
                refine wpIn_seq ?_
                refine wpIn_cond_false rfl ?_
                refine wpIn_exit ?_
                refine (show Code.wpIn _ _ _ _ _ _ _ from ?_)
                refine wpIn_seq ?_
                refine wp_region_S (W0 := (rnd W24 n₀ ho24.hn)) (List.take 6 _) (List.drop 6 _) ((g11, .cells #[.int .i64 f, .int .i64 x.2] 41 (0, 0)) :: (L, o) :: (g2, .cells #[.slice p ls.length cap] 22 (0, 0)) :: (g1, .cells #[.func (.yield l) #[] #[]] 95 (0, 0)) :: (oth W24 [g11, L, g2, g1])) (List.take_append_drop 6 _).symm (by kernel_rfl) (hk24) ?_
                simp only [List.take_succ_cons, List.take_zero, List.drop_succ_cons, List.drop_zero]
                refine lv (v := .agg #[.int .i64 f, .int .i64 x.2]) rfl rfl (yb_load (n := 2) (off := 0) rfl (by kernel_rfl) (.head _) Tryd.underlying41 rfl size_span (by simp) (by kernel_rfl)) ?_
                refine lv (v := .bool false) rfl rfl (yb_call (f := 60) (args := #[.agg #[.int .i64 f, .int .i64 x.2]]) (fun _ => by kernel_rfl) fun W hW => hem W) ?_
                refine lm (v := .bool true) rfl rfl ?_
                refine lm (v := .bool true) rfl rfl ?_
                refine lv (v := .func (.yield l) #[] #[]) rfl rfl (yb_loadc (off := 0) rfl (by kernel_rfl) (.tail _ (.tail _ (.tail _ (.head _)))) Tryd.underlying95 rfl (by kernel_rfl)) ?_
                refine lv (v := .agg #[.int .i64 f, .int .i64 x.2]) rfl rfl (yb_load (n := 2) (off := 0) rfl (by kernel_rfl) (.head _) Tryd.underlying41 rfl size_span (by simp) (by kernel_rfl)) ?_
                refine wpL_done (fun W25 hW25 => ?_)
                obtain ⟨ho25, hJ25⟩ := Tw.Own.work (O' := [g11, L, g2, g1]) hJa ho24 hJ24 hW25 (fun p hp => (.tail _ (.tail _ (.tail _ (.tail _ hp))))) (List.forall_mem_cons.2 ⟨.inl (.head _), (List.forall_mem_cons.2 ⟨.inl (.tail _ (.head _)), (List.forall_mem_cons.2 ⟨.inl (.tail _ (.tail _ (.head _))), (List.forall_mem_cons.2 ⟨.inl (.tail _ (.tail _ (.tail _ (.head _)))), (List.forall_mem_nil _)⟩)⟩)⟩)⟩)
                have hk25 : KS (rnd W25 n₀ ho25.hn) ((g11, .cells #[.int .i64 f, .int .i64 x.2] 41 (0, 0)) :: (L, o) :: (g2, .cells #[.slice p ls.length cap] 22 (0, 0)) :: (g1, .cells #[.func (.yield l) #[] #[]] 95 (0, 0)) :: (oth W25 [g11, L, g2, g1])) W25 := ks_oth (K := [(g11, .cells #[.int .i64 f, .int .i64 x.2] 41 (0, 0)), (L, o), (g2, .cells #[.slice p ls.length cap] 22 (0, 0)), (g1, .cells #[.func (.yield l) #[] #[]] 95 (0, 0))]) (fun p hp => hW25.2 p (List.mem_append_left _ hp))
                have N25g11 := oth_ne (W := W25) (S := [g11, L, g2, g1]) (g := g11) (.head _)
                have ge25g11 : (rnd W25 n₀ ho25.hn).B ≤ g11 := ho25.ge (.head _)
                have N25L := oth_ne (W := W25) (S := [g11, L, g2, g1]) (g := L) (.tail _ (.head _))
                have ge25L : (rnd W25 n₀ ho25.hn).B ≤ L := ho25.ge (.tail _ (.head _))
                have N25g2 := oth_ne (W := W25) (S := [g11, L, g2, g1]) (g := g2) (.tail _ (.tail _ (.head _)))
                have ge25g2 : (rnd W25 n₀ ho25.hn).B ≤ g2 := ho25.ge (.tail _ (.tail _ (.head _)))
                have N25g1 := oth_ne (W := W25) (S := [g11, L, g2, g1]) (g := g1) (.tail _ (.tail _ (.tail _ (.head _))))
                have ge25g1 : (rnd W25 n₀ ho25.hn).B ≤ g1 := ho25.ge (.tail _ (.tail _ (.tail _ (.head _))))
                refine (show wpListIn _ _ _ _ _ _ _ _ from ?_)
                have hYY := yieldF (m := 0) (r := (some L)) (hYd os2 (f, x.2) _ W25 hJ25 ho25.mem (pre_of (rest := withoutL ls (xs.drop (pre.length + 1))) (by rw [hlast, lastL, if_neg he]; simp)))
                refine wpl_yield rfl rfl (by kernel_rfl) (by kernel_rfl) (by kernel_rfl) rfl hYY (by simp only [List.setIfInBounds_toArray, List.set_cons_succ, List.set_cons_zero] <;> rfl) (by simp only [List.setIfInBounds_toArray, List.set_cons_succ, List.set_cons_zero] <;> rfl) (fun W26 hA26 => ?_) (fun W26 hX26 => ?_)
                · obtain ⟨Sy, hFy, hJy26⟩ := hA26
                  have hoy26 := ho25.yielded hFy
                  have hq26 := ho25.kept (K := [(g11, .cells #[.int .i64 f, .int .i64 x.2] 41 (0, 0)), (L, o), (g2, .cells #[.slice p ls.length cap] 22 (0, 0)), (g1, .cells #[.func (.yield l) #[] #[]] 95 (0, 0))]) hFy (fun p hp => hk25.2 p (List.mem_append_left _ hp)) (List.forall_mem_cons.2 ⟨.inl (.head _), (List.forall_mem_cons.2 ⟨.inl (.tail _ (.head _)), (List.forall_mem_cons.2 ⟨.inl (.tail _ (.tail _ (.head _))), (List.forall_mem_cons.2 ⟨.inl (.tail _ (.tail _ (.tail _ (.head _)))), (List.forall_mem_nil _)⟩)⟩)⟩)⟩)
                  have hk26 : KS (rnd W26 n₀ hoy26.hn) ((g11, .cells #[.int .i64 f, .int .i64 x.2] 41 (0, 0)) :: (L, o) :: (g2, .cells #[.slice p ls.length cap] 22 (0, 0)) :: (g1, .cells #[.func (.yield l) #[] #[]] 95 (0, 0)) :: (oth W26 [g11, L, g2, g1])) W26 := ks_oth (K := [(g11, .cells #[.int .i64 f, .int .i64 x.2] 41 (0, 0)), (L, o), (g2, .cells #[.slice p ls.length cap] 22 (0, 0)), (g1, .cells #[.func (.yield l) #[] #[]] 95 (0, 0))]) hq26
                  have N26g11 := oth_ne (W := W26) (S := [g11, L, g2, g1]) (g := g11) (.head _)
                  have ge26g11 : (rnd W26 n₀ hoy26.hn).B ≤ g11 := hoy26.ge (.head _)
                  have N26L := oth_ne (W := W26) (S := [g11, L, g2, g1]) (g := L) (.tail _ (.head _))
                  have ge26L : (rnd W26 n₀ hoy26.hn).B ≤ L := hoy26.ge (.tail _ (.head _))
                  have N26g2 := oth_ne (W := W26) (S := [g11, L, g2, g1]) (g := g2) (.tail _ (.tail _ (.head _)))
                  have ge26g2 : (rnd W26 n₀ hoy26.hn).B ≤ g2 := hoy26.ge (.tail _ (.tail _ (.head _)))
                  have N26g1 := oth_ne (W := W26) (S := [g11, L, g2, g1]) (g := g1) (.tail _ (.tail _ (.tail _ (.head _))))
                  have ge26g1 : (rnd W26 n₀ hoy26.hn).B ≤ g1 := hoy26.ge (.tail _ (.tail _ (.tail _ (.head _))))
                  refine wpl_rest (W0 := (rnd W26 n₀ hoy26.hn)) ((g11, .cells #[.int .i64 f, .int .i64 x.2] 41 (0, 0)) :: (L, o) :: (g2, .cells #[.slice p ls.length cap] 22 (0, 0)) :: (g1, .cells #[.func (.yield l) #[] #[]] 95 (0, 0)) :: (oth W26 [g11, L, g2, g1])) (by kernel_rfl) (hk26) ?_
                  refine lm (v := .bool false) rfl rfl ?_
                  refine lm (v := .bool false) rfl rfl ?_
                  refine wpL_done (fun W27 hW27 => ?_)
                  obtain ⟨ho27, hJ27⟩ := Tw.Own.work (O' := [g11, L, g2, g1]) hJa hoy26 hJy26 hW27 (fun p hp => (.tail _ (.tail _ (.tail _ (.tail _ hp))))) (List.forall_mem_cons.2 ⟨.inl (.head _), (List.forall_mem_cons.2 ⟨.inl (.tail _ (.head _)), (List.forall_mem_cons.2 ⟨.inl (.tail _ (.tail _ (.head _))), (List.forall_mem_cons.2 ⟨.inl (.tail _ (.tail _ (.tail _ (.head _)))), (List.forall_mem_nil _)⟩)⟩)⟩)⟩)
                  have hk27 : KS (rnd W27 n₀ ho27.hn) ((g11, .cells #[.int .i64 f, .int .i64 x.2] 41 (0, 0)) :: (L, o) :: (g2, .cells #[.slice p ls.length cap] 22 (0, 0)) :: (g1, .cells #[.func (.yield l) #[] #[]] 95 (0, 0)) :: (oth W27 [g11, L, g2, g1])) W27 := ks_oth (K := [(g11, .cells #[.int .i64 f, .int .i64 x.2] 41 (0, 0)), (L, o), (g2, .cells #[.slice p ls.length cap] 22 (0, 0)), (g1, .cells #[.func (.yield l) #[] #[]] 95 (0, 0))]) (fun p hp => hW27.2 p (List.mem_append_left _ hp))
                  have N27g11 := oth_ne (W := W27) (S := [g11, L, g2, g1]) (g := g11) (.head _)
                  have ge27g11 : (rnd W27 n₀ ho27.hn).B ≤ g11 := ho27.ge (.head _)
                  have N27L := oth_ne (W := W27) (S := [g11, L, g2, g1]) (g := L) (.tail _ (.head _))
                  have ge27L : (rnd W27 n₀ ho27.hn).B ≤ L := ho27.ge (.tail _ (.head _))
                  have N27g2 := oth_ne (W := W27) (S := [g11, L, g2, g1]) (g := g2) (.tail _ (.tail _ (.head _)))
                  have ge27g2 : (rnd W27 n₀ ho27.hn).B ≤ g2 := ho27.ge (.tail _ (.tail _ (.head _)))
                  have N27g1 := oth_ne (W := W27) (S := [g11, L, g2, g1]) (g := g1) (.tail _ (.tail _ (.tail _ (.head _))))
                  have ge27g1 : (rnd W27 n₀ ho27.hn).B ≤ g1 := ho27.ge (.tail _ (.tail _ (.tail _ (.head _))))
                  refine (show Code.wpIn _ _ _ _ _ _ _ from ?_)
                  refine wpIn_cond_false rfl ?_
                  refine wpIn_skip ?_
                  exact round_end (Ix := WX Jx g1 g2) (a := ⟨#[], []⟩) (O := [g2, g1]) (ho27.fewer (O' := [L, g2, g1]) (List.forall_mem_cons.2 ⟨(.tail _ (.head _)), (List.forall_mem_cons.2 ⟨(.tail _ (.tail _ (.head _))), (List.forall_mem_cons.2 ⟨(.tail _ (.tail _ (.tail _ (.head _)))), (List.forall_mem_nil _)⟩)⟩)⟩)) (hk27.2 _ (.tail _ (.head _))) (by simp only [List.mem_cons, List.not_mem_nil, or_false, not_or]; exact ⟨nL.1, nL.2.1⟩) ⟨_, _, ls, p, cap, rfl, by rw [List.length_append]; rw [hlast, lastL, if_neg he]; simp, hll, hJ27, hAV, hWr.trans ho27.below, (ho27.apart g2 (.tail _ (.tail _ (.head _)))).2, (ho27.apart g1 (.tail _ (.tail _ (.tail _ (.head _))))).2, ho27.lo, hk27.2 _ (.tail _ (.tail _ (.head _))), hk27.2 _ (.tail _ (.tail _ (.tail _ (.head _))))⟩
                · obtain ⟨Sy, hFy, hJy26⟩ := hX26
                  have hoy26 := ho25.yielded hFy
                  have hq26 := ho25.kept (K := [(g11, .cells #[.int .i64 f, .int .i64 x.2] 41 (0, 0)), (L, o), (g2, .cells #[.slice p ls.length cap] 22 (0, 0)), (g1, .cells #[.func (.yield l) #[] #[]] 95 (0, 0))]) hFy (fun p hp => hk25.2 p (List.mem_append_left _ hp)) (List.forall_mem_cons.2 ⟨.inl (.head _), (List.forall_mem_cons.2 ⟨.inl (.tail _ (.head _)), (List.forall_mem_cons.2 ⟨.inl (.tail _ (.tail _ (.head _))), (List.forall_mem_cons.2 ⟨.inl (.tail _ (.tail _ (.tail _ (.head _)))), (List.forall_mem_nil _)⟩)⟩)⟩)⟩)
                  have hk26 : KS (rnd W26 n₀ hoy26.hn) ((g11, .cells #[.int .i64 f, .int .i64 x.2] 41 (0, 0)) :: (L, o) :: (g2, .cells #[.slice p ls.length cap] 22 (0, 0)) :: (g1, .cells #[.func (.yield l) #[] #[]] 95 (0, 0)) :: (oth W26 [g11, L, g2, g1])) W26 := ks_oth (K := [(g11, .cells #[.int .i64 f, .int .i64 x.2] 41 (0, 0)), (L, o), (g2, .cells #[.slice p ls.length cap] 22 (0, 0)), (g1, .cells #[.func (.yield l) #[] #[]] 95 (0, 0))]) hq26
                  have N26g11 := oth_ne (W := W26) (S := [g11, L, g2, g1]) (g := g11) (.head _)
                  have ge26g11 : (rnd W26 n₀ hoy26.hn).B ≤ g11 := hoy26.ge (.head _)
                  have N26L := oth_ne (W := W26) (S := [g11, L, g2, g1]) (g := L) (.tail _ (.head _))
                  have ge26L : (rnd W26 n₀ hoy26.hn).B ≤ L := hoy26.ge (.tail _ (.head _))
                  have N26g2 := oth_ne (W := W26) (S := [g11, L, g2, g1]) (g := g2) (.tail _ (.tail _ (.head _)))
                  have ge26g2 : (rnd W26 n₀ hoy26.hn).B ≤ g2 := hoy26.ge (.tail _ (.tail _ (.head _)))
                  have N26g1 := oth_ne (W := W26) (S := [g11, L, g2, g1]) (g := g1) (.tail _ (.tail _ (.tail _ (.head _))))
                  have ge26g1 : (rnd W26 n₀ hoy26.hn).B ≤ g1 := hoy26.ge (.tail _ (.tail _ (.tail _ (.head _))))
                  refine wpl_rest (W0 := (rnd W26 n₀ hoy26.hn)) ((g11, .cells #[.int .i64 f, .int .i64 x.2] 41 (0, 0)) :: (L, o) :: (g2, .cells #[.slice p ls.length cap] 22 (0, 0)) :: (g1, .cells #[.func (.yield l) #[] #[]] 95 (0, 0)) :: (oth W26 [g11, L, g2, g1])) (by kernel_rfl) (hk26) ?_
                  refine lm (v := .bool true) rfl rfl ?_
                  refine lm (v := .bool true) rfl rfl ?_
                  refine wpL_done (fun W27 hW27 => ?_)
                  obtain ⟨ho27, hJ27⟩ := Tw.Own.work (O' := [g11, L, g2, g1]) hJxa hoy26 hJy26 hW27 (fun p hp => (.tail _ (.tail _ (.tail _ (.tail _ hp))))) (List.forall_mem_cons.2 ⟨.inl (.head _), (List.forall_mem_cons.2 ⟨.inl (.tail _ (.head _)), (List.forall_mem_cons.2 ⟨.inl (.tail _ (.tail _ (.head _))), (List.forall_mem_cons.2 ⟨.inl (.tail _ (.tail _ (.tail _ (.head _)))), (List.forall_mem_nil _)⟩)⟩)⟩)⟩)
                  have hk27 : KS (rnd W27 n₀ ho27.hn) ((g11, .cells #[.int .i64 f, .int .i64 x.2] 41 (0, 0)) :: (L, o) :: (g2, .cells #[.slice p ls.length cap] 22 (0, 0)) :: (g1, .cells #[.func (.yield l) #[] #[]] 95 (0, 0)) :: (oth W27 [g11, L, g2, g1])) W27 := ks_oth (K := [(g11, .cells #[.int .i64 f, .int .i64 x.2] 41 (0, 0)), (L, o), (g2, .cells #[.slice p ls.length cap] 22 (0, 0)), (g1, .cells #[.func (.yield l) #[] #[]] 95 (0, 0))]) (fun p hp => hW27.2 p (List.mem_append_left _ hp))
                  have N27g11 := oth_ne (W := W27) (S := [g11, L, g2, g1]) (g := g11) (.head _)
                  have ge27g11 : (rnd W27 n₀ ho27.hn).B ≤ g11 := ho27.ge (.head _)
                  have N27L := oth_ne (W := W27) (S := [g11, L, g2, g1]) (g := L) (.tail _ (.head _))
                  have ge27L : (rnd W27 n₀ ho27.hn).B ≤ L := ho27.ge (.tail _ (.head _))
                  have N27g2 := oth_ne (W := W27) (S := [g11, L, g2, g1]) (g := g2) (.tail _ (.tail _ (.head _)))
                  have ge27g2 : (rnd W27 n₀ ho27.hn).B ≤ g2 := ho27.ge (.tail _ (.tail _ (.head _)))
                  have N27g1 := oth_ne (W := W27) (S := [g11, L, g2, g1]) (g := g1) (.tail _ (.tail _ (.tail _ (.head _))))
                  have ge27g1 : (rnd W27 n₀ ho27.hn).B ≤ g1 := ho27.ge (.tail _ (.tail _ (.tail _ (.head _))))
                  refine (show Code.wpIn _ _ _ _ _ _ _ from ?_)
                  refine wpIn_cond_true rfl ?_
                  refine wpIn_ret ?_
                  try simp only [inBlock_ret, then_ret]
                  exact round_stop (I := WI J n₀ g1 g2 l W1 closed xs) (a := ⟨#[], []⟩) (O := [g2, g1]) (ho27.fewer (O' := [L, g2, g1]) (List.forall_mem_cons.2 ⟨(.tail _ (.head _)), (List.forall_mem_cons.2 ⟨(.tail _ (.tail _ (.head _))), (List.forall_mem_cons.2 ⟨(.tail _ (.tail _ (.tail _ (.head _)))), (List.forall_mem_nil _)⟩)⟩)⟩)) (hk27.2 _ (.tail _ (.head _))) (by simp only [List.mem_cons, List.not_mem_nil, or_false, not_or]; exact ⟨nL.1, nL.2.1⟩) ⟨_, _, rfl, hJ27⟩
      · have hnil0 : ls = [] := List.eq_nil_of_length_eq_zero (by omega)
        have hls : skipL x.1 ls0 = ls := by rw [hsk, hnil0]; rfl
        refine wpIn_seq ?_
        refine wpIn_seq ?_
        refine wp_region_VI (W0 := (rnd wr n₀ hol.hn)) ((g11, .cells #[.int .i64 x.1, .int .i64 x.2] 41 (0, 0)) :: (L, o) :: (g2, .cells #[.slice p ls.length cap] 22 (0, 0)) :: (g1, .cells #[.func (.yield l) #[] #[]] 95 (0, 0)) :: (oth wr [g11, L, g2, g1])) (by kernel_rfl) (by kernel_rfl) (hkl) ?_
        refine vv (i := 0) (v := .slice p ls.length cap) rfl rfl rfl (yb_loadc (off := 0) rfl (by kernel_rfl) (.tail _ (.tail _ (.head _))) Tryd.underlying22 rfl (by kernel_rfl)) ?_
        refine vm (i := 1) (v := .int .i64 (ls.length : Int)) rfl rfl rfl ?_
        refine vp (i := 2) (v := .bool false) rfl rfl rfl (run_bin rfl (vx := .int .i64 (ls.length : Int)) (vy := .int .i64 0) (by kernel_rfl) (by kernel_rfl) fun w => run_gtrI (decide_eq_false (by omega)) w) ?_
        refine vm (i := 3) (v := .bool false) rfl rfl rfl ?_
        refine vn (i := 4) rfl rfl ?_
        refine vn (i := 5) rfl rfl ?_
        refine vn (i := 6) rfl rfl ?_
        refine vn (i := 7) rfl rfl ?_
        refine vn (i := 8) rfl rfl ?_
        refine vn (i := 9) rfl rfl ?_
        refine vn (i := 10) rfl rfl ?_
        refine vm (i := 11) (v := .bool false) rfl rfl rfl ?_
        refine wpV_done (by kernel_rfl) (fun W22 hW22 => ?_) _
        obtain ⟨ho22, hJ22⟩ := Tw.Own.work (O' := [g11, L, g2, g1]) hJa hol hJl hW22 (fun p hp => (.tail _ (.tail _ (.tail _ (.tail _ hp))))) (List.forall_mem_cons.2 ⟨.inl (.head _), (List.forall_mem_cons.2 ⟨.inl (.tail _ (.head _)), (List.forall_mem_cons.2 ⟨.inl (.tail _ (.tail _ (.head _))), (List.forall_mem_cons.2 ⟨.inl (.tail _ (.tail _ (.tail _ (.head _)))), (List.forall_mem_nil _)⟩)⟩)⟩)⟩)
        have hk22 : KS (rnd W22 n₀ ho22.hn) ((g11, .cells #[.int .i64 x.1, .int .i64 x.2] 41 (0, 0)) :: (L, o) :: (g2, .cells #[.slice p ls.length cap] 22 (0, 0)) :: (g1, .cells #[.func (.yield l) #[] #[]] 95 (0, 0)) :: (oth W22 [g11, L, g2, g1])) W22 := ks_oth (K := [(g11, .cells #[.int .i64 x.1, .int .i64 x.2] 41 (0, 0)), (L, o), (g2, .cells #[.slice p ls.length cap] 22 (0, 0)), (g1, .cells #[.func (.yield l) #[] #[]] 95 (0, 0))]) (fun p hp => hW22.2 p (List.mem_append_left _ hp))
        have N22g11 := oth_ne (W := W22) (S := [g11, L, g2, g1]) (g := g11) (.head _)
        have ge22g11 : (rnd W22 n₀ ho22.hn).B ≤ g11 := ho22.ge (.head _)
        have N22L := oth_ne (W := W22) (S := [g11, L, g2, g1]) (g := L) (.tail _ (.head _))
        have ge22L : (rnd W22 n₀ ho22.hn).B ≤ L := ho22.ge (.tail _ (.head _))
        have N22g2 := oth_ne (W := W22) (S := [g11, L, g2, g1]) (g := g2) (.tail _ (.tail _ (.head _)))
        have ge22g2 : (rnd W22 n₀ ho22.hn).B ≤ g2 := ho22.ge (.tail _ (.tail _ (.head _)))
        have N22g1 := oth_ne (W := W22) (S := [g11, L, g2, g1]) (g := g1) (.tail _ (.tail _ (.tail _ (.head _))))
        have ge22g1 : (rnd W22 n₀ ho22.hn).B ≤ g1 := ho22.ge (.tail _ (.tail _ (.tail _ (.head _))))
        refine (show Code.wpIn _ _ _ _ _ _ _ from ?_)
        refine wpIn_cond_false rfl ?_
        refine wpIn_exit ?_
        refine (show Code.wpIn _ _ _ _ _ _ _ from ?_)
        refine wpIn_seq ?_
        refine wpIn_seq ?_
        refine wp_region_LI (W0 := (rnd W22 n₀ ho22.hn)) ((g11, .cells #[.int .i64 x.1, .int .i64 x.2] 41 (0, 0)) :: (L, o) :: (g2, .cells #[.slice p ls.length cap] 22 (0, 0)) :: (g1, .cells #[.func (.yield l) #[] #[]] 95 (0, 0)) :: (oth W22 [g11, L, g2, g1])) (by kernel_rfl) (hk22) ?_
        refine lv (v := .slice p ls.length cap) rfl rfl (yb_loadc (off := 0) rfl (by kernel_rfl) (.tail _ (.tail _ (.head _))) Tryd.underlying22 rfl (by kernel_rfl)) ?_
        refine lm (v := .int .i64 (ls.length : Int)) rfl rfl ?_
        refine lm (v := .int .i64 0) rfl rfl ?_
        refine wpL_done (fun W23 hW23 => ?_)
        obtain ⟨ho23, hJ23⟩ := Tw.Own.work (O' := [g11, L, g2, g1]) hJa ho22 hJ22 hW23 (fun p hp => (.tail _ (.tail _ (.tail _ (.tail _ hp))))) (List.forall_mem_cons.2 ⟨.inl (.head _), (List.forall_mem_cons.2 ⟨.inl (.tail _ (.head _)), (List.forall_mem_cons.2 ⟨.inl (.tail _ (.tail _ (.head _))), (List.forall_mem_cons.2 ⟨.inl (.tail _ (.tail _ (.tail _ (.head _)))), (List.forall_mem_nil _)⟩)⟩)⟩)⟩)
        have hk23 : KS (rnd W23 n₀ ho23.hn) ((g11, .cells #[.int .i64 x.1, .int .i64 x.2] 41 (0, 0)) :: (L, o) :: (g2, .cells #[.slice p ls.length cap] 22 (0, 0)) :: (g1, .cells #[.func (.yield l) #[] #[]] 95 (0, 0)) :: (oth W23 [g11, L, g2, g1])) W23 := ks_oth (K := [(g11, .cells #[.int .i64 x.1, .int .i64 x.2] 41 (0, 0)), (L, o), (g2, .cells #[.slice p ls.length cap] 22 (0, 0)), (g1, .cells #[.func (.yield l) #[] #[]] 95 (0, 0))]) (fun p hp => hW23.2 p (List.mem_append_left _ hp))
        have N23g11 := oth_ne (W := W23) (S := [g11, L, g2, g1]) (g := g11) (.head _)
        have ge23g11 : (rnd W23 n₀ ho23.hn).B ≤ g11 := ho23.ge (.head _)
        have N23L := oth_ne (W := W23) (S := [g11, L, g2, g1]) (g := L) (.tail _ (.head _))
        have ge23L : (rnd W23 n₀ ho23.hn).B ≤ L := ho23.ge (.tail _ (.head _))
        have N23g2 := oth_ne (W := W23) (S := [g11, L, g2, g1]) (g := g2) (.tail _ (.tail _ (.head _)))
        have ge23g2 : (rnd W23 n₀ ho23.hn).B ≤ g2 := ho23.ge (.tail _ (.tail _ (.head _)))
        have N23g1 := oth_ne (W := W23) (S := [g11, L, g2, g1]) (g := g1) (.tail _ (.tail _ (.tail _ (.head _))))
        have ge23g1 : (rnd W23 n₀ ho23.hn).B ≤ g1 := ho23.ge (.tail _ (.tail _ (.tail _ (.head _))))
        refine (show Code.wpIn _ _ _ _ _ _ _ from ?_)
        refine wpIn_block ?_
        rw [hls] at hfull0
        gi_loopw [27] (fun u wr => ∃ (k : Nat) (f : Int) (os2 : List (Int × Int)) (So2 : List Nat), withoutL closed xs = os2 ++ (cutL x.2 f (ls.drop k) ++ withoutL ls (xs.drop (pre.length + 1))) ∧ k ≤ ls.length ∧ u = .int .i64 (k : Int) ∧ Tw.Own n₀ B (L :: g2 :: g1 :: So) [g11, L, g2, g1] So2 W wr ∧ J os2 So2 wr ∧ (∀ q ∈ [(g11, .cells #[.int .i64 f, .int .i64 x.2] 41 (0, 0)), (L, o), (g2, .cells #[.slice p ls.length cap] 22 (0, 0)), (g1, .cells #[.func (.yield l) #[] #[]] 95 (0, 0))], wr.heap[q.1]? = some q.2)) (fun u _ => (ls.length - intOf u).toNat)
        case atStart => exact ⟨0, x.1, os, So, hfull0, by omega, rfl, ho23, hJ23, fun q hq => hk23.2 q (List.mem_append_left _ hq)⟩
        case round =>
          obtain ⟨k, f, os2, So2, hfull, hk, rfl, hom, hJm, hqm⟩ := hrel
          have hkm : KS (rnd wr n₀ hom.hn) ((g11, .cells #[.int .i64 f, .int .i64 x.2] 41 (0, 0)) :: (L, o) :: (g2, .cells #[.slice p ls.length cap] 22 (0, 0)) :: (g1, .cells #[.func (.yield l) #[] #[]] 95 (0, 0)) :: (oth wr [g11, L, g2, g1])) wr := ks_oth (K := [(g11, .cells #[.int .i64 f, .int .i64 x.2] 41 (0, 0)), (L, o), (g2, .cells #[.slice p ls.length cap] 22 (0, 0)), (g1, .cells #[.func (.yield l) #[] #[]] 95 (0, 0))]) hqm
          have Nmg11 := oth_ne (W := wr) (S := [g11, L, g2, g1]) (g := g11) (.head _)
          have gemg11 : (rnd wr n₀ hom.hn).B ≤ g11 := hom.ge (.head _)
          have NmL := oth_ne (W := wr) (S := [g11, L, g2, g1]) (g := L) (.tail _ (.head _))
          have gemL : (rnd wr n₀ hom.hn).B ≤ L := hom.ge (.tail _ (.head _))
          have Nmg2 := oth_ne (W := wr) (S := [g11, L, g2, g1]) (g := g2) (.tail _ (.tail _ (.head _)))
          have gemg2 : (rnd wr n₀ hom.hn).B ≤ g2 := hom.ge (.tail _ (.tail _ (.head _)))
          have Nmg1 := oth_ne (W := wr) (S := [g11, L, g2, g1]) (g := g1) (.tail _ (.tail _ (.tail _ (.head _))))
          have gemg1 : (rnd wr n₀ hom.hn).B ≤ g1 := hom.ge (.tail _ (.tail _ (.tail _ (.head _))))
          by_cases hkn : k < ls.length
          · obtain ⟨b, off, hp, hbn, hcl⟩ := hAV.2.resolve_left (fun e => by rw [e] at hkn; simp at hkn)
            obtain ⟨⟨cf, ct⟩, hget⟩ : ∃ s, ls[k]? = some s := ⟨_, List.getElem?_eq_getElem hkn⟩
            rw [cut_drop hget] at hfull
            by_cases hbr : x.2 ≤ cf
            · rw [if_pos hbr] at hfull
              have hlast : withoutL closed xs = os2 ++ (lastL f x.2 ++ withoutL ls (xs.drop (pre.length + 1))) := hfull
              by_cases he : x.2 ≤ f
              · have hem := fun W => empty_any f x.2 W
                rw [decide_eq_true he] at hem
                refine wpIn_seq ?_
                refine wp_region_LI (W0 := (rnd wr n₀ hom.hn)) ((g11, .cells #[.int .i64 f, .int .i64 x.2] 41 (0, 0)) :: (L, o) :: (g2, .cells #[.slice p ls.length cap] 22 (0, 0)) :: (g1, .cells #[.func (.yield l) #[] #[]] 95 (0, 0)) :: (oth wr [g11, L, g2, g1])) (by kernel_rfl) (hkm) ?_
                refine lp (v := .bool true) rfl rfl (run_bin rfl (vx := .int .i64 (k : Int)) (vy := .int .i64 (ls.length : Int)) (by kernel_rfl) (by kernel_rfl) fun w => run_lssI (decide_eq_true (by omega)) w) ?_
                refine wpL_done (fun W24 hW24 => ?_)
                obtain ⟨ho24, hJ24⟩ := Tw.Own.work (O' := [g11, L, g2, g1]) hJa hom hJm hW24 (fun p hp => (.tail _ (.tail _ (.tail _ (.tail _ hp))))) (List.forall_mem_cons.2 ⟨.inl (.head _), (List.forall_mem_cons.2 ⟨.inl (.tail _ (.head _)), (List.forall_mem_cons.2 ⟨.inl (.tail _ (.tail _ (.head _))), (List.forall_mem_cons.2 ⟨.inl (.tail _ (.tail _ (.tail _ (.head _)))), (List.forall_mem_nil _)⟩)⟩)⟩)⟩)
                have hk24 : KS (rnd W24 n₀ ho24.hn) ((g11, .cells #[.int .i64 f, .int .i64 x.2] 41 (0, 0)) :: (L, o) :: (g2, .cells #[.slice p ls.length cap] 22 (0, 0)) :: (g1, .cells #[.func (.yield l) #[] #[]] 95 (0, 0)) :: (oth W24 [g11, L, g2, g1])) W24 := ks_oth (K := [(g11, .cells #[.int .i64 f, .int .i64 x.2] 41 (0, 0)), (L, o), (g2, .cells #[.slice p ls.length cap] 22 (0, 0)), (g1, .cells #[.func (.yield l) #[] #[]] 95 (0, 0))]) (fun p hp => hW24.2 p (List.mem_append_left _ hp))
                have N24g11 := oth_ne (W := W24) (S := [g11, L, g2, g1]) (g := g11) (.head _)
                have ge24g11 : (rnd W24 n₀ ho24.hn).B ≤ g11 := ho24.ge (.head _)
                have N24L := oth_ne (W := W24) (S := [g11, L, g2, g1]) (g := L) (.tail _ (.head _))
                have ge24L : (rnd W24 n₀ ho24.hn).B ≤ L := ho24.ge (.tail _ (.head _))
                have N24g2 := oth_ne (W := W24) (S := [g11, L, g2, g1]) (g := g2) (.tail _ (.tail _ (.head _)))
                have ge24g2 : (rnd W24 n₀ ho24.hn).B ≤ g2 := ho24.ge (.tail _ (.tail _ (.head _)))
                have N24g1 := oth_ne (W := W24) (S := [g11, L, g2, g1]) (g := g1) (.tail _ (.tail _ (.tail _ (.head _))))
                have ge24g1 : (rnd W24 n₀ ho24.hn).B ≤ g1 := ho24.ge (.tail _ (.tail _ (.tail _ (.head _))))
                refine (show Code.wpIn _ _ _ _ _ _ _ from ?_)
                refine wpIn_seq ?_
                refine wpIn_cond_true rfl ?_
                refine wpIn_skip ?_
                refine (show Code.wpIn _ _ _ _ _ _ _ from ?_)
                refine wpIn_seq ?_
                refine wpIn_block ?_
                refine wpIn_seq ?_
                have hcell := cells_low hcl (hWr.trans ho24.below) hbn
                refine wp_region_LI (W0 := (rnd W24 n₀ ho24.hn)) ((g11, .cells #[.int .i64 f, .int .i64 x.2] 41 (0, 0)) :: (L, o) :: (g2, .cells #[.slice p ls.length cap] 22 (0, 0)) :: (g1, .cells #[.func (.yield l) #[] #[]] 95 (0, 0)) :: (oth W24 [g11, L, g2, g1])) (by kernel_rfl) (hk24) ?_
                refine lp (v := .pointer (some ⟨b, off + 2 * k, none⟩)) rfl rfl (run_idxp (b := b) (off := off) (n := ls.length) (cap := cap) (k := k) rfl (by kernel_rfl) hp (by kernel_rfl) hkn) ?_
                refine lv (v := .agg #[.int .i64 cf, .int .i64 ct]) rfl rfl (yb_load2 rfl (by kernel_rfl) (hcell k (cf, ct) hget).1 (hcell k (cf, ct) hget).2 hbn) ?_
                refine wpL_new (fun g => .pointer (some ⟨g, 0, none⟩)) (obi := .cells #[.int .i64 0, .int .i64 0] 41 (0, 0)) rfl rfl (fun _ => by kernel_rfl) (fun _ => by simp only [List.setIfInBounds_toArray, List.set_cons_succ, List.set_cons_zero] <;> rfl) fun g12 Bg12 Fg12 => ?_
                try simp only [List.forall_mem_cons] at Fg12
                refine wpL_s ((g12, .cells #[.int .i64 cf, .int .i64 ct] 41 (0, 0)) :: (g11, .cells #[.int .i64 f, .int .i64 x.2] 41 (0, 0)) :: (L, o) :: (g2, .cells #[.slice p ls.length cap] 22 (0, 0)) :: (g1, .cells #[.func (.yield l) #[] #[]] 95 (0, 0)) :: (oth W24 [g11, L, g2, g1])) rfl rfl (st_span rfl (by kernel_rfl) (by kernel_rfl) (.head _) (by omega) (List.forall_mem_cons.2 ⟨.inl rfl, (List.forall_mem_cons.2 ⟨.inr ⟨(.tail _ (.head _)), Fg12.1⟩, (List.forall_mem_cons.2 ⟨.inr ⟨(.tail _ (.tail _ (.head _))), Fg12.2.1⟩, (List.forall_mem_cons.2 ⟨.inr ⟨(.tail _ (.tail _ (.tail _ (.head _)))), Fg12.2.2.1⟩, (List.forall_mem_cons.2 ⟨.inr ⟨(.tail _ (.tail _ (.tail _ (.tail _ (.head _))))), Fg12.2.2.2.1⟩, (fun p hp => .inr ⟨(.tail _ (.tail _ (.tail _ (.tail _ (.tail _ hp))))), Fg12.2.2.2.2 p hp⟩)⟩)⟩)⟩)⟩)⟩)) ?_
                refine wpL_done (fun W25 hW25 => ?_)
                obtain ⟨ho25, hJ25⟩ := Tw.Own.work (O' := [g12, g11, L, g2, g1]) hJa ho24 hJ24 hW25 (fun p hp => (.tail _ (.tail _ (.tail _ (.tail _ (.tail _ hp)))))) (List.forall_mem_cons.2 ⟨.inr ⟨new_oth (O := [g11, L, g2, g1]) Fg12.2.2.2.2 (List.forall_mem_cons.2 ⟨Fg12.1, (List.forall_mem_cons.2 ⟨Fg12.2.1, (List.forall_mem_cons.2 ⟨Fg12.2.2.1, (List.forall_mem_cons.2 ⟨Fg12.2.2.2.1, (List.forall_mem_nil _)⟩)⟩)⟩)⟩), lt_of_block (hW25.2 _ (.head _))⟩, (List.forall_mem_cons.2 ⟨.inl (.head _), (List.forall_mem_cons.2 ⟨.inl (.tail _ (.head _)), (List.forall_mem_cons.2 ⟨.inl (.tail _ (.tail _ (.head _))), (List.forall_mem_cons.2 ⟨.inl (.tail _ (.tail _ (.tail _ (.head _)))), (List.forall_mem_nil _)⟩)⟩)⟩)⟩)⟩)
                have hk25 : KS (rnd W25 n₀ ho25.hn) ((g12, .cells #[.int .i64 cf, .int .i64 ct] 41 (0, 0)) :: (g11, .cells #[.int .i64 f, .int .i64 x.2] 41 (0, 0)) :: (L, o) :: (g2, .cells #[.slice p ls.length cap] 22 (0, 0)) :: (g1, .cells #[.func (.yield l) #[] #[]] 95 (0, 0)) :: (oth W25 [g12, g11, L, g2, g1])) W25 := ks_oth (K := [(g12, .cells #[.int .i64 cf, .int .i64 ct] 41 (0, 0)), (g11, .cells #[.int .i64 f, .int .i64 x.2] 41 (0, 0)), (L, o), (g2, .cells #[.slice p ls.length cap] 22 (0, 0)), (g1, .cells #[.func (.yield l) #[] #[]] 95 (0, 0))]) (fun p hp => hW25.2 p (List.mem_append_left _ hp))
                have N25g12 := oth_ne (W := W25) (S := [g12, g11, L, g2, g1]) (g := g12) (.head _)
                have ge25g12 : (rnd W25 n₀ ho25.hn).B ≤ g12 := ho25.ge (.head _)
                have N25g11 := oth_ne (W := W25) (S := [g12, g11, L, g2, g1]) (g := g11) (.tail _ (.head _))
                have ge25g11 : (rnd W25 n₀ ho25.hn).B ≤ g11 := ho25.ge (.tail _ (.head _))
                have N25L := oth_ne (W := W25) (S := [g12, g11, L, g2, g1]) (g := L) (.tail _ (.tail _ (.head _)))
                have ge25L : (rnd W25 n₀ ho25.hn).B ≤ L := ho25.ge (.tail _ (.tail _ (.head _)))
                have N25g2 := oth_ne (W := W25) (S := [g12, g11, L, g2, g1]) (g := g2) (.tail _ (.tail _ (.tail _ (.head _))))
                have ge25g2 : (rnd W25 n₀ ho25.hn).B ≤ g2 := ho25.ge (.tail _ (.tail _ (.tail _ (.head _))))
                have N25g1 := oth_ne (W := W25) (S := [g12, g11, L, g2, g1]) (g := g1) (.tail _ (.tail _ (.tail _ (.tail _ (.head _)))))
                have ge25g1 : (rnd W25 n₀ ho25.hn).B ≤ g1 := ho25.ge (.tail _ (.tail _ (.tail _ (.tail _ (.head _)))))
                refine (show Code.wpIn _ _ _ _ _ _ _ from ?_)
                refine wpIn_seq ?_
                refine wpIn_seq ?_
                refine wp_region_LI (W0 := (rnd W25 n₀ ho25.hn)) ((g12, .cells #[.int .i64 cf, .int .i64 ct] 41 (0, 0)) :: (g11, .cells #[.int .i64 f, .int .i64 x.2] 41 (0, 0)) :: (L, o) :: (g2, .cells #[.slice p ls.length cap] 22 (0, 0)) :: (g1, .cells #[.func (.yield l) #[] #[]] 95 (0, 0)) :: (oth W25 [g12, g11, L, g2, g1])) (by kernel_rfl) (hk25) ?_
                refine lm (v := .pointer (some ⟨g12, 0, none⟩)) rfl rfl ?_
                refine lv (v := .int .i64 cf) rfl rfl (yb_loadc (off := 0) rfl (by kernel_rfl) (.head _) Tryd.underlying3 rfl (by kernel_rfl)) ?_
                refine lm (v := .pointer (some ⟨g11, 1, none⟩)) rfl rfl ?_
                refine lv (v := .int .i64 x.2) rfl rfl (yb_loadc (off := 1) rfl (by kernel_rfl) (.tail _ (.head _)) Tryd.underlying3 rfl (by kernel_rfl)) ?_
                refine lp (v := .bool true) rfl rfl (run_bin rfl (vx := .int .i64 cf) (vy := .int .i64 x.2) (by kernel_rfl) (by kernel_rfl) fun w => run_geqI (decide_eq_true hbr) w) ?_
                refine wpL_done (fun W26 hW26 => ?_)
                obtain ⟨ho26, hJ26⟩ := Tw.Own.work (O' := [g12, g11, L, g2, g1]) hJa ho25 hJ25 hW26 (fun p hp => (.tail _ (.tail _ (.tail _ (.tail _ (.tail _ hp)))))) (List.forall_mem_cons.2 ⟨.inl (.head _), (List.forall_mem_cons.2 ⟨.inl (.tail _ (.head _)), (List.forall_mem_cons.2 ⟨.inl (.tail _ (.tail _ (.head _))), (List.forall_mem_cons.2 ⟨.inl (.tail _ (.tail _ (.tail _ (.head _)))), (List.forall_mem_cons.2 ⟨.inl (.tail _ (.tail _ (.tail _ (.tail _ (.head _))))), (List.forall_mem_nil _)⟩)⟩)⟩)⟩)⟩)
                have hk26 : KS (rnd W26 n₀ ho26.hn) ((g12, .cells #[.int .i64 cf, .int .i64 ct] 41 (0, 0)) :: (g11, .cells #[.int .i64 f, .int .i64 x.2] 41 (0, 0)) :: (L, o) :: (g2, .cells #[.slice p ls.length cap] 22 (0, 0)) :: (g1, .cells #[.func (.yield l) #[] #[]] 95 (0, 0)) :: (oth W26 [g12, g11, L, g2, g1])) W26 := ks_oth (K := [(g12, .cells #[.int .i64 cf, .int .i64 ct] 41 (0, 0)), (g11, .cells #[.int .i64 f, .int .i64 x.2] 41 (0, 0)), (L, o), (g2, .cells #[.slice p ls.length cap] 22 (0, 0)), (g1, .cells #[.func (.yield l) #[] #[]] 95 (0, 0))]) (fun p hp => hW26.2 p (List.mem_append_left _ hp))
                have N26g12 := oth_ne (W := W26) (S := [g12, g11, L, g2, g1]) (g := g12) (.head _)
                have ge26g12 : (rnd W26 n₀ ho26.hn).B ≤ g12 := ho26.ge (.head _)
                have N26g11 := oth_ne (W := W26) (S := [g12, g11, L, g2, g1]) (g := g11) (.tail _ (.head _))
                have ge26g11 : (rnd W26 n₀ ho26.hn).B ≤ g11 := ho26.ge (.tail _ (.head _))
                have N26L := oth_ne (W := W26) (S := [g12, g11, L, g2, g1]) (g := L) (.tail _ (.tail _ (.head _)))
                have ge26L : (rnd W26 n₀ ho26.hn).B ≤ L := ho26.ge (.tail _ (.tail _ (.head _)))
                have N26g2 := oth_ne (W := W26) (S := [g12, g11, L, g2, g1]) (g := g2) (.tail _ (.tail _ (.tail _ (.head _))))
                have ge26g2 : (rnd W26 n₀ ho26.hn).B ≤ g2 := ho26.ge (.tail _ (.tail _ (.tail _ (.head _))))
                have N26g1 := oth_ne (W := W26) (S := [g12, g11, L, g2, g1]) (g := g1) (.tail _ (.tail _ (.tail _ (.tail _ (.head _)))))
                have ge26g1 : (rnd W26 n₀ ho26.hn).B ≤ g1 := ho26.ge (.tail _ (.tail _ (.tail _ (.tail _ (.head _)))))
                refine (show Code.wpIn _ _ _ _ _ _ _ from ?_)
                refine wpIn_cond_true rfl ?_
                refine wpIn_exit ?_
                refine (show Code.wpIn _ _ _ _ _ _ _ from ?_)
                refine wpIn_seq ?_
                refine wp_region_LI (W0 := (rnd W26 n₀ ho26.hn)) ((g12, .cells #[.int .i64 cf, .int .i64 ct] 41 (0, 0)) :: (g11, .cells #[.int .i64 f, .int .i64 x.2] 41 (0, 0)) :: (L, o) :: (g2, .cells #[.slice p ls.length cap] 22 (0, 0)) :: (g1, .cells #[.func (.yield l) #[] #[]] 95 (0, 0)) :: (oth W26 [g12, g11, L, g2, g1])) (by kernel_rfl) (hk26) ?_
                refine lv (v := .agg #[.int .i64 f, .int .i64 x.2]) rfl rfl (yb_load (n := 2) (off := 0) rfl (by kernel_rfl) (.tail _ (.head _)) Tryd.underlying41 rfl size_span (by simp) (by kernel_rfl)) ?_
                refine lv (v := .bool true) rfl rfl (yb_call (f := 60) (args := #[.agg #[.int .i64 f, .int .i64 x.2]]) (fun _ => by kernel_rfl) fun W hW => hem W) ?_
                refine lm (v := .bool false) rfl rfl ?_
                refine lm (v := .bool false) rfl rfl ?_
                refine ln rfl ?_
                refine ln rfl ?_
                refine ln rfl ?_
                refine ln rfl ?_
                refine lm (v := .bool false) rfl rfl ?_
                refine wpL_done (fun W27 hW27 => ?_)
                obtain ⟨ho27, hJ27⟩ := Tw.Own.work (O' := [g12, g11, L, g2, g1]) hJa ho26 hJ26 hW27 (fun p hp => (.tail _ (.tail _ (.tail _ (.tail _ (.tail _ hp)))))) (List.forall_mem_cons.2 ⟨.inl (.head _), (List.forall_mem_cons.2 ⟨.inl (.tail _ (.head _)), (List.forall_mem_cons.2 ⟨.inl (.tail _ (.tail _ (.head _))), (List.forall_mem_cons.2 ⟨.inl (.tail _ (.tail _ (.tail _ (.head _)))), (List.forall_mem_cons.2 ⟨.inl (.tail _ (.tail _ (.tail _ (.tail _ (.head _))))), (List.forall_mem_nil _)⟩)⟩)⟩)⟩)⟩)
                have hk27 : KS (rnd W27 n₀ ho27.hn) ((g12, .cells #[.int .i64 cf, .int .i64 ct] 41 (0, 0)) :: (g11, .cells #[.int .i64 f, .int .i64 x.2] 41 (0, 0)) :: (L, o) :: (g2, .cells #[.slice p ls.length cap] 22 (0, 0)) :: (g1, .cells #[.func (.yield l) #[] #[]] 95 (0, 0)) :: (oth W27 [g12, g11, L, g2, g1])) W27 := ks_oth (K := [(g12, .cells #[.int .i64 cf, .int .i64 ct] 41 (0, 0)), (g11, .cells #[.int .i64 f, .int .i64 x.2] 41 (0, 0)), (L, o), (g2, .cells #[.slice p ls.length cap] 22 (0, 0)), (g1, .cells #[.func (.yield l) #[] #[]] 95 (0, 0))]) (fun p hp => hW27.2 p (List.mem_append_left _ hp))
                have N27g12 := oth_ne (W := W27) (S := [g12, g11, L, g2, g1]) (g := g12) (.head _)
                have ge27g12 : (rnd W27 n₀ ho27.hn).B ≤ g12 := ho27.ge (.head _)
                have N27g11 := oth_ne (W := W27) (S := [g12, g11, L, g2, g1]) (g := g11) (.tail _ (.head _))
                have ge27g11 : (rnd W27 n₀ ho27.hn).B ≤ g11 := ho27.ge (.tail _ (.head _))
                have N27L := oth_ne (W := W27) (S := [g12, g11, L, g2, g1]) (g := L) (.tail _ (.tail _ (.head _)))
                have ge27L : (rnd W27 n₀ ho27.hn).B ≤ L := ho27.ge (.tail _ (.tail _ (.head _)))
                have N27g2 := oth_ne (W := W27) (S := [g12, g11, L, g2, g1]) (g := g2) (.tail _ (.tail _ (.tail _ (.head _))))
                have ge27g2 : (rnd W27 n₀ ho27.hn).B ≤ g2 := ho27.ge (.tail _ (.tail _ (.tail _ (.head _))))
                have N27g1 := oth_ne (W := W27) (S := [g12, g11, L, g2, g1]) (g := g1) (.tail _ (.tail _ (.tail _ (.tail _ (.head _)))))
                have ge27g1 : (rnd W27 n₀ ho27.hn).B ≤ g1 := ho27.ge (.tail _ (.tail _ (.tail _ (.tail _ (.head _)))))
                refine (show Code.wpIn _ _ _ _ _ _ _ from ?_)
                refine wpIn_cond_false rfl ?_
                refine wpIn_skip ?_
                exact round_end (Ix := WX Jx g1 g2) (a := ⟨#[], []⟩) (O := [g2, g1]) (ho27.fewer (O' := [L, g2, g1]) (List.forall_mem_cons.2 ⟨(.tail _ (.tail _ (.head _))), (List.forall_mem_cons.2 ⟨(.tail _ (.tail _ (.tail _ (.head _)))), (List.forall_mem_cons.2 ⟨(.tail _ (.tail _ (.tail _ (.tail _ (.head _))))), (List.forall_mem_nil _)⟩)⟩)⟩)) (hk27.2 _ (.tail _ (.tail _ (.head _)))) (by simp only [List.mem_cons, List.not_mem_nil, or_false, not_or]; exact ⟨nL.1, nL.2.1⟩) ⟨_, _, ls, p, cap, rfl, by rw [List.length_append]; rw [hlast, lastL, if_pos he]; simp, hll, hJ27, hAV, hWr.trans ho27.below, (ho27.apart g2 (.tail _ (.tail _ (.tail _ (.head _))))).2, (ho27.apart g1 (.tail _ (.tail _ (.tail _ (.tail _ (.head _)))))).2, ho27.lo, hk27.2 _ (.tail _ (.tail _ (.tail _ (.head _)))), hk27.2 _ (.tail _ (.tail _ (.tail _ (.tail _ (.head _)))))⟩
              · have hem := fun W => empty_any f x.2 W
                rw [decide_eq_false he] at hem
                refine wpIn_seq ?_
                refine wp_region_LI (W0 := (rnd wr n₀ hom.hn)) ((g11, .cells #[.int .i64 f, .int .i64 x.2] 41 (0, 0)) :: (L, o) :: (g2, .cells #[.slice p ls.length cap] 22 (0, 0)) :: (g1, .cells #[.func (.yield l) #[] #[]] 95 (0, 0)) :: (oth wr [g11, L, g2, g1])) (by kernel_rfl) (hkm) ?_
                refine lp (v := .bool true) rfl rfl (run_bin rfl (vx := .int .i64 (k : Int)) (vy := .int .i64 (ls.length : Int)) (by kernel_rfl) (by kernel_rfl) fun w => run_lssI (decide_eq_true (by omega)) w) ?_
                refine wpL_done (fun W24 hW24 => ?_)
                obtain ⟨ho24, hJ24⟩ := Tw.Own.work (O' := [g11, L, g2, g1]) hJa hom hJm hW24 (fun p hp => (.tail _ (.tail _ (.tail _ (.tail _ hp))))) (List.forall_mem_cons.2 ⟨.inl (.head _), (List.forall_mem_cons.2 ⟨.inl (.tail _ (.head _)), (List.forall_mem_cons.2 ⟨.inl (.tail _ (.tail _ (.head _))), (List.forall_mem_cons.2 ⟨.inl (.tail _ (.tail _ (.tail _ (.head _)))), (List.forall_mem_nil _)⟩)⟩)⟩)⟩)
                have hk24 : KS (rnd W24 n₀ ho24.hn) ((g11, .cells #[.int .i64 f, .int .i64 x.2] 41 (0, 0)) :: (L, o) :: (g2, .cells #[.slice p ls.length cap] 22 (0, 0)) :: (g1, .cells #[.func (.yield l) #[] #[]] 95 (0, 0)) :: (oth W24 [g11, L, g2, g1])) W24 := ks_oth (K := [(g11, .cells #[.int .i64 f, .int .i64 x.2] 41 (0, 0)), (L, o), (g2, .cells #[.slice p ls.length cap] 22 (0, 0)), (g1, .cells #[.func (.yield l) #[] #[]] 95 (0, 0))]) (fun p hp => hW24.2 p (List.mem_append_left _ hp))
                have N24g11 := oth_ne (W := W24) (S := [g11, L, g2, g1]) (g := g11) (.head _)
                have ge24g11 : (rnd W24 n₀ ho24.hn).B ≤ g11 := ho24.ge (.head _)
                have N24L := oth_ne (W := W24) (S := [g11, L, g2, g1]) (g := L) (.tail _ (.head _))
                have ge24L : (rnd W24 n₀ ho24.hn).B ≤ L := ho24.ge (.tail _ (.head _))
                have N24g2 := oth_ne (W := W24) (S := [g11, L, g2, g1]) (g := g2) (.tail _ (.tail _ (.head _)))
                have ge24g2 : (rnd W24 n₀ ho24.hn).B ≤ g2 := ho24.ge (.tail _ (.tail _ (.head _)))
                have N24g1 := oth_ne (W := W24) (S := [g11, L, g2, g1]) (g := g1) (.tail _ (.tail _ (.tail _ (.head _))))
                have ge24g1 : (rnd W24 n₀ ho24.hn).B ≤ g1 := ho24.ge (.tail _ (.tail _ (.tail _ (.head _))))
                refine (show Code.wpIn _ _ _ _ _ _ _ from ?_)
                refine wpIn_seq ?_
                refine wpIn_cond_true rfl ?_
                refine wpIn_skip ?_
                refine (show Code.wpIn _ _ _ _ _ _ _ from ?_)
                refine wpIn_seq ?_
                refine wpIn_block ?_
                refine wpIn_seq ?_
                have hcell := cells_low hcl (hWr.trans ho24.below) hbn
                refine wp_region_LI (W0 := (rnd W24 n₀ ho24.hn)) ((g11, .cells #[.int .i64 f, .int .i64 x.2] 41 (0, 0)) :: (L, o) :: (g2, .cells #[.slice p ls.length cap] 22 (0, 0)) :: (g1, .cells #[.func (.yield l) #[] #[]] 95 (0, 0)) :: (oth W24 [g11, L, g2, g1])) (by kernel_rfl) (hk24) ?_
                refine lp (v := .pointer (some ⟨b, off + 2 * k, none⟩)) rfl rfl (run_idxp (b := b) (off := off) (n := ls.length) (cap := cap) (k := k) rfl (by kernel_rfl) hp (by kernel_rfl) hkn) ?_
                refine lv (v := .agg #[.int .i64 cf, .int .i64 ct]) rfl rfl (yb_load2 rfl (by kernel_rfl) (hcell k (cf, ct) hget).1 (hcell k (cf, ct) hget).2 hbn) ?_
                refine wpL_new (fun g => .pointer (some ⟨g, 0, none⟩)) (obi := .cells #[.int .i64 0, .int .i64 0] 41 (0, 0)) rfl rfl (fun _ => by kernel_rfl) (fun _ => by simp only [List.setIfInBounds_toArray, List.set_cons_succ, List.set_cons_zero] <;> rfl) fun g12 Bg12 Fg12 => ?_
                try simp only [List.forall_mem_cons] at Fg12
                refine wpL_s ((g12, .cells #[.int .i64 cf, .int .i64 ct] 41 (0, 0)) :: (g11, .cells #[.int .i64 f, .int .i64 x.2] 41 (0, 0)) :: (L, o) :: (g2, .cells #[.slice p ls.length cap] 22 (0, 0)) :: (g1, .cells #[.func (.yield l) #[] #[]] 95 (0, 0)) :: (oth W24 [g11, L, g2, g1])) rfl rfl (st_span rfl (by kernel_rfl) (by kernel_rfl) (.head _) (by omega) (List.forall_mem_cons.2 ⟨.inl rfl, (List.forall_mem_cons.2 ⟨.inr ⟨(.tail _ (.head _)), Fg12.1⟩, (List.forall_mem_cons.2 ⟨.inr ⟨(.tail _ (.tail _ (.head _))), Fg12.2.1⟩, (List.forall_mem_cons.2 ⟨.inr ⟨(.tail _ (.tail _ (.tail _ (.head _)))), Fg12.2.2.1⟩, (List.forall_mem_cons.2 ⟨.inr ⟨(.tail _ (.tail _ (.tail _ (.tail _ (.head _))))), Fg12.2.2.2.1⟩, (fun p hp => .inr ⟨(.tail _ (.tail _ (.tail _ (.tail _ (.tail _ hp))))), Fg12.2.2.2.2 p hp⟩)⟩)⟩)⟩)⟩)⟩)) ?_
                refine wpL_done (fun W25 hW25 => ?_)
                obtain ⟨ho25, hJ25⟩ := Tw.Own.work (O' := [g12, g11, L, g2, g1]) hJa ho24 hJ24 hW25 (fun p hp => (.tail _ (.tail _ (.tail _ (.tail _ (.tail _ hp)))))) (List.forall_mem_cons.2 ⟨.inr ⟨new_oth (O := [g11, L, g2, g1]) Fg12.2.2.2.2 (List.forall_mem_cons.2 ⟨Fg12.1, (List.forall_mem_cons.2 ⟨Fg12.2.1, (List.forall_mem_cons.2 ⟨Fg12.2.2.1, (List.forall_mem_cons.2 ⟨Fg12.2.2.2.1, (List.forall_mem_nil _)⟩)⟩)⟩)⟩), lt_of_block (hW25.2 _ (.head _))⟩, (List.forall_mem_cons.2 ⟨.inl (.head _), (List.forall_mem_cons.2 ⟨.inl (.tail _ (.head _)), (List.forall_mem_cons.2 ⟨.inl (.tail _ (.tail _ (.head _))), (List.forall_mem_cons.2 ⟨.inl (.tail _ (.tail _ (.tail _ (.head _)))), (List.forall_mem_nil _)⟩)⟩)⟩)⟩)⟩)
                have hk25 : KS (rnd W25 n₀ ho25.hn) ((g12, .cells #[.int .i64 cf, .int .i64 ct] 41 (0, 0)) :: (g11, .cells #[.int .i64 f, .int .i64 x.2] 41 (0, 0)) :: (L, o) :: (g2, .cells #[.slice p ls.length cap] 22 (0, 0)) :: (g1, .cells #[.func (.yield l) #[] #[]] 95 (0, 0)) :: (oth W25 [g12, g11, L, g2, g1])) W25 := ks_oth (K := [(g12, .cells #[.int .i64 cf, .int .i64 ct] 41 (0, 0)), (g11, .cells #[.int .i64 f, .int .i64 x.2] 41 (0, 0)), (L, o), (g2, .cells #[.slice p ls.length cap] 22 (0, 0)), (g1, .cells #[.func (.yield l) #[] #[]] 95 (0, 0))]) (fun p hp => hW25.2 p (List.mem_append_left _ hp))
                have N25g12 := oth_ne (W := W25) (S := [g12, g11, L, g2, g1]) (g := g12) (.head _)
                have ge25g12 : (rnd W25 n₀ ho25.hn).B ≤ g12 := ho25.ge (.head _)
                have N25g11 := oth_ne (W := W25) (S := [g12, g11, L, g2, g1]) (g := g11) (.tail _ (.head _))
                have ge25g11 : (rnd W25 n₀ ho25.hn).B ≤ g11 := ho25.ge (.tail _ (.head _))
                have N25L := oth_ne (W := W25) (S := [g12, g11, L, g2, g1]) (g := L) (.tail _ (.tail _ (.head _)))
                have ge25L : (rnd W25 n₀ ho25.hn).B ≤ L := ho25.ge (.tail _ (.tail _ (.head _)))
                have N25g2 := oth_ne (W := W25) (S := [g12, g11, L, g2, g1]) (g := g2) (.tail _ (.tail _ (.tail _ (.head _))))
                have ge25g2 : (rnd W25 n₀ ho25.hn).B ≤ g2 := ho25.ge (.tail _ (.tail _ (.tail _ (.head _))))
                have N25g1 := oth_ne (W := W25) (S := [g12, g11, L, g2, g1]) (g := g1) (.tail _ (.tail _ (.tail _ (.tail _ (.head _)))))
                have ge25g1 : (rnd W25 n₀ ho25.hn).B ≤ g1 := ho25.ge (.tail _ (.tail _ (.tail _ (.tail _ (.head _)))))
                refine (show Code.wpIn _ _ _ _ _ _ _ from ?_)
                refine wpIn_seq ?_
                refine wpIn_seq ?_
                refine wp_region_LI (W0 := (rnd W25 n₀ ho25.hn)) ((g12, .cells #[.int .i64 cf, .int .i64 ct] 41 (0, 0)) :: (g11, .cells #[.int .i64 f, .int .i64 x.2] 41 (0, 0)) :: (L, o) :: (g2, .cells #[.slice p ls.length cap] 22 (0, 0)) :: (g1, .cells #[.func (.yield l) #[] #[]] 95 (0, 0)) :: (oth W25 [g12, g11, L, g2, g1])) (by kernel_rfl) (hk25) ?_
                refine lm (v := .pointer (some ⟨g12, 0, none⟩)) rfl rfl ?_
                refine lv (v := .int .i64 cf) rfl rfl (yb_loadc (off := 0) rfl (by kernel_rfl) (.head _) Tryd.underlying3 rfl (by kernel_rfl)) ?_
                refine lm (v := .pointer (some ⟨g11, 1, none⟩)) rfl rfl ?_
                refine lv (v := .int .i64 x.2) rfl rfl (yb_loadc (off := 1) rfl (by kernel_rfl) (.tail _ (.head _)) Tryd.underlying3 rfl (by kernel_rfl)) ?_
                refine lp (v := .bool true) rfl rfl (run_bin rfl (vx := .int .i64 cf) (vy := .int .i64 x.2) (by kernel_rfl) (by kernel_rfl) fun w => run_geqI (decide_eq_true hbr) w) ?_
                refine wpL_done (fun W26 hW26 => ?_)
                obtain ⟨ho26, hJ26⟩ := Tw.Own.work (O' := [g12, g11, L, g2, g1]) hJa ho25 hJ25 hW26 (fun p hp => (.tail _ (.tail _ (.tail _ (.tail _ (.tail _ hp)))))) (List.forall_mem_cons.2 ⟨.inl (.head _), (List.forall_mem_cons.2 ⟨.inl (.tail _ (.head _)), (List.forall_mem_cons.2 ⟨.inl (.tail _ (.tail _ (.head _))), (List.forall_mem_cons.2 ⟨.inl (.tail _ (.tail _ (.tail _ (.head _)))), (List.forall_mem_cons.2 ⟨.inl (.tail _ (.tail _ (.tail _ (.tail _ (.head _))))), (List.forall_mem_nil _)⟩)⟩)⟩)⟩)⟩)
                have hk26 : KS (rnd W26 n₀ ho26.hn) ((g12, .cells #[.int .i64 cf, .int .i64 ct] 41 (0, 0)) :: (g11, .cells #[.int .i64 f, .int .i64 x.2] 41 (0, 0)) :: (L, o) :: (g2, .cells #[.slice p ls.length cap] 22 (0, 0)) :: (g1, .cells #[.func (.yield l) #[] #[]] 95 (0, 0)) :: (oth W26 [g12, g11, L, g2, g1])) W26 := ks_oth (K := [(g12, .cells #[.int .i64 cf, .int .i64 ct] 41 (0, 0)), (g11, .cells #[.int .i64 f, .int .i64 x.2] 41 (0, 0)), (L, o), (g2, .cells #[.slice p ls.length cap] 22 (0, 0)), (g1, .cells #[.func (.yield l) #[] #[]] 95 (0, 0))]) (fun p hp => hW26.2 p (List.mem_append_left _ hp))
                have N26g12 := oth_ne (W := W26) (S := [g12, g11, L, g2, g1]) (g := g12) (.head _)
                have ge26g12 : (rnd W26 n₀ ho26.hn).B ≤ g12 := ho26.ge (.head _)
                have N26g11 := oth_ne (W := W26) (S := [g12, g11, L, g2, g1]) (g := g11) (.tail _ (.head _))
                have ge26g11 : (rnd W26 n₀ ho26.hn).B ≤ g11 := ho26.ge (.tail _ (.head _))
                have N26L := oth_ne (W := W26) (S := [g12, g11, L, g2, g1]) (g := L) (.tail _ (.tail _ (.head _)))
                have ge26L : (rnd W26 n₀ ho26.hn).B ≤ L := ho26.ge (.tail _ (.tail _ (.head _)))
                have N26g2 := oth_ne (W := W26) (S := [g12, g11, L, g2, g1]) (g := g2) (.tail _ (.tail _ (.tail _ (.head _))))
                have ge26g2 : (rnd W26 n₀ ho26.hn).B ≤ g2 := ho26.ge (.tail _ (.tail _ (.tail _ (.head _))))
                have N26g1 := oth_ne (W := W26) (S := [g12, g11, L, g2, g1]) (g := g1) (.tail _ (.tail _ (.tail _ (.tail _ (.head _)))))
                have ge26g1 : (rnd W26 n₀ ho26.hn).B ≤ g1 := ho26.ge (.tail _ (.tail _ (.tail _ (.tail _ (.head _)))))
                refine (show Code.wpIn _ _ _ _ _ _ _ from ?_)
                refine wpIn_cond_true rfl ?_
                refine wpIn_exit ?_
                refine (show Code.wpIn _ _ _ _ _ _ _ from ?_)
                refine wpIn_seq ?_
                refine wp_region_S (W0 := (rnd W26 n₀ ho26.hn)) (List.take 6 _) (List.drop 6 _) ((g12, .cells #[.int .i64 cf, .int .i64 ct] 41 (0, 0)) :: (g11, .cells #[.int .i64 f, .int .i64 x.2] 41 (0, 0)) :: (L, o) :: (g2, .cells #[.slice p ls.length cap] 22 (0, 0)) :: (g1, .cells #[.func (.yield l) #[] #[]] 95 (0, 0)) :: (oth W26 [g12, g11, L, g2, g1])) (List.take_append_drop 6 _).symm (by kernel_rfl) (hk26) ?_
                simp only [List.take_succ_cons, List.take_zero, List.drop_succ_cons, List.drop_zero]
                refine lv (v := .agg #[.int .i64 f, .int .i64 x.2]) rfl rfl (yb_load (n := 2) (off := 0) rfl (by kernel_rfl) (.tail _ (.head _)) Tryd.underlying41 rfl size_span (by simp) (by kernel_rfl)) ?_
                refine lv (v := .bool false) rfl rfl (yb_call (f := 60) (args := #[.agg #[.int .i64 f, .int .i64 x.2]]) (fun _ => by kernel_rfl) fun W hW => hem W) ?_
                refine lm (v := .bool true) rfl rfl ?_
                refine lm (v := .bool true) rfl rfl ?_
                refine lv (v := .func (.yield l) #[] #[]) rfl rfl (yb_loadc (off := 0) rfl (by kernel_rfl) (.tail _ (.tail _ (.tail _ (.tail _ (.head _))))) Tryd.underlying95 rfl (by kernel_rfl)) ?_
                refine lv (v := .agg #[.int .i64 f, .int .i64 x.2]) rfl rfl (yb_load (n := 2) (off := 0) rfl (by kernel_rfl) (.tail _ (.head _)) Tryd.underlying41 rfl size_span (by simp) (by kernel_rfl)) ?_
                refine wpL_done (fun W27 hW27 => ?_)
                obtain ⟨ho27, hJ27⟩ := Tw.Own.work (O' := [g12, g11, L, g2, g1]) hJa ho26 hJ26 hW27 (fun p hp => (.tail _ (.tail _ (.tail _ (.tail _ (.tail _ hp)))))) (List.forall_mem_cons.2 ⟨.inl (.head _), (List.forall_mem_cons.2 ⟨.inl (.tail _ (.head _)), (List.forall_mem_cons.2 ⟨.inl (.tail _ (.tail _ (.head _))), (List.forall_mem_cons.2 ⟨.inl (.tail _ (.tail _ (.tail _ (.head _)))), (List.forall_mem_cons.2 ⟨.inl (.tail _ (.tail _ (.tail _ (.tail _ (.head _))))), (List.forall_mem_nil _)⟩)⟩)⟩)⟩)⟩)
                have hk27 : KS (rnd W27 n₀ ho27.hn) ((g12, .cells #[.int .i64 cf, .int .i64 ct] 41 (0, 0)) :: (g11, .cells #[.int .i64 f, .int .i64 x.2] 41 (0, 0)) :: (L, o) :: (g2, .cells #[.slice p ls.length cap] 22 (0, 0)) :: (g1, .cells #[.func (.yield l) #[] #[]] 95 (0, 0)) :: (oth W27 [g12, g11, L, g2, g1])) W27 := ks_oth (K := [(g12, .cells #[.int .i64 cf, .int .i64 ct] 41 (0, 0)), (g11, .cells #[.int .i64 f, .int .i64 x.2] 41 (0, 0)), (L, o), (g2, .cells #[.slice p ls.length cap] 22 (0, 0)), (g1, .cells #[.func (.yield l) #[] #[]] 95 (0, 0))]) (fun p hp => hW27.2 p (List.mem_append_left _ hp))
                have N27g12 := oth_ne (W := W27) (S := [g12, g11, L, g2, g1]) (g := g12) (.head _)
                have ge27g12 : (rnd W27 n₀ ho27.hn).B ≤ g12 := ho27.ge (.head _)
                have N27g11 := oth_ne (W := W27) (S := [g12, g11, L, g2, g1]) (g := g11) (.tail _ (.head _))
                have ge27g11 : (rnd W27 n₀ ho27.hn).B ≤ g11 := ho27.ge (.tail _ (.head _))
                have N27L := oth_ne (W := W27) (S := [g12, g11, L, g2, g1]) (g := L) (.tail _ (.tail _ (.head _)))
                have ge27L : (rnd W27 n₀ ho27.hn).B ≤ L := ho27.ge (.tail _ (.tail _ (.head _)))
                have N27g2 := oth_ne (W := W27) (S := [g12, g11, L, g2, g1]) (g := g2) (.tail _ (.tail _ (.tail _ (.head _))))
                have ge27g2 : (rnd W27 n₀ ho27.hn).B ≤ g2 := ho27.ge (.tail _ (.tail _ (.tail _ (.head _))))
                have N27g1 := oth_ne (W := W27) (S := [g12, g11, L, g2, g1]) (g := g1) (.tail _ (.tail _ (.tail _ (.tail _ (.head _)))))
                have ge27g1 : (rnd W27 n₀ ho27.hn).B ≤ g1 := ho27.ge (.tail _ (.tail _ (.tail _ (.tail _ (.head _)))))
                refine (show wpListIn _ _ _ _ _ _ _ _ from ?_)
                have hYY := yieldF (m := 0) (r := (some L)) (hYd os2 (f, x.2) _ W27 hJ27 ho27.mem (pre_of (rest := withoutL ls (xs.drop (pre.length + 1))) (by rw [hlast, lastL, if_neg he]; simp)))
                refine wpl_yield rfl rfl (by kernel_rfl) (by kernel_rfl) (by kernel_rfl) rfl hYY (by simp only [List.setIfInBounds_toArray, List.set_cons_succ, List.set_cons_zero] <;> rfl) (by simp only [List.setIfInBounds_toArray, List.set_cons_succ, List.set_cons_zero] <;> rfl) (fun W28 hA28 => ?_) (fun W28 hX28 => ?_)
                · obtain ⟨Sy, hFy, hJy28⟩ := hA28
                  have hoy28 := ho27.yielded hFy
                  have hq28 := ho27.kept (K := [(g12, .cells #[.int .i64 cf, .int .i64 ct] 41 (0, 0)), (g11, .cells #[.int .i64 f, .int .i64 x.2] 41 (0, 0)), (L, o), (g2, .cells #[.slice p ls.length cap] 22 (0, 0)), (g1, .cells #[.func (.yield l) #[] #[]] 95 (0, 0))]) hFy (fun p hp => hk27.2 p (List.mem_append_left _ hp)) (List.forall_mem_cons.2 ⟨.inl (.head _), (List.forall_mem_cons.2 ⟨.inl (.tail _ (.head _)), (List.forall_mem_cons.2 ⟨.inl (.tail _ (.tail _ (.head _))), (List.forall_mem_cons.2 ⟨.inl (.tail _ (.tail _ (.tail _ (.head _)))), (List.forall_mem_cons.2 ⟨.inl (.tail _ (.tail _ (.tail _ (.tail _ (.head _))))), (List.forall_mem_nil _)⟩)⟩)⟩)⟩)⟩)
                  have hk28 : KS (rnd W28 n₀ hoy28.hn) ((g12, .cells #[.int .i64 cf, .int .i64 ct] 41 (0, 0)) :: (g11, .cells #[.int .i64 f, .int .i64 x.2] 41 (0, 0)) :: (L, o) :: (g2, .cells #[.slice p ls.length cap] 22 (0, 0)) :: (g1, .cells #[.func (.yield l) #[] #[]] 95 (0, 0)) :: (oth W28 [g12, g11, L, g2, g1])) W28 := ks_oth (K := [(g12, .cells #[.int .i64 cf, .int .i64 ct] 41 (0, 0)), (g11, .cells #[.int .i64 f, .int .i64 x.2] 41 (0, 0)), (L, o), (g2, .cells #[.slice p ls.length cap] 22 (0, 0)), (g1, .cells #[.func (.yield l) #[] #[]] 95 (0, 0))]) hq28
                  have N28g12 := oth_ne (W := W28) (S := [g12, g11, L, g2, g1]) (g := g12) (.head _)
                  have ge28g12 : (rnd W28 n₀ hoy28.hn).B ≤ g12 := hoy28.ge (.head _)
                  have N28g11 := oth_ne (W := W28) (S := [g12, g11, L, g2, g1]) (g := g11) (.tail _ (.head _))
                  have ge28g11 : (rnd W28 n₀ hoy28.hn).B ≤ g11 := hoy28.ge (.tail _ (.head _))
                  have N28L := oth_ne (W := W28) (S := [g12, g11, L, g2, g1]) (g := L) (.tail _ (.tail _ (.head _)))
                  have ge28L : (rnd W28 n₀ hoy28.hn).B ≤ L := hoy28.ge (.tail _ (.tail _ (.head _)))
                  have N28g2 := oth_ne (W := W28) (S := [g12, g11, L, g2, g1]) (g := g2) (.tail _ (.tail _ (.tail _ (.head _))))
                  have ge28g2 : (rnd W28 n₀ hoy28.hn).B ≤ g2 := hoy28.ge (.tail _ (.tail _ (.tail _ (.head _))))
                  have N28g1 := oth_ne (W := W28) (S := [g12, g11, L, g2, g1]) (g := g1) (.tail _ (.tail _ (.tail _ (.tail _ (.head _)))))
                  have ge28g1 : (rnd W28 n₀ hoy28.hn).B ≤ g1 := hoy28.ge (.tail _ (.tail _ (.tail _ (.tail _ (.head _)))))
                  refine wpl_rest (W0 := (rnd W28 n₀ hoy28.hn)) ((g12, .cells #[.int .i64 cf, .int .i64 ct] 41 (0, 0)) :: (g11, .cells #[.int .i64 f, .int .i64 x.2] 41 (0, 0)) :: (L, o) :: (g2, .cells #[.slice p ls.length cap] 22 (0, 0)) :: (g1, .cells #[.func (.yield l) #[] #[]] 95 (0, 0)) :: (oth W28 [g12, g11, L, g2, g1])) (by kernel_rfl) (hk28) ?_
                  refine lm (v := .bool false) rfl rfl ?_
                  refine lm (v := .bool false) rfl rfl ?_
                  refine wpL_done (fun W29 hW29 => ?_)
                  obtain ⟨ho29, hJ29⟩ := Tw.Own.work (O' := [g12, g11, L, g2, g1]) hJa hoy28 hJy28 hW29 (fun p hp => (.tail _ (.tail _ (.tail _ (.tail _ (.tail _ hp)))))) (List.forall_mem_cons.2 ⟨.inl (.head _), (List.forall_mem_cons.2 ⟨.inl (.tail _ (.head _)), (List.forall_mem_cons.2 ⟨.inl (.tail _ (.tail _ (.head _))), (List.forall_mem_cons.2 ⟨.inl (.tail _ (.tail _ (.tail _ (.head _)))), (List.forall_mem_cons.2 ⟨.inl (.tail _ (.tail _ (.tail _ (.tail _ (.head _))))), (List.forall_mem_nil _)⟩)⟩)⟩)⟩)⟩)
                  have hk29 : KS (rnd W29 n₀ ho29.hn) ((g12, .cells #[.int .i64 cf, .int .i64 ct] 41 (0, 0)) :: (g11, .cells #[.int .i64 f, .int .i64 x.2] 41 (0, 0)) :: (L, o) :: (g2, .cells #[.slice p ls.length cap] 22 (0, 0)) :: (g1, .cells #[.func (.yield l) #[] #[]] 95 (0, 0)) :: (oth W29 [g12, g11, L, g2, g1])) W29 := ks_oth (K := [(g12, .cells #[.int .i64 cf, .int .i64 ct] 41 (0, 0)), (g11, .cells #[.int .i64 f, .int .i64 x.2] 41 (0, 0)), (L, o), (g2, .cells #[.slice p ls.length cap] 22 (0, 0)), (g1, .cells #[.func (.yield l) #[] #[]] 95 (0, 0))]) (fun p hp => hW29.2 p (List.mem_append_left _ hp))
                  have N29g12 := oth_ne (W := W29) (S := [g12, g11, L, g2, g1]) (g := g12) (.head _)
                  have ge29g12 : (rnd W29 n₀ ho29.hn).B ≤ g12 := ho29.ge (.head _)
                  have N29g11 := oth_ne (W := W29) (S := [g12, g11, L, g2, g1]) (g := g11) (.tail _ (.head _))
                  have ge29g11 : (rnd W29 n₀ ho29.hn).B ≤ g11 := ho29.ge (.tail _ (.head _))
                  have N29L := oth_ne (W := W29) (S := [g12, g11, L, g2, g1]) (g := L) (.tail _ (.tail _ (.head _)))
                  have ge29L : (rnd W29 n₀ ho29.hn).B ≤ L := ho29.ge (.tail _ (.tail _ (.head _)))
                  have N29g2 := oth_ne (W := W29) (S := [g12, g11, L, g2, g1]) (g := g2) (.tail _ (.tail _ (.tail _ (.head _))))
                  have ge29g2 : (rnd W29 n₀ ho29.hn).B ≤ g2 := ho29.ge (.tail _ (.tail _ (.tail _ (.head _))))
                  have N29g1 := oth_ne (W := W29) (S := [g12, g11, L, g2, g1]) (g := g1) (.tail _ (.tail _ (.tail _ (.tail _ (.head _)))))
                  have ge29g1 : (rnd W29 n₀ ho29.hn).B ≤ g1 := ho29.ge (.tail _ (.tail _ (.tail _ (.tail _ (.head _)))))
                  refine (show Code.wpIn _ _ _ _ _ _ _ from ?_)
                  refine wpIn_cond_false rfl ?_
                  refine wpIn_skip ?_
                  exact round_end (Ix := WX Jx g1 g2) (a := ⟨#[], []⟩) (O := [g2, g1]) (ho29.fewer (O' := [L, g2, g1]) (List.forall_mem_cons.2 ⟨(.tail _ (.tail _ (.head _))), (List.forall_mem_cons.2 ⟨(.tail _ (.tail _ (.tail _ (.head _)))), (List.forall_mem_cons.2 ⟨(.tail _ (.tail _ (.tail _ (.tail _ (.head _))))), (List.forall_mem_nil _)⟩)⟩)⟩)) (hk29.2 _ (.tail _ (.tail _ (.head _)))) (by simp only [List.mem_cons, List.not_mem_nil, or_false, not_or]; exact ⟨nL.1, nL.2.1⟩) ⟨_, _, ls, p, cap, rfl, by rw [List.length_append]; rw [hlast, lastL, if_neg he]; simp, hll, hJ29, hAV, hWr.trans ho29.below, (ho29.apart g2 (.tail _ (.tail _ (.tail _ (.head _))))).2, (ho29.apart g1 (.tail _ (.tail _ (.tail _ (.tail _ (.head _)))))).2, ho29.lo, hk29.2 _ (.tail _ (.tail _ (.tail _ (.head _)))), hk29.2 _ (.tail _ (.tail _ (.tail _ (.tail _ (.head _)))))⟩
                · obtain ⟨Sy, hFy, hJy28⟩ := hX28
                  have hoy28 := ho27.yielded hFy
                  have hq28 := ho27.kept (K := [(g12, .cells #[.int .i64 cf, .int .i64 ct] 41 (0, 0)), (g11, .cells #[.int .i64 f, .int .i64 x.2] 41 (0, 0)), (L, o), (g2, .cells #[.slice p ls.length cap] 22 (0, 0)), (g1, .cells #[.func (.yield l) #[] #[]] 95 (0, 0))]) hFy (fun p hp => hk27.2 p (List.mem_append_left _ hp)) (List.forall_mem_cons.2 ⟨.inl (.head _), (List.forall_mem_cons.2 ⟨.inl (.tail _ (.head _)), (List.forall_mem_cons.2 ⟨.inl (.tail _ (.tail _ (.head _))), (List.forall_mem_cons.2 ⟨.inl (.tail _ (.tail _ (.tail _ (.head _)))), (List.forall_mem_cons.2 ⟨.inl (.tail _ (.tail _ (.tail _ (.tail _ (.head _))))), (List.forall_mem_nil _)⟩)⟩)⟩)⟩)⟩)
                  have hk28 : KS (rnd W28 n₀ hoy28.hn) ((g12, .cells #[.int .i64 cf, .int .i64 ct] 41 (0, 0)) :: (g11, .cells #[.int .i64 f, .int .i64 x.2] 41 (0, 0)) :: (L, o) :: (g2, .cells #[.slice p ls.length cap] 22 (0, 0)) :: (g1, .cells #[.func (.yield l) #[] #[]] 95 (0, 0)) :: (oth W28 [g12, g11, L, g2, g1])) W28 := ks_oth (K := [(g12, .cells #[.int .i64 cf, .int .i64 ct] 41 (0, 0)), (g11, .cells #[.int .i64 f, .int .i64 x.2] 41 (0, 0)), (L, o), (g2, .cells #[.slice p ls.length cap] 22 (0, 0)), (g1, .cells #[.func (.yield l) #[] #[]] 95 (0, 0))]) hq28
                  have N28g12 := oth_ne (W := W28) (S := [g12, g11, L, g2, g1]) (g := g12) (.head _)
                  have ge28g12 : (rnd W28 n₀ hoy28.hn).B ≤ g12 := hoy28.ge (.head _)
                  have N28g11 := oth_ne (W := W28) (S := [g12, g11, L, g2, g1]) (g := g11) (.tail _ (.head _))
                  have ge28g11 : (rnd W28 n₀ hoy28.hn).B ≤ g11 := hoy28.ge (.tail _ (.head _))
                  have N28L := oth_ne (W := W28) (S := [g12, g11, L, g2, g1]) (g := L) (.tail _ (.tail _ (.head _)))
                  have ge28L : (rnd W28 n₀ hoy28.hn).B ≤ L := hoy28.ge (.tail _ (.tail _ (.head _)))
                  have N28g2 := oth_ne (W := W28) (S := [g12, g11, L, g2, g1]) (g := g2) (.tail _ (.tail _ (.tail _ (.head _))))
                  have ge28g2 : (rnd W28 n₀ hoy28.hn).B ≤ g2 := hoy28.ge (.tail _ (.tail _ (.tail _ (.head _))))
                  have N28g1 := oth_ne (W := W28) (S := [g12, g11, L, g2, g1]) (g := g1) (.tail _ (.tail _ (.tail _ (.tail _ (.head _)))))
                  have ge28g1 : (rnd W28 n₀ hoy28.hn).B ≤ g1 := hoy28.ge (.tail _ (.tail _ (.tail _ (.tail _ (.head _)))))
                  refine wpl_rest (W0 := (rnd W28 n₀ hoy28.hn)) ((g12, .cells #[.int .i64 cf, .int .i64 ct] 41 (0, 0)) :: (g11, .cells #[.int .i64 f, .int .i64 x.2] 41 (0, 0)) :: (L, o) :: (g2, .cells #[.slice p ls.length cap] 22 (0, 0)) :: (g1, .cells #[.func (.yield l) #[] #[]] 95 (0, 0)) :: (oth W28 [g12, g11, L, g2, g1])) (by kernel_rfl) (hk28) ?_
                  refine lm (v := .bool true) rfl rfl ?_
                  refine lm (v := .bool true) rfl rfl ?_
                  refine wpL_done (fun W29 hW29 => ?_)
                  obtain ⟨ho29, hJ29⟩ := Tw.Own.work (O' := [g12, g11, L, g2, g1]) hJxa hoy28 hJy28 hW29 (fun p hp => (.tail _ (.tail _ (.tail _ (.tail _ (.tail _ hp)))))) (List.forall_mem_cons.2 ⟨.inl (.head _), (List.forall_mem_cons.2 ⟨.inl (.tail _ (.head _)), (List.forall_mem_cons.2 ⟨.inl (.tail _ (.tail _ (.head _))), (List.forall_mem_cons.2 ⟨.inl (.tail _ (.tail _ (.tail _ (.head _)))), (List.forall_mem_cons.2 ⟨.inl (.tail _ (.tail _ (.tail _ (.tail _ (.head _))))), (List.forall_mem_nil _)⟩)⟩)⟩)⟩)⟩)
                  have hk29 : KS (rnd W29 n₀ ho29.hn) ((g12, .cells #[.int .i64 cf, .int .i64 ct] 41 (0, 0)) :: (g11, .cells #[.int .i64 f, .int .i64 x.2] 41 (0, 0)) :: (L, o) :: (g2, .cells #[.slice p ls.length cap] 22 (0, 0)) :: (g1, .cells #[.func (.yield l) #[] #[]] 95 (0, 0)) :: (oth W29 [g12, g11, L, g2, g1])) W29 := ks_oth (K := [(g12, .cells #[.int .i64 cf, .int .i64 ct] 41 (0, 0)), (g11, .cells #[.int .i64 f, .int .i64 x.2] 41 (0, 0)), (L, o), (g2, .cells #[.slice p ls.length cap] 22 (0, 0)), (g1, .cells #[.func (.yield l) #[] #[]] 95 (0, 0))]) (fun p hp => hW29.2 p (List.mem_append_left _ hp))
                  have N29g12 := oth_ne (W := W29) (S := [g12, g11, L, g2, g1]) (g := g12) (.head _)
                  have ge29g12 : (rnd W29 n₀ ho29.hn).B ≤ g12 := ho29.ge (.head _)
                  have N29g11 := oth_ne (W := W29) (S := [g12, g11, L, g2, g1]) (g := g11) (.tail _ (.head _))
                  have ge29g11 : (rnd W29 n₀ ho29.hn).B ≤ g11 := ho29.ge (.tail _ (.head _))
                  have N29L := oth_ne (W := W29) (S := [g12, g11, L, g2, g1]) (g := L) (.tail _ (.tail _ (.head _)))
                  have ge29L : (rnd W29 n₀ ho29.hn).B ≤ L := ho29.ge (.tail _ (.tail _ (.head _)))
                  have N29g2 := oth_ne (W := W29) (S := [g12, g11, L, g2, g1]) (g := g2) (.tail _ (.tail _ (.tail _ (.head _))))
                  have ge29g2 : (rnd W29 n₀ ho29.hn).B ≤ g2 := ho29.ge (.tail _ (.tail _ (.tail _ (.head _))))
                  have N29g1 := oth_ne (W := W29) (S := [g12, g11, L, g2, g1]) (g := g1) (.tail _ (.tail _ (.tail _ (.tail _ (.head _)))))
                  have ge29g1 : (rnd W29 n₀ ho29.hn).B ≤ g1 := ho29.ge (.tail _ (.tail _ (.tail _ (.tail _ (.head _)))))
                  refine (show Code.wpIn _ _ _ _ _ _ _ from ?_)
                  refine wpIn_cond_true rfl ?_
                  refine wpIn_ret ?_
                  try simp only [inBlock_ret, then_ret]
                  exact round_stop (I := WI J n₀ g1 g2 l W1 closed xs) (a := ⟨#[], []⟩) (O := [g2, g1]) (ho29.fewer (O' := [L, g2, g1]) (List.forall_mem_cons.2 ⟨(.tail _ (.tail _ (.head _))), (List.forall_mem_cons.2 ⟨(.tail _ (.tail _ (.tail _ (.head _)))), (List.forall_mem_cons.2 ⟨(.tail _ (.tail _ (.tail _ (.tail _ (.head _))))), (List.forall_mem_nil _)⟩)⟩)⟩)) (hk29.2 _ (.tail _ (.tail _ (.head _)))) (by simp only [List.mem_cons, List.not_mem_nil, or_false, not_or]; exact ⟨nL.1, nL.2.1⟩) ⟨_, _, rfl, hJ29⟩
            · by_cases hga : f < cf
              · refine wpIn_seq ?_
                refine wp_region_LI (W0 := (rnd wr n₀ hom.hn)) ((g11, .cells #[.int .i64 f, .int .i64 x.2] 41 (0, 0)) :: (L, o) :: (g2, .cells #[.slice p ls.length cap] 22 (0, 0)) :: (g1, .cells #[.func (.yield l) #[] #[]] 95 (0, 0)) :: (oth wr [g11, L, g2, g1])) (by kernel_rfl) (hkm) ?_
                refine lp (v := .bool true) rfl rfl (run_bin rfl (vx := .int .i64 (k : Int)) (vy := .int .i64 (ls.length : Int)) (by kernel_rfl) (by kernel_rfl) fun w => run_lssI (decide_eq_true (by omega)) w) ?_
                refine wpL_done (fun W24 hW24 => ?_)
                obtain ⟨ho24, hJ24⟩ := Tw.Own.work (O' := [g11, L, g2, g1]) hJa hom hJm hW24 (fun p hp => (.tail _ (.tail _ (.tail _ (.tail _ hp))))) (List.forall_mem_cons.2 ⟨.inl (.head _), (List.forall_mem_cons.2 ⟨.inl (.tail _ (.head _)), (List.forall_mem_cons.2 ⟨.inl (.tail _ (.tail _ (.head _))), (List.forall_mem_cons.2 ⟨.inl (.tail _ (.tail _ (.tail _ (.head _)))), (List.forall_mem_nil _)⟩)⟩)⟩)⟩)
                have hk24 : KS (rnd W24 n₀ ho24.hn) ((g11, .cells #[.int .i64 f, .int .i64 x.2] 41 (0, 0)) :: (L, o) :: (g2, .cells #[.slice p ls.length cap] 22 (0, 0)) :: (g1, .cells #[.func (.yield l) #[] #[]] 95 (0, 0)) :: (oth W24 [g11, L, g2, g1])) W24 := ks_oth (K := [(g11, .cells #[.int .i64 f, .int .i64 x.2] 41 (0, 0)), (L, o), (g2, .cells #[.slice p ls.length cap] 22 (0, 0)), (g1, .cells #[.func (.yield l) #[] #[]] 95 (0, 0))]) (fun p hp => hW24.2 p (List.mem_append_left _ hp))
                have N24g11 := oth_ne (W := W24) (S := [g11, L, g2, g1]) (g := g11) (.head _)
                have ge24g11 : (rnd W24 n₀ ho24.hn).B ≤ g11 := ho24.ge (.head _)
                have N24L := oth_ne (W := W24) (S := [g11, L, g2, g1]) (g := L) (.tail _ (.head _))
                have ge24L : (rnd W24 n₀ ho24.hn).B ≤ L := ho24.ge (.tail _ (.head _))
                have N24g2 := oth_ne (W := W24) (S := [g11, L, g2, g1]) (g := g2) (.tail _ (.tail _ (.head _)))
                have ge24g2 : (rnd W24 n₀ ho24.hn).B ≤ g2 := ho24.ge (.tail _ (.tail _ (.head _)))
                have N24g1 := oth_ne (W := W24) (S := [g11, L, g2, g1]) (g := g1) (.tail _ (.tail _ (.tail _ (.head _))))
                have ge24g1 : (rnd W24 n₀ ho24.hn).B ≤ g1 := ho24.ge (.tail _ (.tail _ (.tail _ (.head _))))
                refine (show Code.wpIn _ _ _ _ _ _ _ from ?_)
                refine wpIn_seq ?_
                refine wpIn_cond_true rfl ?_
                refine wpIn_skip ?_
                refine (show Code.wpIn _ _ _ _ _ _ _ from ?_)
                refine wpIn_seq ?_
                refine wpIn_block ?_
                refine wpIn_seq ?_
                have hcell := cells_low hcl (hWr.trans ho24.below) hbn
                refine wp_region_LI (W0 := (rnd W24 n₀ ho24.hn)) ((g11, .cells #[.int .i64 f, .int .i64 x.2] 41 (0, 0)) :: (L, o) :: (g2, .cells #[.slice p ls.length cap] 22 (0, 0)) :: (g1, .cells #[.func (.yield l) #[] #[]] 95 (0, 0)) :: (oth W24 [g11, L, g2, g1])) (by kernel_rfl) (hk24) ?_
                refine lp (v := .pointer (some ⟨b, off + 2 * k, none⟩)) rfl rfl (run_idxp (b := b) (off := off) (n := ls.length) (cap := cap) (k := k) rfl (by kernel_rfl) hp (by kernel_rfl) hkn) ?_
                refine lv (v := .agg #[.int .i64 cf, .int .i64 ct]) rfl rfl (yb_load2 rfl (by kernel_rfl) (hcell k (cf, ct) hget).1 (hcell k (cf, ct) hget).2 hbn) ?_
                refine wpL_new (fun g => .pointer (some ⟨g, 0, none⟩)) (obi := .cells #[.int .i64 0, .int .i64 0] 41 (0, 0)) rfl rfl (fun _ => by kernel_rfl) (fun _ => by simp only [List.setIfInBounds_toArray, List.set_cons_succ, List.set_cons_zero] <;> rfl) fun g12 Bg12 Fg12 => ?_
                try simp only [List.forall_mem_cons] at Fg12
                refine wpL_s ((g12, .cells #[.int .i64 cf, .int .i64 ct] 41 (0, 0)) :: (g11, .cells #[.int .i64 f, .int .i64 x.2] 41 (0, 0)) :: (L, o) :: (g2, .cells #[.slice p ls.length cap] 22 (0, 0)) :: (g1, .cells #[.func (.yield l) #[] #[]] 95 (0, 0)) :: (oth W24 [g11, L, g2, g1])) rfl rfl (st_span rfl (by kernel_rfl) (by kernel_rfl) (.head _) (by omega) (List.forall_mem_cons.2 ⟨.inl rfl, (List.forall_mem_cons.2 ⟨.inr ⟨(.tail _ (.head _)), Fg12.1⟩, (List.forall_mem_cons.2 ⟨.inr ⟨(.tail _ (.tail _ (.head _))), Fg12.2.1⟩, (List.forall_mem_cons.2 ⟨.inr ⟨(.tail _ (.tail _ (.tail _ (.head _)))), Fg12.2.2.1⟩, (List.forall_mem_cons.2 ⟨.inr ⟨(.tail _ (.tail _ (.tail _ (.tail _ (.head _))))), Fg12.2.2.2.1⟩, (fun p hp => .inr ⟨(.tail _ (.tail _ (.tail _ (.tail _ (.tail _ hp))))), Fg12.2.2.2.2 p hp⟩)⟩)⟩)⟩)⟩)⟩)) ?_
                refine wpL_done (fun W25 hW25 => ?_)
                obtain ⟨ho25, hJ25⟩ := Tw.Own.work (O' := [g12, g11, L, g2, g1]) hJa ho24 hJ24 hW25 (fun p hp => (.tail _ (.tail _ (.tail _ (.tail _ (.tail _ hp)))))) (List.forall_mem_cons.2 ⟨.inr ⟨new_oth (O := [g11, L, g2, g1]) Fg12.2.2.2.2 (List.forall_mem_cons.2 ⟨Fg12.1, (List.forall_mem_cons.2 ⟨Fg12.2.1, (List.forall_mem_cons.2 ⟨Fg12.2.2.1, (List.forall_mem_cons.2 ⟨Fg12.2.2.2.1, (List.forall_mem_nil _)⟩)⟩)⟩)⟩), lt_of_block (hW25.2 _ (.head _))⟩, (List.forall_mem_cons.2 ⟨.inl (.head _), (List.forall_mem_cons.2 ⟨.inl (.tail _ (.head _)), (List.forall_mem_cons.2 ⟨.inl (.tail _ (.tail _ (.head _))), (List.forall_mem_cons.2 ⟨.inl (.tail _ (.tail _ (.tail _ (.head _)))), (List.forall_mem_nil _)⟩)⟩)⟩)⟩)⟩)
                have hk25 : KS (rnd W25 n₀ ho25.hn) ((g12, .cells #[.int .i64 cf, .int .i64 ct] 41 (0, 0)) :: (g11, .cells #[.int .i64 f, .int .i64 x.2] 41 (0, 0)) :: (L, o) :: (g2, .cells #[.slice p ls.length cap] 22 (0, 0)) :: (g1, .cells #[.func (.yield l) #[] #[]] 95 (0, 0)) :: (oth W25 [g12, g11, L, g2, g1])) W25 := ks_oth (K := [(g12, .cells #[.int .i64 cf, .int .i64 ct] 41 (0, 0)), (g11, .cells #[.int .i64 f, .int .i64 x.2] 41 (0, 0)), (L, o), (g2, .cells #[.slice p ls.length cap] 22 (0, 0)), (g1, .cells #[.func (.yield l) #[] #[]] 95 (0, 0))]) (fun p hp => hW25.2 p (List.mem_append_left _ hp))
                have N25g12 := oth_ne (W := W25) (S := [g12, g11, L, g2, g1]) (g := g12) (.head _)
                have ge25g12 : (rnd W25 n₀ ho25.hn).B ≤ g12 := ho25.ge (.head _)
                have N25g11 := oth_ne (W := W25) (S := [g12, g11, L, g2, g1]) (g := g11) (.tail _ (.head _))
                have ge25g11 : (rnd W25 n₀ ho25.hn).B ≤ g11 := ho25.ge (.tail _ (.head _))
                have N25L := oth_ne (W := W25) (S := [g12, g11, L, g2, g1]) (g := L) (.tail _ (.tail _ (.head _)))
                have ge25L : (rnd W25 n₀ ho25.hn).B ≤ L := ho25.ge (.tail _ (.tail _ (.head _)))
                have N25g2 := oth_ne (W := W25) (S := [g12, g11, L, g2, g1]) (g := g2) (.tail _ (.tail _ (.tail _ (.head _))))
                have ge25g2 : (rnd W25 n₀ ho25.hn).B ≤ g2 := ho25.ge (.tail _ (.tail _ (.tail _ (.head _))))
                have N25g1 := oth_ne (W := W25) (S := [g12, g11, L, g2, g1]) (g := g1) (.tail _ (.tail _ (.tail _ (.tail _ (.head _)))))
                have ge25g1 : (rnd W25 n₀ ho25.hn).B ≤ g1 := ho25.ge (.tail _ (.tail _ (.tail _ (.tail _ (.head _)))))
                refine (show Code.wpIn _ _ _ _ _ _ _ from ?_)
                refine wpIn_seq ?_
                refine wpIn_seq ?_
                refine wp_region_LI (W0 := (rnd W25 n₀ ho25.hn)) ((g12, .cells #[.int .i64 cf, .int .i64 ct] 41 (0, 0)) :: (g11, .cells #[.int .i64 f, .int .i64 x.2] 41 (0, 0)) :: (L, o) :: (g2, .cells #[.slice p ls.length cap] 22 (0, 0)) :: (g1, .cells #[.func (.yield l) #[] #[]] 95 (0, 0)) :: (oth W25 [g12, g11, L, g2, g1])) (by kernel_rfl) (hk25) ?_
                refine lm (v := .pointer (some ⟨g12, 0, none⟩)) rfl rfl ?_
                refine lv (v := .int .i64 cf) rfl rfl (yb_loadc (off := 0) rfl (by kernel_rfl) (.head _) Tryd.underlying3 rfl (by kernel_rfl)) ?_
                refine lm (v := .pointer (some ⟨g11, 1, none⟩)) rfl rfl ?_
                refine lv (v := .int .i64 x.2) rfl rfl (yb_loadc (off := 1) rfl (by kernel_rfl) (.tail _ (.head _)) Tryd.underlying3 rfl (by kernel_rfl)) ?_
                refine lp (v := .bool false) rfl rfl (run_bin rfl (vx := .int .i64 cf) (vy := .int .i64 x.2) (by kernel_rfl) (by kernel_rfl) fun w => run_geqI (decide_eq_false hbr) w) ?_
                refine wpL_done (fun W26 hW26 => ?_)
                obtain ⟨ho26, hJ26⟩ := Tw.Own.work (O' := [g12, g11, L, g2, g1]) hJa ho25 hJ25 hW26 (fun p hp => (.tail _ (.tail _ (.tail _ (.tail _ (.tail _ hp)))))) (List.forall_mem_cons.2 ⟨.inl (.head _), (List.forall_mem_cons.2 ⟨.inl (.tail _ (.head _)), (List.forall_mem_cons.2 ⟨.inl (.tail _ (.tail _ (.head _))), (List.forall_mem_cons.2 ⟨.inl (.tail _ (.tail _ (.tail _ (.head _)))), (List.forall_mem_cons.2 ⟨.inl (.tail _ (.tail _ (.tail _ (.tail _ (.head _))))), (List.forall_mem_nil _)⟩)⟩)⟩)⟩)⟩)
                have hk26 : KS (rnd W26 n₀ ho26.hn) ((g12, .cells #[.int .i64 cf, .int .i64 ct] 41 (0, 0)) :: (g11, .cells #[.int .i64 f, .int .i64 x.2] 41 (0, 0)) :: (L, o) :: (g2, .cells #[.slice p ls.length cap] 22 (0, 0)) :: (g1, .cells #[.func (.yield l) #[] #[]] 95 (0, 0)) :: (oth W26 [g12, g11, L, g2, g1])) W26 := ks_oth (K := [(g12, .cells #[.int .i64 cf, .int .i64 ct] 41 (0, 0)), (g11, .cells #[.int .i64 f, .int .i64 x.2] 41 (0, 0)), (L, o), (g2, .cells #[.slice p ls.length cap] 22 (0, 0)), (g1, .cells #[.func (.yield l) #[] #[]] 95 (0, 0))]) (fun p hp => hW26.2 p (List.mem_append_left _ hp))
                have N26g12 := oth_ne (W := W26) (S := [g12, g11, L, g2, g1]) (g := g12) (.head _)
                have ge26g12 : (rnd W26 n₀ ho26.hn).B ≤ g12 := ho26.ge (.head _)
                have N26g11 := oth_ne (W := W26) (S := [g12, g11, L, g2, g1]) (g := g11) (.tail _ (.head _))
                have ge26g11 : (rnd W26 n₀ ho26.hn).B ≤ g11 := ho26.ge (.tail _ (.head _))
                have N26L := oth_ne (W := W26) (S := [g12, g11, L, g2, g1]) (g := L) (.tail _ (.tail _ (.head _)))
                have ge26L : (rnd W26 n₀ ho26.hn).B ≤ L := ho26.ge (.tail _ (.tail _ (.head _)))
                have N26g2 := oth_ne (W := W26) (S := [g12, g11, L, g2, g1]) (g := g2) (.tail _ (.tail _ (.tail _ (.head _))))
                have ge26g2 : (rnd W26 n₀ ho26.hn).B ≤ g2 := ho26.ge (.tail _ (.tail _ (.tail _ (.head _))))
                have N26g1 := oth_ne (W := W26) (S := [g12, g11, L, g2, g1]) (g := g1) (.tail _ (.tail _ (.tail _ (.tail _ (.head _)))))
                have ge26g1 : (rnd W26 n₀ ho26.hn).B ≤ g1 := ho26.ge (.tail _ (.tail _ (.tail _ (.tail _ (.head _)))))
                refine (show Code.wpIn _ _ _ _ _ _ _ from ?_)
                refine wpIn_cond_false rfl ?_
                refine wpIn_skip ?_
                refine (show Code.wpIn _ _ _ _ _ _ _ from ?_)
                refine wpIn_seq ?_
                refine wpIn_seq ?_
                refine wp_region_S (W0 := (rnd W26 n₀ ho26.hn)) (List.take 12 _) (List.drop 12 _) ((g12, .cells #[.int .i64 cf, .int .i64 ct] 41 (0, 0)) :: (g11, .cells #[.int .i64 f, .int .i64 x.2] 41 (0, 0)) :: (L, o) :: (g2, .cells #[.slice p ls.length cap] 22 (0, 0)) :: (g1, .cells #[.func (.yield l) #[] #[]] 95 (0, 0)) :: (oth W26 [g12, g11, L, g2, g1])) (List.take_append_drop 12 _).symm (by kernel_rfl) (hk26) ?_
                simp only [List.take_succ_cons, List.take_zero, List.drop_succ_cons, List.drop_zero]
                refine lm (v := .pointer (some ⟨g12, 0, none⟩)) rfl rfl ?_
                refine lv (v := .int .i64 cf) rfl rfl (yb_loadc (off := 0) rfl (by kernel_rfl) (.head _) Tryd.underlying3 rfl (by kernel_rfl)) ?_
                refine lm (v := .pointer (some ⟨g11, 0, none⟩)) rfl rfl ?_
                refine lv (v := .int .i64 f) rfl rfl (yb_loadc (off := 0) rfl (by kernel_rfl) (.tail _ (.head _)) Tryd.underlying3 rfl (by kernel_rfl)) ?_
                refine lp (v := .bool true) rfl rfl (run_bin rfl (vx := .int .i64 cf) (vy := .int .i64 f) (by kernel_rfl) (by kernel_rfl) fun w => run_gtrI (decide_eq_true hga) w) ?_
                refine lm (v := .bool true) rfl rfl ?_
                refine lv (v := .func (.yield l) #[] #[]) rfl rfl (yb_loadc (off := 0) rfl (by kernel_rfl) (.tail _ (.tail _ (.tail _ (.tail _ (.head _))))) Tryd.underlying95 rfl (by kernel_rfl)) ?_
                refine lm (v := .pointer (some ⟨g11, 0, none⟩)) rfl rfl ?_
                refine lv (v := .int .i64 f) rfl rfl (yb_loadc (off := 0) rfl (by kernel_rfl) (.tail _ (.head _)) Tryd.underlying3 rfl (by kernel_rfl)) ?_
                refine lm (v := .pointer (some ⟨g12, 0, none⟩)) rfl rfl ?_
                refine lv (v := .int .i64 cf) rfl rfl (yb_loadc (off := 0) rfl (by kernel_rfl) (.head _) Tryd.underlying3 rfl (by kernel_rfl)) ?_
                refine lm (v := .agg #[.int .i64 f, .int .i64 cf]) rfl rfl ?_
                refine wpL_done (fun W27 hW27 => ?_)
                obtain ⟨ho27, hJ27⟩ := Tw.Own.work (O' := [g12, g11, L, g2, g1]) hJa ho26 hJ26 hW27 (fun p hp => (.tail _ (.tail _ (.tail _ (.tail _ (.tail _ hp)))))) (List.forall_mem_cons.2 ⟨.inl (.head _), (List.forall_mem_cons.2 ⟨.inl (.tail _ (.head _)), (List.forall_mem_cons.2 ⟨.inl (.tail _ (.tail _ (.head _))), (List.forall_mem_cons.2 ⟨.inl (.tail _ (.tail _ (.tail _ (.head _)))), (List.forall_mem_cons.2 ⟨.inl (.tail _ (.tail _ (.tail _ (.tail _ (.head _))))), (List.forall_mem_nil _)⟩)⟩)⟩)⟩)⟩)
                have hk27 : KS (rnd W27 n₀ ho27.hn) ((g12, .cells #[.int .i64 cf, .int .i64 ct] 41 (0, 0)) :: (g11, .cells #[.int .i64 f, .int .i64 x.2] 41 (0, 0)) :: (L, o) :: (g2, .cells #[.slice p ls.length cap] 22 (0, 0)) :: (g1, .cells #[.func (.yield l) #[] #[]] 95 (0, 0)) :: (oth W27 [g12, g11, L, g2, g1])) W27 := ks_oth (K := [(g12, .cells #[.int .i64 cf, .int .i64 ct] 41 (0, 0)), (g11, .cells #[.int .i64 f, .int .i64 x.2] 41 (0, 0)), (L, o), (g2, .cells #[.slice p ls.length cap] 22 (0, 0)), (g1, .cells #[.func (.yield l) #[] #[]] 95 (0, 0))]) (fun p hp => hW27.2 p (List.mem_append_left _ hp))
                have N27g12 := oth_ne (W := W27) (S := [g12, g11, L, g2, g1]) (g := g12) (.head _)
                have ge27g12 : (rnd W27 n₀ ho27.hn).B ≤ g12 := ho27.ge (.head _)
                have N27g11 := oth_ne (W := W27) (S := [g12, g11, L, g2, g1]) (g := g11) (.tail _ (.head _))
                have ge27g11 : (rnd W27 n₀ ho27.hn).B ≤ g11 := ho27.ge (.tail _ (.head _))
                have N27L := oth_ne (W := W27) (S := [g12, g11, L, g2, g1]) (g := L) (.tail _ (.tail _ (.head _)))
                have ge27L : (rnd W27 n₀ ho27.hn).B ≤ L := ho27.ge (.tail _ (.tail _ (.head _)))
                have N27g2 := oth_ne (W := W27) (S := [g12, g11, L, g2, g1]) (g := g2) (.tail _ (.tail _ (.tail _ (.head _))))
                have ge27g2 : (rnd W27 n₀ ho27.hn).B ≤ g2 := ho27.ge (.tail _ (.tail _ (.tail _ (.head _))))
                have N27g1 := oth_ne (W := W27) (S := [g12, g11, L, g2, g1]) (g := g1) (.tail _ (.tail _ (.tail _ (.tail _ (.head _)))))
                have ge27g1 : (rnd W27 n₀ ho27.hn).B ≤ g1 := ho27.ge (.tail _ (.tail _ (.tail _ (.tail _ (.head _)))))
                refine (show wpListIn _ _ _ _ _ _ _ _ from ?_)
                have hYY := yieldF (m := 0) (r := (some L)) (hYd os2 (f, cf) _ W27 hJ27 ho27.mem (pre_of (rest := cutL x.2 ct (ls.drop (k + 1)) ++ withoutL ls (xs.drop (pre.length + 1))) (by rw [hfull, if_neg hbr, if_pos hga]; simp)))
                refine wpl_yield rfl rfl (by kernel_rfl) (by kernel_rfl) (by kernel_rfl) rfl hYY (by simp only [List.setIfInBounds_toArray, List.set_cons_succ, List.set_cons_zero] <;> rfl) (by simp only [List.setIfInBounds_toArray, List.set_cons_succ, List.set_cons_zero] <;> rfl) (fun W28 hA28 => ?_) (fun W28 hX28 => ?_)
                · obtain ⟨Sy, hFy, hJy28⟩ := hA28
                  have hoy28 := ho27.yielded hFy
                  have hq28 := ho27.kept (K := [(g12, .cells #[.int .i64 cf, .int .i64 ct] 41 (0, 0)), (g11, .cells #[.int .i64 f, .int .i64 x.2] 41 (0, 0)), (L, o), (g2, .cells #[.slice p ls.length cap] 22 (0, 0)), (g1, .cells #[.func (.yield l) #[] #[]] 95 (0, 0))]) hFy (fun p hp => hk27.2 p (List.mem_append_left _ hp)) (List.forall_mem_cons.2 ⟨.inl (.head _), (List.forall_mem_cons.2 ⟨.inl (.tail _ (.head _)), (List.forall_mem_cons.2 ⟨.inl (.tail _ (.tail _ (.head _))), (List.forall_mem_cons.2 ⟨.inl (.tail _ (.tail _ (.tail _ (.head _)))), (List.forall_mem_cons.2 ⟨.inl (.tail _ (.tail _ (.tail _ (.tail _ (.head _))))), (List.forall_mem_nil _)⟩)⟩)⟩)⟩)⟩)
                  have hk28 : KS (rnd W28 n₀ hoy28.hn) ((g12, .cells #[.int .i64 cf, .int .i64 ct] 41 (0, 0)) :: (g11, .cells #[.int .i64 f, .int .i64 x.2] 41 (0, 0)) :: (L, o) :: (g2, .cells #[.slice p ls.length cap] 22 (0, 0)) :: (g1, .cells #[.func (.yield l) #[] #[]] 95 (0, 0)) :: (oth W28 [g12, g11, L, g2, g1])) W28 := ks_oth (K := [(g12, .cells #[.int .i64 cf, .int .i64 ct] 41 (0, 0)), (g11, .cells #[.int .i64 f, .int .i64 x.2] 41 (0, 0)), (L, o), (g2, .cells #[.slice p ls.length cap] 22 (0, 0)), (g1, .cells #[.func (.yield l) #[] #[]] 95 (0, 0))]) hq28
                  have N28g12 := oth_ne (W := W28) (S := [g12, g11, L, g2, g1]) (g := g12) (.head _)
                  have ge28g12 : (rnd W28 n₀ hoy28.hn).B ≤ g12 := hoy28.ge (.head _)
                  have N28g11 := oth_ne (W := W28) (S := [g12, g11, L, g2, g1]) (g := g11) (.tail _ (.head _))
                  have ge28g11 : (rnd W28 n₀ hoy28.hn).B ≤ g11 := hoy28.ge (.tail _ (.head _))
                  have N28L := oth_ne (W := W28) (S := [g12, g11, L, g2, g1]) (g := L) (.tail _ (.tail _ (.head _)))
                  have ge28L : (rnd W28 n₀ hoy28.hn).B ≤ L := hoy28.ge (.tail _ (.tail _ (.head _)))
                  have N28g2 := oth_ne (W := W28) (S := [g12, g11, L, g2, g1]) (g := g2) (.tail _ (.tail _ (.tail _ (.head _))))
                  have ge28g2 : (rnd W28 n₀ hoy28.hn).B ≤ g2 := hoy28.ge (.tail _ (.tail _ (.tail _ (.head _))))
                  have N28g1 := oth_ne (W := W28) (S := [g12, g11, L, g2, g1]) (g := g1) (.tail _ (.tail _ (.tail _ (.tail _ (.head _)))))
                  have ge28g1 : (rnd W28 n₀ hoy28.hn).B ≤ g1 := hoy28.ge (.tail _ (.tail _ (.tail _ (.tail _ (.head _)))))
                  refine wpl_rest (W0 := (rnd W28 n₀ hoy28.hn)) ((g12, .cells #[.int .i64 cf, .int .i64 ct] 41 (0, 0)) :: (g11, .cells #[.int .i64 f, .int .i64 x.2] 41 (0, 0)) :: (L, o) :: (g2, .cells #[.slice p ls.length cap] 22 (0, 0)) :: (g1, .cells #[.func (.yield l) #[] #[]] 95 (0, 0)) :: (oth W28 [g12, g11, L, g2, g1])) (by kernel_rfl) (hk28) ?_
                  refine lm (v := .bool false) rfl rfl ?_
                  refine lm (v := .bool false) rfl rfl ?_
                  refine wpL_done (fun W29 hW29 => ?_)
                  obtain ⟨ho29, hJ29⟩ := Tw.Own.work (O' := [g12, g11, L, g2, g1]) hJa hoy28 hJy28 hW29 (fun p hp => (.tail _ (.tail _ (.tail _ (.tail _ (.tail _ hp)))))) (List.forall_mem_cons.2 ⟨.inl (.head _), (List.forall_mem_cons.2 ⟨.inl (.tail _ (.head _)), (List.forall_mem_cons.2 ⟨.inl (.tail _ (.tail _ (.head _))), (List.forall_mem_cons.2 ⟨.inl (.tail _ (.tail _ (.tail _ (.head _)))), (List.forall_mem_cons.2 ⟨.inl (.tail _ (.tail _ (.tail _ (.tail _ (.head _))))), (List.forall_mem_nil _)⟩)⟩)⟩)⟩)⟩)
                  have hk29 : KS (rnd W29 n₀ ho29.hn) ((g12, .cells #[.int .i64 cf, .int .i64 ct] 41 (0, 0)) :: (g11, .cells #[.int .i64 f, .int .i64 x.2] 41 (0, 0)) :: (L, o) :: (g2, .cells #[.slice p ls.length cap] 22 (0, 0)) :: (g1, .cells #[.func (.yield l) #[] #[]] 95 (0, 0)) :: (oth W29 [g12, g11, L, g2, g1])) W29 := ks_oth (K := [(g12, .cells #[.int .i64 cf, .int .i64 ct] 41 (0, 0)), (g11, .cells #[.int .i64 f, .int .i64 x.2] 41 (0, 0)), (L, o), (g2, .cells #[.slice p ls.length cap] 22 (0, 0)), (g1, .cells #[.func (.yield l) #[] #[]] 95 (0, 0))]) (fun p hp => hW29.2 p (List.mem_append_left _ hp))
                  have N29g12 := oth_ne (W := W29) (S := [g12, g11, L, g2, g1]) (g := g12) (.head _)
                  have ge29g12 : (rnd W29 n₀ ho29.hn).B ≤ g12 := ho29.ge (.head _)
                  have N29g11 := oth_ne (W := W29) (S := [g12, g11, L, g2, g1]) (g := g11) (.tail _ (.head _))
                  have ge29g11 : (rnd W29 n₀ ho29.hn).B ≤ g11 := ho29.ge (.tail _ (.head _))
                  have N29L := oth_ne (W := W29) (S := [g12, g11, L, g2, g1]) (g := L) (.tail _ (.tail _ (.head _)))
                  have ge29L : (rnd W29 n₀ ho29.hn).B ≤ L := ho29.ge (.tail _ (.tail _ (.head _)))
                  have N29g2 := oth_ne (W := W29) (S := [g12, g11, L, g2, g1]) (g := g2) (.tail _ (.tail _ (.tail _ (.head _))))
                  have ge29g2 : (rnd W29 n₀ ho29.hn).B ≤ g2 := ho29.ge (.tail _ (.tail _ (.tail _ (.head _))))
                  have N29g1 := oth_ne (W := W29) (S := [g12, g11, L, g2, g1]) (g := g1) (.tail _ (.tail _ (.tail _ (.tail _ (.head _)))))
                  have ge29g1 : (rnd W29 n₀ ho29.hn).B ≤ g1 := ho29.ge (.tail _ (.tail _ (.tail _ (.tail _ (.head _)))))
                  refine (show Code.wpIn _ _ _ _ _ _ _ from ?_)
                  refine wpIn_cond_false rfl ?_
                  refine wpIn_skip ?_
                  refine (show Code.wpIn _ _ _ _ _ _ _ from ?_)
                  refine wp_region_LI (W0 := (rnd W29 n₀ ho29.hn)) ((g12, .cells #[.int .i64 cf, .int .i64 ct] 41 (0, 0)) :: (g11, .cells #[.int .i64 f, .int .i64 x.2] 41 (0, 0)) :: (L, o) :: (g2, .cells #[.slice p ls.length cap] 22 (0, 0)) :: (g1, .cells #[.func (.yield l) #[] #[]] 95 (0, 0)) :: (oth W29 [g12, g11, L, g2, g1])) (by kernel_rfl) (hk29) ?_
                  refine lm (v := .pointer (some ⟨g12, 1, none⟩)) rfl rfl ?_
                  refine lv (v := .int .i64 ct) rfl rfl (yb_loadc (off := 1) rfl (by kernel_rfl) (.head _) Tryd.underlying3 rfl (by kernel_rfl)) ?_
                  refine lm (v := .pointer (some ⟨g11, 0, none⟩)) rfl rfl ?_
                  refine wpL_s ((g12, .cells #[.int .i64 cf, .int .i64 ct] 41 (0, 0)) :: (g11, .cells #[.int .i64 ct, .int .i64 x.2] 41 (0, 0)) :: (L, o) :: (g2, .cells #[.slice p ls.length cap] 22 (0, 0)) :: (g1, .cells #[.func (.yield l) #[] #[]] 95 (0, 0)) :: (oth W29 [g12, g11, L, g2, g1])) rfl rfl (st_row (off := 0) (v := .int .i64 ct) rfl (by kernel_rfl) (by kernel_rfl) (.tail _ (.head _)) (by omega) (by kernel_rfl) (by simp [Value.cells]) (by intro v hv; simp [Value.cells] at hv; subst hv; rfl) rfl (List.forall_mem_cons.2 ⟨.inr ⟨(.head _), (Ne.symm Fg12.1)⟩, (List.forall_mem_cons.2 ⟨.inl rfl, (List.forall_mem_cons.2 ⟨.inr ⟨(.tail _ (.tail _ (.head _))), Fg11.1⟩, (List.forall_mem_cons.2 ⟨.inr ⟨(.tail _ (.tail _ (.tail _ (.head _)))), Fg11.2.1⟩, (List.forall_mem_cons.2 ⟨.inr ⟨(.tail _ (.tail _ (.tail _ (.tail _ (.head _))))), Fg11.2.2.1⟩, (fun p hp => .inr ⟨(.tail _ (.tail _ (.tail _ (.tail _ (.tail _ hp))))), N29g11 p hp⟩)⟩)⟩)⟩)⟩)⟩)) ?_
                  refine wpL_done (fun W30 hW30 => ?_)
                  obtain ⟨ho30, hJ30⟩ := Tw.Own.work (O' := [g12, g11, L, g2, g1]) hJa ho29 hJ29 hW30 (fun p hp => (.tail _ (.tail _ (.tail _ (.tail _ (.tail _ hp)))))) (List.forall_mem_cons.2 ⟨.inl (.head _), (List.forall_mem_cons.2 ⟨.inl (.tail _ (.head _)), (List.forall_mem_cons.2 ⟨.inl (.tail _ (.tail _ (.head _))), (List.forall_mem_cons.2 ⟨.inl (.tail _ (.tail _ (.tail _ (.head _)))), (List.forall_mem_cons.2 ⟨.inl (.tail _ (.tail _ (.tail _ (.tail _ (.head _))))), (List.forall_mem_nil _)⟩)⟩)⟩)⟩)⟩)
                  have hk30 : KS (rnd W30 n₀ ho30.hn) ((g12, .cells #[.int .i64 cf, .int .i64 ct] 41 (0, 0)) :: (g11, .cells #[.int .i64 ct, .int .i64 x.2] 41 (0, 0)) :: (L, o) :: (g2, .cells #[.slice p ls.length cap] 22 (0, 0)) :: (g1, .cells #[.func (.yield l) #[] #[]] 95 (0, 0)) :: (oth W30 [g12, g11, L, g2, g1])) W30 := ks_oth (K := [(g12, .cells #[.int .i64 cf, .int .i64 ct] 41 (0, 0)), (g11, .cells #[.int .i64 ct, .int .i64 x.2] 41 (0, 0)), (L, o), (g2, .cells #[.slice p ls.length cap] 22 (0, 0)), (g1, .cells #[.func (.yield l) #[] #[]] 95 (0, 0))]) (fun p hp => hW30.2 p (List.mem_append_left _ hp))
                  have N30g12 := oth_ne (W := W30) (S := [g12, g11, L, g2, g1]) (g := g12) (.head _)
                  have ge30g12 : (rnd W30 n₀ ho30.hn).B ≤ g12 := ho30.ge (.head _)
                  have N30g11 := oth_ne (W := W30) (S := [g12, g11, L, g2, g1]) (g := g11) (.tail _ (.head _))
                  have ge30g11 : (rnd W30 n₀ ho30.hn).B ≤ g11 := ho30.ge (.tail _ (.head _))
                  have N30L := oth_ne (W := W30) (S := [g12, g11, L, g2, g1]) (g := L) (.tail _ (.tail _ (.head _)))
                  have ge30L : (rnd W30 n₀ ho30.hn).B ≤ L := ho30.ge (.tail _ (.tail _ (.head _)))
                  have N30g2 := oth_ne (W := W30) (S := [g12, g11, L, g2, g1]) (g := g2) (.tail _ (.tail _ (.tail _ (.head _))))
                  have ge30g2 : (rnd W30 n₀ ho30.hn).B ≤ g2 := ho30.ge (.tail _ (.tail _ (.tail _ (.head _))))
                  have N30g1 := oth_ne (W := W30) (S := [g12, g11, L, g2, g1]) (g := g1) (.tail _ (.tail _ (.tail _ (.tail _ (.head _)))))
                  have ge30g1 : (rnd W30 n₀ ho30.hn).B ≤ g1 := ho30.ge (.tail _ (.tail _ (.tail _ (.tail _ (.head _)))))
                  refine (show Code.wpIn _ _ _ _ _ _ _ from ?_)
                  refine wp_region_LI (W0 := (rnd W30 n₀ ho30.hn)) ((g12, .cells #[.int .i64 cf, .int .i64 ct] 41 (0, 0)) :: (g11, .cells #[.int .i64 ct, .int .i64 x.2] 41 (0, 0)) :: (L, o) :: (g2, .cells #[.slice p ls.length cap] 22 (0, 0)) :: (g1, .cells #[.func (.yield l) #[] #[]] 95 (0, 0)) :: (oth W30 [g12, g11, L, g2, g1])) (by kernel_rfl) (hk30) ?_
                  refine lp (v := .int .i64 ((k + 1 : Nat) : Int)) rfl rfl (run_bin rfl (vx := .int .i64 (k : Int)) (vy := .int .i64 1) (by kernel_rfl) (by kernel_rfl) fun w => run_addI (z := ((k + 1 : Nat) : Int)) rfl (by omega) w) ?_
                  refine lm (v := .int .i64 ((k + 1 : Nat) : Int)) rfl rfl ?_
                  refine wpL_done (fun W31 hW31 => ?_)
                  obtain ⟨ho31, hJ31⟩ := Tw.Own.work (O' := [g12, g11, L, g2, g1]) hJa ho30 hJ30 hW31 (fun p hp => (.tail _ (.tail _ (.tail _ (.tail _ (.tail _ hp)))))) (List.forall_mem_cons.2 ⟨.inl (.head _), (List.forall_mem_cons.2 ⟨.inl (.tail _ (.head _)), (List.forall_mem_cons.2 ⟨.inl (.tail _ (.tail _ (.head _))), (List.forall_mem_cons.2 ⟨.inl (.tail _ (.tail _ (.tail _ (.head _)))), (List.forall_mem_cons.2 ⟨.inl (.tail _ (.tail _ (.tail _ (.tail _ (.head _))))), (List.forall_mem_nil _)⟩)⟩)⟩)⟩)⟩)
                  have hk31 : KS (rnd W31 n₀ ho31.hn) ((g12, .cells #[.int .i64 cf, .int .i64 ct] 41 (0, 0)) :: (g11, .cells #[.int .i64 ct, .int .i64 x.2] 41 (0, 0)) :: (L, o) :: (g2, .cells #[.slice p ls.length cap] 22 (0, 0)) :: (g1, .cells #[.func (.yield l) #[] #[]] 95 (0, 0)) :: (oth W31 [g12, g11, L, g2, g1])) W31 := ks_oth (K := [(g12, .cells #[.int .i64 cf, .int .i64 ct] 41 (0, 0)), (g11, .cells #[.int .i64 ct, .int .i64 x.2] 41 (0, 0)), (L, o), (g2, .cells #[.slice p ls.length cap] 22 (0, 0)), (g1, .cells #[.func (.yield l) #[] #[]] 95 (0, 0))]) (fun p hp => hW31.2 p (List.mem_append_left _ hp))
                  have N31g12 := oth_ne (W := W31) (S := [g12, g11, L, g2, g1]) (g := g12) (.head _)
                  have ge31g12 : (rnd W31 n₀ ho31.hn).B ≤ g12 := ho31.ge (.head _)
                  have N31g11 := oth_ne (W := W31) (S := [g12, g11, L, g2, g1]) (g := g11) (.tail _ (.head _))
                  have ge31g11 : (rnd W31 n₀ ho31.hn).B ≤ g11 := ho31.ge (.tail _ (.head _))
                  have N31L := oth_ne (W := W31) (S := [g12, g11, L, g2, g1]) (g := L) (.tail _ (.tail _ (.head _)))
                  have ge31L : (rnd W31 n₀ ho31.hn).B ≤ L := ho31.ge (.tail _ (.tail _ (.head _)))
                  have N31g2 := oth_ne (W := W31) (S := [g12, g11, L, g2, g1]) (g := g2) (.tail _ (.tail _ (.tail _ (.head _))))
                  have ge31g2 : (rnd W31 n₀ ho31.hn).B ≤ g2 := ho31.ge (.tail _ (.tail _ (.tail _ (.head _))))
                  have N31g1 := oth_ne (W := W31) (S := [g12, g11, L, g2, g1]) (g := g1) (.tail _ (.tail _ (.tail _ (.tail _ (.head _)))))
                  have ge31g1 : (rnd W31 n₀ ho31.hn).B ≤ g1 := ho31.ge (.tail _ (.tail _ (.tail _ (.tail _ (.head _)))))
                  go_roundw
                  case rel =>
                    repeat apply Exists.intro
                    exact ⟨⟨k + 1, ct, (os2 ++ [(f, cf)]), _, by rw [hfull, if_neg hbr, if_pos hga]; simp, by omega, rfl, ho31.fewer (List.forall_mem_cons.2 ⟨(.tail _ (.head _)), (List.forall_mem_cons.2 ⟨(.tail _ (.tail _ (.head _))), (List.forall_mem_cons.2 ⟨(.tail _ (.tail _ (.tail _ (.head _)))), (List.forall_mem_cons.2 ⟨(.tail _ (.tail _ (.tail _ (.tail _ (.head _))))), (List.forall_mem_nil _)⟩)⟩)⟩)⟩), hJ31, (List.forall_mem_cons.2 ⟨hk31.2 _ (.tail _ (.head _)), (List.forall_mem_cons.2 ⟨hk31.2 _ (.tail _ (.tail _ (.head _))), (List.forall_mem_cons.2 ⟨hk31.2 _ (.tail _ (.tail _ (.tail _ (.head _)))), (List.forall_mem_cons.2 ⟨hk31.2 _ (.tail _ (.tail _ (.tail _ (.tail _ (.head _))))), (List.forall_mem_nil _)⟩)⟩)⟩)⟩)⟩, rfl⟩
                  case measure => (show (ls.length - intOf (.int .i64 ((k + 1 : Nat) : Int))).toNat < (ls.length - intOf (.int .i64 (k : Int))).toNat); simp only [intOf]; omega
                · obtain ⟨Sy, hFy, hJy28⟩ := hX28
                  have hoy28 := ho27.yielded hFy
                  have hq28 := ho27.kept (K := [(g12, .cells #[.int .i64 cf, .int .i64 ct] 41 (0, 0)), (g11, .cells #[.int .i64 f, .int .i64 x.2] 41 (0, 0)), (L, o), (g2, .cells #[.slice p ls.length cap] 22 (0, 0)), (g1, .cells #[.func (.yield l) #[] #[]] 95 (0, 0))]) hFy (fun p hp => hk27.2 p (List.mem_append_left _ hp)) (List.forall_mem_cons.2 ⟨.inl (.head _), (List.forall_mem_cons.2 ⟨.inl (.tail _ (.head _)), (List.forall_mem_cons.2 ⟨.inl (.tail _ (.tail _ (.head _))), (List.forall_mem_cons.2 ⟨.inl (.tail _ (.tail _ (.tail _ (.head _)))), (List.forall_mem_cons.2 ⟨.inl (.tail _ (.tail _ (.tail _ (.tail _ (.head _))))), (List.forall_mem_nil _)⟩)⟩)⟩)⟩)⟩)
                  have hk28 : KS (rnd W28 n₀ hoy28.hn) ((g12, .cells #[.int .i64 cf, .int .i64 ct] 41 (0, 0)) :: (g11, .cells #[.int .i64 f, .int .i64 x.2] 41 (0, 0)) :: (L, o) :: (g2, .cells #[.slice p ls.length cap] 22 (0, 0)) :: (g1, .cells #[.func (.yield l) #[] #[]] 95 (0, 0)) :: (oth W28 [g12, g11, L, g2, g1])) W28 := ks_oth (K := [(g12, .cells #[.int .i64 cf, .int .i64 ct] 41 (0, 0)), (g11, .cells #[.int .i64 f, .int .i64 x.2] 41 (0, 0)), (L, o), (g2, .cells #[.slice p ls.length cap] 22 (0, 0)), (g1, .cells #[.func (.yield l) #[] #[]] 95 (0, 0))]) hq28
                  have N28g12 := oth_ne (W := W28) (S := [g12, g11, L, g2, g1]) (g := g12) (.head _)
                  have ge28g12 : (rnd W28 n₀ hoy28.hn).B ≤ g12 := hoy28.ge (.head _)
                  have N28g11 := oth_ne (W := W28) (S := [g12, g11, L, g2, g1]) (g := g11) (.tail _ (.head _))
                  have ge28g11 : (rnd W28 n₀ hoy28.hn).B ≤ g11 := hoy28.ge (.tail _ (.head _))
                  have N28L := oth_ne (W := W28) (S := [g12, g11, L, g2, g1]) (g := L) (.tail _ (.tail _ (.head _)))
                  have ge28L : (rnd W28 n₀ hoy28.hn).B ≤ L := hoy28.ge (.tail _ (.tail _ (.head _)))
                  have N28g2 := oth_ne (W := W28) (S := [g12, g11, L, g2, g1]) (g := g2) (.tail _ (.tail _ (.tail _ (.head _))))
                  have ge28g2 : (rnd W28 n₀ hoy28.hn).B ≤ g2 := hoy28.ge (.tail _ (.tail _ (.tail _ (.head _))))
                  have N28g1 := oth_ne (W := W28) (S := [g12, g11, L, g2, g1]) (g := g1) (.tail _ (.tail _ (.tail _ (.tail _ (.head _)))))
                  have ge28g1 : (rnd W28 n₀ hoy28.hn).B ≤ g1 := hoy28.ge (.tail _ (.tail _ (.tail _ (.tail _ (.head _)))))
                  refine wpl_rest (W0 := (rnd W28 n₀ hoy28.hn)) ((g12, .cells #[.int .i64 cf, .int .i64 ct] 41 (0, 0)) :: (g11, .cells #[.int .i64 f, .int .i64 x.2] 41 (0, 0)) :: (L, o) :: (g2, .cells #[.slice p ls.length cap] 22 (0, 0)) :: (g1, .cells #[.func (.yield l) #[] #[]] 95 (0, 0)) :: (oth W28 [g12, g11, L, g2, g1])) (by kernel_rfl) (hk28) ?_
                  refine lm (v := .bool true) rfl rfl ?_
                  refine lm (v := .bool true) rfl rfl ?_
                  refine wpL_done (fun W29 hW29 => ?_)
                  obtain ⟨ho29, hJ29⟩ := Tw.Own.work (O' := [g12, g11, L, g2, g1]) hJxa hoy28 hJy28 hW29 (fun p hp => (.tail _ (.tail _ (.tail _ (.tail _ (.tail _ hp)))))) (List.forall_mem_cons.2 ⟨.inl (.head _), (List.forall_mem_cons.2 ⟨.inl (.tail _ (.head _)), (List.forall_mem_cons.2 ⟨.inl (.tail _ (.tail _ (.head _))), (List.forall_mem_cons.2 ⟨.inl (.tail _ (.tail _ (.tail _ (.head _)))), (List.forall_mem_cons.2 ⟨.inl (.tail _ (.tail _ (.tail _ (.tail _ (.head _))))), (List.forall_mem_nil _)⟩)⟩)⟩)⟩)⟩)
                  have hk29 : KS (rnd W29 n₀ ho29.hn) ((g12, .cells #[.int .i64 cf, .int .i64 ct] 41 (0, 0)) :: (g11, .cells #[.int .i64 f, .int .i64 x.2] 41 (0, 0)) :: (L, o) :: (g2, .cells #[.slice p ls.length cap] 22 (0, 0)) :: (g1, .cells #[.func (.yield l) #[] #[]] 95 (0, 0)) :: (oth W29 [g12, g11, L, g2, g1])) W29 := ks_oth (K := [(g12, .cells #[.int .i64 cf, .int .i64 ct] 41 (0, 0)), (g11, .cells #[.int .i64 f, .int .i64 x.2] 41 (0, 0)), (L, o), (g2, .cells #[.slice p ls.length cap] 22 (0, 0)), (g1, .cells #[.func (.yield l) #[] #[]] 95 (0, 0))]) (fun p hp => hW29.2 p (List.mem_append_left _ hp))
                  have N29g12 := oth_ne (W := W29) (S := [g12, g11, L, g2, g1]) (g := g12) (.head _)
                  have ge29g12 : (rnd W29 n₀ ho29.hn).B ≤ g12 := ho29.ge (.head _)
                  have N29g11 := oth_ne (W := W29) (S := [g12, g11, L, g2, g1]) (g := g11) (.tail _ (.head _))
                  have ge29g11 : (rnd W29 n₀ ho29.hn).B ≤ g11 := ho29.ge (.tail _ (.head _))
                  have N29L := oth_ne (W := W29) (S := [g12, g11, L, g2, g1]) (g := L) (.tail _ (.tail _ (.head _)))
                  have ge29L : (rnd W29 n₀ ho29.hn).B ≤ L := ho29.ge (.tail _ (.tail _ (.head _)))
                  have N29g2 := oth_ne (W := W29) (S := [g12, g11, L, g2, g1]) (g := g2) (.tail _ (.tail _ (.tail _ (.head _))))
                  have ge29g2 : (rnd W29 n₀ ho29.hn).B ≤ g2 := ho29.ge (.tail _ (.tail _ (.tail _ (.head _))))
                  have N29g1 := oth_ne (W := W29) (S := [g12, g11, L, g2, g1]) (g := g1) (.tail _ (.tail _ (.tail _ (.tail _ (.head _)))))
                  have ge29g1 : (rnd W29 n₀ ho29.hn).B ≤ g1 := ho29.ge (.tail _ (.tail _ (.tail _ (.tail _ (.head _)))))
                  refine (show Code.wpIn _ _ _ _ _ _ _ from ?_)
                  refine wpIn_cond_true rfl ?_
                  refine wpIn_ret ?_
                  try simp only [inBlock_ret, then_ret]
                  exact round_stop (I := WI J n₀ g1 g2 l W1 closed xs) (a := ⟨#[], []⟩) (O := [g2, g1]) (ho29.fewer (O' := [L, g2, g1]) (List.forall_mem_cons.2 ⟨(.tail _ (.tail _ (.head _))), (List.forall_mem_cons.2 ⟨(.tail _ (.tail _ (.tail _ (.head _)))), (List.forall_mem_cons.2 ⟨(.tail _ (.tail _ (.tail _ (.tail _ (.head _))))), (List.forall_mem_nil _)⟩)⟩)⟩)) (hk29.2 _ (.tail _ (.tail _ (.head _)))) (by simp only [List.mem_cons, List.not_mem_nil, or_false, not_or]; exact ⟨nL.1, nL.2.1⟩) ⟨_, _, rfl, hJ29⟩
              · refine wpIn_seq ?_
                refine wp_region_LI (W0 := (rnd wr n₀ hom.hn)) ((g11, .cells #[.int .i64 f, .int .i64 x.2] 41 (0, 0)) :: (L, o) :: (g2, .cells #[.slice p ls.length cap] 22 (0, 0)) :: (g1, .cells #[.func (.yield l) #[] #[]] 95 (0, 0)) :: (oth wr [g11, L, g2, g1])) (by kernel_rfl) (hkm) ?_
                refine lp (v := .bool true) rfl rfl (run_bin rfl (vx := .int .i64 (k : Int)) (vy := .int .i64 (ls.length : Int)) (by kernel_rfl) (by kernel_rfl) fun w => run_lssI (decide_eq_true (by omega)) w) ?_
                refine wpL_done (fun W24 hW24 => ?_)
                obtain ⟨ho24, hJ24⟩ := Tw.Own.work (O' := [g11, L, g2, g1]) hJa hom hJm hW24 (fun p hp => (.tail _ (.tail _ (.tail _ (.tail _ hp))))) (List.forall_mem_cons.2 ⟨.inl (.head _), (List.forall_mem_cons.2 ⟨.inl (.tail _ (.head _)), (List.forall_mem_cons.2 ⟨.inl (.tail _ (.tail _ (.head _))), (List.forall_mem_cons.2 ⟨.inl (.tail _ (.tail _ (.tail _ (.head _)))), (List.forall_mem_nil _)⟩)⟩)⟩)⟩)
                have hk24 : KS (rnd W24 n₀ ho24.hn) ((g11, .cells #[.int .i64 f, .int .i64 x.2] 41 (0, 0)) :: (L, o) :: (g2, .cells #[.slice p ls.length cap] 22 (0, 0)) :: (g1, .cells #[.func (.yield l) #[] #[]] 95 (0, 0)) :: (oth W24 [g11, L, g2, g1])) W24 := ks_oth (K := [(g11, .cells #[.int .i64 f, .int .i64 x.2] 41 (0, 0)), (L, o), (g2, .cells #[.slice p ls.length cap] 22 (0, 0)), (g1, .cells #[.func (.yield l) #[] #[]] 95 (0, 0))]) (fun p hp => hW24.2 p (List.mem_append_left _ hp))
                have N24g11 := oth_ne (W := W24) (S := [g11, L, g2, g1]) (g := g11) (.head _)
                have ge24g11 : (rnd W24 n₀ ho24.hn).B ≤ g11 := ho24.ge (.head _)
                have N24L := oth_ne (W := W24) (S := [g11, L, g2, g1]) (g := L) (.tail _ (.head _))
                have ge24L : (rnd W24 n₀ ho24.hn).B ≤ L := ho24.ge (.tail _ (.head _))
                have N24g2 := oth_ne (W := W24) (S := [g11, L, g2, g1]) (g := g2) (.tail _ (.tail _ (.head _)))
                have ge24g2 : (rnd W24 n₀ ho24.hn).B ≤ g2 := ho24.ge (.tail _ (.tail _ (.head _)))
                have N24g1 := oth_ne (W := W24) (S := [g11, L, g2, g1]) (g := g1) (.tail _ (.tail _ (.tail _ (.head _))))
                have ge24g1 : (rnd W24 n₀ ho24.hn).B ≤ g1 := ho24.ge (.tail _ (.tail _ (.tail _ (.head _))))
                refine (show Code.wpIn _ _ _ _ _ _ _ from ?_)
                refine wpIn_seq ?_
                refine wpIn_cond_true rfl ?_
                refine wpIn_skip ?_
                refine (show Code.wpIn _ _ _ _ _ _ _ from ?_)
                refine wpIn_seq ?_
                refine wpIn_block ?_
                refine wpIn_seq ?_
                have hcell := cells_low hcl (hWr.trans ho24.below) hbn
                refine wp_region_LI (W0 := (rnd W24 n₀ ho24.hn)) ((g11, .cells #[.int .i64 f, .int .i64 x.2] 41 (0, 0)) :: (L, o) :: (g2, .cells #[.slice p ls.length cap] 22 (0, 0)) :: (g1, .cells #[.func (.yield l) #[] #[]] 95 (0, 0)) :: (oth W24 [g11, L, g2, g1])) (by kernel_rfl) (hk24) ?_
                refine lp (v := .pointer (some ⟨b, off + 2 * k, none⟩)) rfl rfl (run_idxp (b := b) (off := off) (n := ls.length) (cap := cap) (k := k) rfl (by kernel_rfl) hp (by kernel_rfl) hkn) ?_
                refine lv (v := .agg #[.int .i64 cf, .int .i64 ct]) rfl rfl (yb_load2 rfl (by kernel_rfl) (hcell k (cf, ct) hget).1 (hcell k (cf, ct) hget).2 hbn) ?_
                refine wpL_new (fun g => .pointer (some ⟨g, 0, none⟩)) (obi := .cells #[.int .i64 0, .int .i64 0] 41 (0, 0)) rfl rfl (fun _ => by kernel_rfl) (fun _ => by simp only [List.setIfInBounds_toArray, List.set_cons_succ, List.set_cons_zero] <;> rfl) fun g12 Bg12 Fg12 => ?_
                try simp only [List.forall_mem_cons] at Fg12
                refine wpL_s ((g12, .cells #[.int .i64 cf, .int .i64 ct] 41 (0, 0)) :: (g11, .cells #[.int .i64 f, .int .i64 x.2] 41 (0, 0)) :: (L, o) :: (g2, .cells #[.slice p ls.length cap] 22 (0, 0)) :: (g1, .cells #[.func (.yield l) #[] #[]] 95 (0, 0)) :: (oth W24 [g11, L, g2, g1])) rfl rfl (st_span rfl (by kernel_rfl) (by kernel_rfl) (.head _) (by omega) (List.forall_mem_cons.2 ⟨.inl rfl, (List.forall_mem_cons.2 ⟨.inr ⟨(.tail _ (.head _)), Fg12.1⟩, (List.forall_mem_cons.2 ⟨.inr ⟨(.tail _ (.tail _ (.head _))), Fg12.2.1⟩, (List.forall_mem_cons.2 ⟨.inr ⟨(.tail _ (.tail _ (.tail _ (.head _)))), Fg12.2.2.1⟩, (List.forall_mem_cons.2 ⟨.inr ⟨(.tail _ (.tail _ (.tail _ (.tail _ (.head _))))), Fg12.2.2.2.1⟩, (fun p hp => .inr ⟨(.tail _ (.tail _ (.tail _ (.tail _ (.tail _ hp))))), Fg12.2.2.2.2 p hp⟩)⟩)⟩)⟩)⟩)⟩)) ?_
                refine wpL_done (fun W25 hW25 => ?_)
                obtain ⟨ho25, hJ25⟩ := Tw.Own.work (O' := [g12, g11, L, g2, g1]) hJa ho24 hJ24 hW25 (fun p hp => (.tail _ (.tail _ (.tail _ (.tail _ (.tail _ hp)))))) (List.forall_mem_cons.2 ⟨.inr ⟨new_oth (O := [g11, L, g2, g1]) Fg12.2.2.2.2 (List.forall_mem_cons.2 ⟨Fg12.1, (List.forall_mem_cons.2 ⟨Fg12.2.1, (List.forall_mem_cons.2 ⟨Fg12.2.2.1, (List.forall_mem_cons.2 ⟨Fg12.2.2.2.1, (List.forall_mem_nil _)⟩)⟩)⟩)⟩), lt_of_block (hW25.2 _ (.head _))⟩, (List.forall_mem_cons.2 ⟨.inl (.head _), (List.forall_mem_cons.2 ⟨.inl (.tail _ (.head _)), (List.forall_mem_cons.2 ⟨.inl (.tail _ (.tail _ (.head _))), (List.forall_mem_cons.2 ⟨.inl (.tail _ (.tail _ (.tail _ (.head _)))), (List.forall_mem_nil _)⟩)⟩)⟩)⟩)⟩)
                have hk25 : KS (rnd W25 n₀ ho25.hn) ((g12, .cells #[.int .i64 cf, .int .i64 ct] 41 (0, 0)) :: (g11, .cells #[.int .i64 f, .int .i64 x.2] 41 (0, 0)) :: (L, o) :: (g2, .cells #[.slice p ls.length cap] 22 (0, 0)) :: (g1, .cells #[.func (.yield l) #[] #[]] 95 (0, 0)) :: (oth W25 [g12, g11, L, g2, g1])) W25 := ks_oth (K := [(g12, .cells #[.int .i64 cf, .int .i64 ct] 41 (0, 0)), (g11, .cells #[.int .i64 f, .int .i64 x.2] 41 (0, 0)), (L, o), (g2, .cells #[.slice p ls.length cap] 22 (0, 0)), (g1, .cells #[.func (.yield l) #[] #[]] 95 (0, 0))]) (fun p hp => hW25.2 p (List.mem_append_left _ hp))
                have N25g12 := oth_ne (W := W25) (S := [g12, g11, L, g2, g1]) (g := g12) (.head _)
                have ge25g12 : (rnd W25 n₀ ho25.hn).B ≤ g12 := ho25.ge (.head _)
                have N25g11 := oth_ne (W := W25) (S := [g12, g11, L, g2, g1]) (g := g11) (.tail _ (.head _))
                have ge25g11 : (rnd W25 n₀ ho25.hn).B ≤ g11 := ho25.ge (.tail _ (.head _))
                have N25L := oth_ne (W := W25) (S := [g12, g11, L, g2, g1]) (g := L) (.tail _ (.tail _ (.head _)))
                have ge25L : (rnd W25 n₀ ho25.hn).B ≤ L := ho25.ge (.tail _ (.tail _ (.head _)))
                have N25g2 := oth_ne (W := W25) (S := [g12, g11, L, g2, g1]) (g := g2) (.tail _ (.tail _ (.tail _ (.head _))))
                have ge25g2 : (rnd W25 n₀ ho25.hn).B ≤ g2 := ho25.ge (.tail _ (.tail _ (.tail _ (.head _))))
                have N25g1 := oth_ne (W := W25) (S := [g12, g11, L, g2, g1]) (g := g1) (.tail _ (.tail _ (.tail _ (.tail _ (.head _)))))
                have ge25g1 : (rnd W25 n₀ ho25.hn).B ≤ g1 := ho25.ge (.tail _ (.tail _ (.tail _ (.tail _ (.head _)))))
                refine (show Code.wpIn _ _ _ _ _ _ _ from ?_)
                refine wpIn_seq ?_
                refine wpIn_seq ?_
                refine wp_region_LI (W0 := (rnd W25 n₀ ho25.hn)) ((g12, .cells #[.int .i64 cf, .int .i64 ct] 41 (0, 0)) :: (g11, .cells #[.int .i64 f, .int .i64 x.2] 41 (0, 0)) :: (L, o) :: (g2, .cells #[.slice p ls.length cap] 22 (0, 0)) :: (g1, .cells #[.func (.yield l) #[] #[]] 95 (0, 0)) :: (oth W25 [g12, g11, L, g2, g1])) (by kernel_rfl) (hk25) ?_
                refine lm (v := .pointer (some ⟨g12, 0, none⟩)) rfl rfl ?_
                refine lv (v := .int .i64 cf) rfl rfl (yb_loadc (off := 0) rfl (by kernel_rfl) (.head _) Tryd.underlying3 rfl (by kernel_rfl)) ?_
                refine lm (v := .pointer (some ⟨g11, 1, none⟩)) rfl rfl ?_
                refine lv (v := .int .i64 x.2) rfl rfl (yb_loadc (off := 1) rfl (by kernel_rfl) (.tail _ (.head _)) Tryd.underlying3 rfl (by kernel_rfl)) ?_
                refine lp (v := .bool false) rfl rfl (run_bin rfl (vx := .int .i64 cf) (vy := .int .i64 x.2) (by kernel_rfl) (by kernel_rfl) fun w => run_geqI (decide_eq_false hbr) w) ?_
                refine wpL_done (fun W26 hW26 => ?_)
                obtain ⟨ho26, hJ26⟩ := Tw.Own.work (O' := [g12, g11, L, g2, g1]) hJa ho25 hJ25 hW26 (fun p hp => (.tail _ (.tail _ (.tail _ (.tail _ (.tail _ hp)))))) (List.forall_mem_cons.2 ⟨.inl (.head _), (List.forall_mem_cons.2 ⟨.inl (.tail _ (.head _)), (List.forall_mem_cons.2 ⟨.inl (.tail _ (.tail _ (.head _))), (List.forall_mem_cons.2 ⟨.inl (.tail _ (.tail _ (.tail _ (.head _)))), (List.forall_mem_cons.2 ⟨.inl (.tail _ (.tail _ (.tail _ (.tail _ (.head _))))), (List.forall_mem_nil _)⟩)⟩)⟩)⟩)⟩)
                have hk26 : KS (rnd W26 n₀ ho26.hn) ((g12, .cells #[.int .i64 cf, .int .i64 ct] 41 (0, 0)) :: (g11, .cells #[.int .i64 f, .int .i64 x.2] 41 (0, 0)) :: (L, o) :: (g2, .cells #[.slice p ls.length cap] 22 (0, 0)) :: (g1, .cells #[.func (.yield l) #[] #[]] 95 (0, 0)) :: (oth W26 [g12, g11, L, g2, g1])) W26 := ks_oth (K := [(g12, .cells #[.int .i64 cf, .int .i64 ct] 41 (0, 0)), (g11, .cells #[.int .i64 f, .int .i64 x.2] 41 (0, 0)), (L, o), (g2, .cells #[.slice p ls.length cap] 22 (0, 0)), (g1, .cells #[.func (.yield l) #[] #[]] 95 (0, 0))]) (fun p hp => hW26.2 p (List.mem_append_left _ hp))
                have N26g12 := oth_ne (W := W26) (S := [g12, g11, L, g2, g1]) (g := g12) (.head _)
                have ge26g12 : (rnd W26 n₀ ho26.hn).B ≤ g12 := ho26.ge (.head _)
                have N26g11 := oth_ne (W := W26) (S := [g12, g11, L, g2, g1]) (g := g11) (.tail _ (.head _))
                have ge26g11 : (rnd W26 n₀ ho26.hn).B ≤ g11 := ho26.ge (.tail _ (.head _))
                have N26L := oth_ne (W := W26) (S := [g12, g11, L, g2, g1]) (g := L) (.tail _ (.tail _ (.head _)))
                have ge26L : (rnd W26 n₀ ho26.hn).B ≤ L := ho26.ge (.tail _ (.tail _ (.head _)))
                have N26g2 := oth_ne (W := W26) (S := [g12, g11, L, g2, g1]) (g := g2) (.tail _ (.tail _ (.tail _ (.head _))))
                have ge26g2 : (rnd W26 n₀ ho26.hn).B ≤ g2 := ho26.ge (.tail _ (.tail _ (.tail _ (.head _))))
                have N26g1 := oth_ne (W := W26) (S := [g12, g11, L, g2, g1]) (g := g1) (.tail _ (.tail _ (.tail _ (.tail _ (.head _)))))
                have ge26g1 : (rnd W26 n₀ ho26.hn).B ≤ g1 := ho26.ge (.tail _ (.tail _ (.tail _ (.tail _ (.head _)))))
                refine (show Code.wpIn _ _ _ _ _ _ _ from ?_)
                refine wpIn_cond_false rfl ?_
                refine wpIn_skip ?_
                refine (show Code.wpIn _ _ _ _ _ _ _ from ?_)
                refine wpIn_seq ?_
                refine wpIn_seq ?_
                refine wp_region_LI (W0 := (rnd W26 n₀ ho26.hn)) ((g12, .cells #[.int .i64 cf, .int .i64 ct] 41 (0, 0)) :: (g11, .cells #[.int .i64 f, .int .i64 x.2] 41 (0, 0)) :: (L, o) :: (g2, .cells #[.slice p ls.length cap] 22 (0, 0)) :: (g1, .cells #[.func (.yield l) #[] #[]] 95 (0, 0)) :: (oth W26 [g12, g11, L, g2, g1])) (by kernel_rfl) (hk26) ?_
                refine lm (v := .pointer (some ⟨g12, 0, none⟩)) rfl rfl ?_
                refine lv (v := .int .i64 cf) rfl rfl (yb_loadc (off := 0) rfl (by kernel_rfl) (.head _) Tryd.underlying3 rfl (by kernel_rfl)) ?_
                refine lm (v := .pointer (some ⟨g11, 0, none⟩)) rfl rfl ?_
                refine lv (v := .int .i64 f) rfl rfl (yb_loadc (off := 0) rfl (by kernel_rfl) (.tail _ (.head _)) Tryd.underlying3 rfl (by kernel_rfl)) ?_
                refine lp (v := .bool false) rfl rfl (run_bin rfl (vx := .int .i64 cf) (vy := .int .i64 f) (by kernel_rfl) (by kernel_rfl) fun w => run_gtrI (decide_eq_false hga) w) ?_
                refine lm (v := .bool false) rfl rfl ?_
                refine ln rfl ?_
                refine ln rfl ?_
                refine ln rfl ?_
                refine ln rfl ?_
                refine ln rfl ?_
                refine ln rfl ?_
                refine ln rfl ?_
                refine ln rfl ?_
                refine lm (v := .bool false) rfl rfl ?_
                refine wpL_done (fun W27 hW27 => ?_)
                obtain ⟨ho27, hJ27⟩ := Tw.Own.work (O' := [g12, g11, L, g2, g1]) hJa ho26 hJ26 hW27 (fun p hp => (.tail _ (.tail _ (.tail _ (.tail _ (.tail _ hp)))))) (List.forall_mem_cons.2 ⟨.inl (.head _), (List.forall_mem_cons.2 ⟨.inl (.tail _ (.head _)), (List.forall_mem_cons.2 ⟨.inl (.tail _ (.tail _ (.head _))), (List.forall_mem_cons.2 ⟨.inl (.tail _ (.tail _ (.tail _ (.head _)))), (List.forall_mem_cons.2 ⟨.inl (.tail _ (.tail _ (.tail _ (.tail _ (.head _))))), (List.forall_mem_nil _)⟩)⟩)⟩)⟩)⟩)
                have hk27 : KS (rnd W27 n₀ ho27.hn) ((g12, .cells #[.int .i64 cf, .int .i64 ct] 41 (0, 0)) :: (g11, .cells #[.int .i64 f, .int .i64 x.2] 41 (0, 0)) :: (L, o) :: (g2, .cells #[.slice p ls.length cap] 22 (0, 0)) :: (g1, .cells #[.func (.yield l) #[] #[]] 95 (0, 0)) :: (oth W27 [g12, g11, L, g2, g1])) W27 := ks_oth (K := [(g12, .cells #[.int .i64 cf, .int .i64 ct] 41 (0, 0)), (g11, .cells #[.int .i64 f, .int .i64 x.2] 41 (0, 0)), (L, o), (g2, .cells #[.slice p ls.length cap] 22 (0, 0)), (g1, .cells #[.func (.yield l) #[] #[]] 95 (0, 0))]) (fun p hp => hW27.2 p (List.mem_append_left _ hp))
                have N27g12 := oth_ne (W := W27) (S := [g12, g11, L, g2, g1]) (g := g12) (.head _)
                have ge27g12 : (rnd W27 n₀ ho27.hn).B ≤ g12 := ho27.ge (.head _)
                have N27g11 := oth_ne (W := W27) (S := [g12, g11, L, g2, g1]) (g := g11) (.tail _ (.head _))
                have ge27g11 : (rnd W27 n₀ ho27.hn).B ≤ g11 := ho27.ge (.tail _ (.head _))
                have N27L := oth_ne (W := W27) (S := [g12, g11, L, g2, g1]) (g := L) (.tail _ (.tail _ (.head _)))
                have ge27L : (rnd W27 n₀ ho27.hn).B ≤ L := ho27.ge (.tail _ (.tail _ (.head _)))
                have N27g2 := oth_ne (W := W27) (S := [g12, g11, L, g2, g1]) (g := g2) (.tail _ (.tail _ (.tail _ (.head _))))
                have ge27g2 : (rnd W27 n₀ ho27.hn).B ≤ g2 := ho27.ge (.tail _ (.tail _ (.tail _ (.head _))))
                have N27g1 := oth_ne (W := W27) (S := [g12, g11, L, g2, g1]) (g := g1) (.tail _ (.tail _ (.tail _ (.tail _ (.head _)))))
                have ge27g1 : (rnd W27 n₀ ho27.hn).B ≤ g1 := ho27.ge (.tail _ (.tail _ (.tail _ (.tail _ (.head _)))))
                refine (show Code.wpIn _ _ _ _ _ _ _ from ?_)
                refine wpIn_cond_false rfl ?_
                refine wpIn_skip ?_
                refine (show Code.wpIn _ _ _ _ _ _ _ from ?_)
                refine wp_region_LI (W0 := (rnd W27 n₀ ho27.hn)) ((g12, .cells #[.int .i64 cf, .int .i64 ct] 41 (0, 0)) :: (g11, .cells #[.int .i64 f, .int .i64 x.2] 41 (0, 0)) :: (L, o) :: (g2, .cells #[.slice p ls.length cap] 22 (0, 0)) :: (g1, .cells #[.func (.yield l) #[] #[]] 95 (0, 0)) :: (oth W27 [g12, g11, L, g2, g1])) (by kernel_rfl) (hk27) ?_
                refine lm (v := .pointer (some ⟨g12, 1, none⟩)) rfl rfl ?_
                refine lv (v := .int .i64 ct) rfl rfl (yb_loadc (off := 1) rfl (by kernel_rfl) (.head _) Tryd.underlying3 rfl (by kernel_rfl)) ?_
                refine lm (v := .pointer (some ⟨g11, 0, none⟩)) rfl rfl ?_
                refine wpL_s ((g12, .cells #[.int .i64 cf, .int .i64 ct] 41 (0, 0)) :: (g11, .cells #[.int .i64 ct, .int .i64 x.2] 41 (0, 0)) :: (L, o) :: (g2, .cells #[.slice p ls.length cap] 22 (0, 0)) :: (g1, .cells #[.func (.yield l) #[] #[]] 95 (0, 0)) :: (oth W27 [g12, g11, L, g2, g1])) rfl rfl (st_row (off := 0) (v := .int .i64 ct) rfl (by kernel_rfl) (by kernel_rfl) (.tail _ (.head _)) (by omega) (by kernel_rfl) (by simp [Value.cells]) (by intro v hv; simp [Value.cells] at hv; subst hv; rfl) rfl (List.forall_mem_cons.2 ⟨.inr ⟨(.head _), (Ne.symm Fg12.1)⟩, (List.forall_mem_cons.2 ⟨.inl rfl, (List.forall_mem_cons.2 ⟨.inr ⟨(.tail _ (.tail _ (.head _))), Fg11.1⟩, (List.forall_mem_cons.2 ⟨.inr ⟨(.tail _ (.tail _ (.tail _ (.head _)))), Fg11.2.1⟩, (List.forall_mem_cons.2 ⟨.inr ⟨(.tail _ (.tail _ (.tail _ (.tail _ (.head _))))), Fg11.2.2.1⟩, (fun p hp => .inr ⟨(.tail _ (.tail _ (.tail _ (.tail _ (.tail _ hp))))), N27g11 p hp⟩)⟩)⟩)⟩)⟩)⟩)) ?_
                refine wpL_done (fun W28 hW28 => ?_)
                obtain ⟨ho28, hJ28⟩ := Tw.Own.work (O' := [g12, g11, L, g2, g1]) hJa ho27 hJ27 hW28 (fun p hp => (.tail _ (.tail _ (.tail _ (.tail _ (.tail _ hp)))))) (List.forall_mem_cons.2 ⟨.inl (.head _), (List.forall_mem_cons.2 ⟨.inl (.tail _ (.head _)), (List.forall_mem_cons.2 ⟨.inl (.tail _ (.tail _ (.head _))), (List.forall_mem_cons.2 ⟨.inl (.tail _ (.tail _ (.tail _ (.head _)))), (List.forall_mem_cons.2 ⟨.inl (.tail _ (.tail _ (.tail _ (.tail _ (.head _))))), (List.forall_mem_nil _)⟩)⟩)⟩)⟩)⟩)
                have hk28 : KS (rnd W28 n₀ ho28.hn) ((g12, .cells #[.int .i64 cf, .int .i64 ct] 41 (0, 0)) :: (g11, .cells #[.int .i64 ct, .int .i64 x.2] 41 (0, 0)) :: (L, o) :: (g2, .cells #[.slice p ls.length cap] 22 (0, 0)) :: (g1, .cells #[.func (.yield l) #[] #[]] 95 (0, 0)) :: (oth W28 [g12, g11, L, g2, g1])) W28 := ks_oth (K := [(g12, .cells #[.int .i64 cf, .int .i64 ct] 41 (0, 0)), (g11, .cells #[.int .i64 ct, .int .i64 x.2] 41 (0, 0)), (L, o), (g2, .cells #[.slice p ls.length cap] 22 (0, 0)), (g1, .cells #[.func (.yield l) #[] #[]] 95 (0, 0))]) (fun p hp => hW28.2 p (List.mem_append_left _ hp))
                have N28g12 := oth_ne (W := W28) (S := [g12, g11, L, g2, g1]) (g := g12) (.head _)
                have ge28g12 : (rnd W28 n₀ ho28.hn).B ≤ g12 := ho28.ge (.head _)
                have N28g11 := oth_ne (W := W28) (S := [g12, g11, L, g2, g1]) (g := g11) (.tail _ (.head _))
                have ge28g11 : (rnd W28 n₀ ho28.hn).B ≤ g11 := ho28.ge (.tail _ (.head _))
                have N28L := oth_ne (W := W28) (S := [g12, g11, L, g2, g1]) (g := L) (.tail _ (.tail _ (.head _)))
                have ge28L : (rnd W28 n₀ ho28.hn).B ≤ L := ho28.ge (.tail _ (.tail _ (.head _)))
                have N28g2 := oth_ne (W := W28) (S := [g12, g11, L, g2, g1]) (g := g2) (.tail _ (.tail _ (.tail _ (.head _))))
                have ge28g2 : (rnd W28 n₀ ho28.hn).B ≤ g2 := ho28.ge (.tail _ (.tail _ (.tail _ (.head _))))
                have N28g1 := oth_ne (W := W28) (S := [g12, g11, L, g2, g1]) (g := g1) (.tail _ (.tail _ (.tail _ (.tail _ (.head _)))))
                have ge28g1 : (rnd W28 n₀ ho28.hn).B ≤ g1 := ho28.ge (.tail _ (.tail _ (.tail _ (.tail _ (.head _)))))
                refine (show Code.wpIn _ _ _ _ _ _ _ from ?_)
                refine wp_region_LI (W0 := (rnd W28 n₀ ho28.hn)) ((g12, .cells #[.int .i64 cf, .int .i64 ct] 41 (0, 0)) :: (g11, .cells #[.int .i64 ct, .int .i64 x.2] 41 (0, 0)) :: (L, o) :: (g2, .cells #[.slice p ls.length cap] 22 (0, 0)) :: (g1, .cells #[.func (.yield l) #[] #[]] 95 (0, 0)) :: (oth W28 [g12, g11, L, g2, g1])) (by kernel_rfl) (hk28) ?_
                refine lp (v := .int .i64 ((k + 1 : Nat) : Int)) rfl rfl (run_bin rfl (vx := .int .i64 (k : Int)) (vy := .int .i64 1) (by kernel_rfl) (by kernel_rfl) fun w => run_addI (z := ((k + 1 : Nat) : Int)) rfl (by omega) w) ?_
                refine lm (v := .int .i64 ((k + 1 : Nat) : Int)) rfl rfl ?_
                refine wpL_done (fun W29 hW29 => ?_)
                obtain ⟨ho29, hJ29⟩ := Tw.Own.work (O' := [g12, g11, L, g2, g1]) hJa ho28 hJ28 hW29 (fun p hp => (.tail _ (.tail _ (.tail _ (.tail _ (.tail _ hp)))))) (List.forall_mem_cons.2 ⟨.inl (.head _), (List.forall_mem_cons.2 ⟨.inl (.tail _ (.head _)), (List.forall_mem_cons.2 ⟨.inl (.tail _ (.tail _ (.head _))), (List.forall_mem_cons.2 ⟨.inl (.tail _ (.tail _ (.tail _ (.head _)))), (List.forall_mem_cons.2 ⟨.inl (.tail _ (.tail _ (.tail _ (.tail _ (.head _))))), (List.forall_mem_nil _)⟩)⟩)⟩)⟩)⟩)
                have hk29 : KS (rnd W29 n₀ ho29.hn) ((g12, .cells #[.int .i64 cf, .int .i64 ct] 41 (0, 0)) :: (g11, .cells #[.int .i64 ct, .int .i64 x.2] 41 (0, 0)) :: (L, o) :: (g2, .cells #[.slice p ls.length cap] 22 (0, 0)) :: (g1, .cells #[.func (.yield l) #[] #[]] 95 (0, 0)) :: (oth W29 [g12, g11, L, g2, g1])) W29 := ks_oth (K := [(g12, .cells #[.int .i64 cf, .int .i64 ct] 41 (0, 0)), (g11, .cells #[.int .i64 ct, .int .i64 x.2] 41 (0, 0)), (L, o), (g2, .cells #[.slice p ls.length cap] 22 (0, 0)), (g1, .cells #[.func (.yield l) #[] #[]] 95 (0, 0))]) (fun p hp => hW29.2 p (List.mem_append_left _ hp))
                have N29g12 := oth_ne (W := W29) (S := [g12, g11, L, g2, g1]) (g := g12) (.head _)
                have ge29g12 : (rnd W29 n₀ ho29.hn).B ≤ g12 := ho29.ge (.head _)
                have N29g11 := oth_ne (W := W29) (S := [g12, g11, L, g2, g1]) (g := g11) (.tail _ (.head _))
                have ge29g11 : (rnd W29 n₀ ho29.hn).B ≤ g11 := ho29.ge (.tail _ (.head _))
                have N29L := oth_ne (W := W29) (S := [g12, g11, L, g2, g1]) (g := L) (.tail _ (.tail _ (.head _)))
                have ge29L : (rnd W29 n₀ ho29.hn).B ≤ L := ho29.ge (.tail _ (.tail _ (.head _)))
                have N29g2 := oth_ne (W := W29) (S := [g12, g11, L, g2, g1]) (g := g2) (.tail _ (.tail _ (.tail _ (.head _))))
                have ge29g2 : (rnd W29 n₀ ho29.hn).B ≤ g2 := ho29.ge (.tail _ (.tail _ (.tail _ (.head _))))
                have N29g1 := oth_ne (W := W29) (S := [g12, g11, L, g2, g1]) (g := g1) (.tail _ (.tail _ (.tail _ (.tail _ (.head _)))))
                have ge29g1 : (rnd W29 n₀ ho29.hn).B ≤ g1 := ho29.ge (.tail _ (.tail _ (.tail _ (.tail _ (.head _)))))
                go_roundw
                case rel =>
                  repeat apply Exists.intro
                  exact ⟨⟨k + 1, ct, os2, _, by rw [hfull, if_neg hbr, if_neg hga]; simp, by omega, rfl, ho29.fewer (List.forall_mem_cons.2 ⟨(.tail _ (.head _)), (List.forall_mem_cons.2 ⟨(.tail _ (.tail _ (.head _))), (List.forall_mem_cons.2 ⟨(.tail _ (.tail _ (.tail _ (.head _)))), (List.forall_mem_cons.2 ⟨(.tail _ (.tail _ (.tail _ (.tail _ (.head _))))), (List.forall_mem_nil _)⟩)⟩)⟩)⟩), hJ29, (List.forall_mem_cons.2 ⟨hk29.2 _ (.tail _ (.head _)), (List.forall_mem_cons.2 ⟨hk29.2 _ (.tail _ (.tail _ (.head _))), (List.forall_mem_cons.2 ⟨hk29.2 _ (.tail _ (.tail _ (.tail _ (.head _)))), (List.forall_mem_cons.2 ⟨hk29.2 _ (.tail _ (.tail _ (.tail _ (.tail _ (.head _))))), (List.forall_mem_nil _)⟩)⟩)⟩)⟩)⟩, rfl⟩
                case measure => (show (ls.length - intOf (.int .i64 ((k + 1 : Nat) : Int))).toNat < (ls.length - intOf (.int .i64 (k : Int))).toNat); simp only [intOf]; omega
          · have hnil : ls.drop k = [] := List.drop_eq_nil_of_le (by omega)
            rw [hnil] at hfull
            have hlast : withoutL closed xs = os2 ++ (lastL f x.2 ++ withoutL ls (xs.drop (pre.length + 1))) := hfull
            by_cases he : x.2 ≤ f
            · have hem := fun W => empty_any f x.2 W
              rw [decide_eq_true he] at hem
              refine wpIn_seq ?_
              refine wp_region_LI (W0 := (rnd wr n₀ hom.hn)) ((g11, .cells #[.int .i64 f, .int .i64 x.2] 41 (0, 0)) :: (L, o) :: (g2, .cells #[.slice p ls.length cap] 22 (0, 0)) :: (g1, .cells #[.func (.yield l) #[] #[]] 95 (0, 0)) :: (oth wr [g11, L, g2, g1])) (by kernel_rfl) (hkm) ?_
              refine lp (v := .bool false) rfl rfl (run_bin rfl (vx := .int .i64 (k : Int)) (vy := .int .i64 (ls.length : Int)) (by kernel_rfl) (by kernel_rfl) fun w => run_lssI (decide_eq_false (by omega)) w) ?_
              refine wpL_done (fun W24 hW24 => ?_)
              obtain ⟨ho24, hJ24⟩ := Tw.Own.work (O' := [g11, L, g2, g1]) hJa hom hJm hW24 (fun p hp => (.tail _ (.tail _ (.tail _ (.tail _ hp))))) (List.forall_mem_cons.2 ⟨.inl (.head _), (List.forall_mem_cons.2 ⟨.inl (.tail _ (.head _)), (List.forall_mem_cons.2 ⟨.inl (.tail _ (.tail _ (.head _))), (List.forall_mem_cons.2 ⟨.inl (.tail _ (.tail _ (.tail _ (.head _)))), (List.forall_mem_nil _)⟩)⟩)⟩)⟩)
              have hk24 : KS (rnd W24 n₀ ho24.hn) ((g11, .cells #[.int .i64 f, .int .i64 x.2] 41 (0, 0)) :: (L, o) :: (g2, .cells #[.slice p ls.length cap] 22 (0, 0)) :: (g1, .cells #[.func (.yield l) #[] #[]] 95 (0, 0)) :: (oth W24 [g11, L, g2, g1])) W24 := ks_oth (K := [(g11, .cells #[.int .i64 f, .int .i64 x.2] 41 (0, 0)), (L, o), (g2, .cells #[.slice p ls.length cap] 22 (0, 0)), (g1, .cells #[.func (.yield l) #[] #[]] 95 (0, 0))]) (fun p hp => hW24.2 p (List.mem_append_left _ hp))
              have N24g11 := oth_ne (W := W24) (S := [g11, L, g2, g1]) (g := g11) (.head _)
              have ge24g11 : (rnd W24 n₀ ho24.hn).B ≤ g11 := ho24.ge (.head _)
              have N24L := oth_ne (W := W24) (S := [g11, L, g2, g1]) (g := L) (.tail _ (.head _))
              have ge24L : (rnd W24 n₀ ho24.hn).B ≤ L := ho24.ge (.tail _ (.head _))
              have N24g2 := oth_ne (W := W24) (S := [g11, L, g2, g1]) (g := g2) (.tail _ (.tail _ (.head _)))
              have ge24g2 : (rnd W24 n₀ ho24.hn).B ≤ g2 := ho24.ge (.tail _ (.tail _ (.head _)))
              have N24g1 := oth_ne (W := W24) (S := [g11, L, g2, g1]) (g := g1) (.tail _ (.tail _ (.tail _ (.head _))))
              have ge24g1 : (rnd W24 n₀ ho24.hn).B ≤ g1 := ho24.ge (.tail _ (.tail _ (.tail _ (.head _))))
              refine (show Code.wpIn _ _ _ _ _ _ _ from ?_)
              refine wpIn_seq ?_
              refine wpIn_cond_false rfl ?_
              refine wpIn_exit ?_
              refine (show Code.wpIn _ _ _ _ _ _ _ from ?_)
              refine wpIn_seq ?_
              refine wp_region_LI (W0 := (rnd W24 n₀ ho24.hn)) ((g11, .cells #[.int .i64 f, .int .i64 x.2] 41 (0, 0)) :: (L, o) :: (g2, .cells #[.slice p ls.length cap] 22 (0, 0)) :: (g1, .cells #[.func (.yield l) #[] #[]] 95 (0, 0)) :: (oth W24 [g11, L, g2, g1])) (by kernel_rfl) (hk24) ?_
              refine lv (v := .agg #[.int .i64 f, .int .i64 x.2]) rfl rfl (yb_load (n := 2) (off := 0) rfl (by kernel_rfl) (.head _) Tryd.underlying41 rfl size_span (by simp) (by kernel_rfl)) ?_
              refine lv (v := .bool true) rfl rfl (yb_call (f := 60) (args := #[.agg #[.int .i64 f, .int .i64 x.2]]) (fun _ => by kernel_rfl) fun W hW => hem W) ?_
              refine lm (v := .bool false) rfl rfl ?_
              refine lm (v := .bool false) rfl rfl ?_
              refine ln rfl ?_
              refine ln rfl ?_
              refine ln rfl ?_
              refine ln rfl ?_
              refine lm (v := .bool false) rfl rfl ?_
              refine wpL_done (fun W25 hW25 => ?_)
              obtain ⟨ho25, hJ25⟩ := Tw.Own.work (O' := [g11, L, g2, g1]) hJa ho24 hJ24 hW25 (fun p hp => (.tail _ (.tail _ (.tail _ (.tail _ hp))))) (List.forall_mem_cons.2 ⟨.inl (.head _), (List.forall_mem_cons.2 ⟨.inl (.tail _ (.head _)), (List.forall_mem_cons.2 ⟨.inl (.tail _ (.tail _ (.head _))), (List.forall_mem_cons.2 ⟨.inl (.tail _ (.tail _ (.tail _ (.head _)))), (List.forall_mem_nil _)⟩)⟩)⟩)⟩)
              have hk25 : KS (rnd W25 n₀ ho25.hn) ((g11, .cells #[.int .i64 f, .int .i64 x.2] 41 (0, 0)) :: (L, o) :: (g2, .cells #[.slice p ls.length cap] 22 (0, 0)) :: (g1, .cells #[.func (.yield l) #[] #[]] 95 (0, 0)) :: (oth W25 [g11, L, g2, g1])) W25 := ks_oth (K := [(g11, .cells #[.int .i64 f, .int .i64 x.2] 41 (0, 0)), (L, o), (g2, .cells #[.slice p ls.length cap] 22 (0, 0)), (g1, .cells #[.func (.yield l) #[] #[]] 95 (0, 0))]) (fun p hp => hW25.2 p (List.mem_append_left _ hp))
              have N25g11 := oth_ne (W := W25) (S := [g11, L, g2, g1]) (g := g11) (.head _)
              have ge25g11 : (rnd W25 n₀ ho25.hn).B ≤ g11 := ho25.ge (.head _)
              have N25L := oth_ne (W := W25) (S := [g11, L, g2, g1]) (g := L) (.tail _ (.head _))
              have ge25L : (rnd W25 n₀ ho25.hn).B ≤ L := ho25.ge (.tail _ (.head _))
              have N25g2 := oth_ne (W := W25) (S := [g11, L, g2, g1]) (g := g2) (.tail _ (.tail _ (.head _)))
              have ge25g2 : (rnd W25 n₀ ho25.hn).B ≤ g2 := ho25.ge (.tail _ (.tail _ (.head _)))
              have N25g1 := oth_ne (W := W25) (S := [g11, L, g2, g1]) (g := g1) (.tail _ (.tail _ (.tail _ (.head _))))
              have ge25g1 : (rnd W25 n₀ ho25.hn).B ≤ g1 := ho25.ge (.tail _ (.tail _ (.tail _ (.head _))))
              refine (show Code.wpIn _ _ _ _ _ _ _ from ?_)
              refine wpIn_cond_false rfl ?_
              refine wpIn_skip ?_
              exact round_end (Ix := WX Jx g1 g2) (a := ⟨#[], []⟩) (O := [g2, g1]) (ho25.fewer (O' := [L, g2, g1]) (List.forall_mem_cons.2 ⟨(.tail _ (.head _)), (List.forall_mem_cons.2 ⟨(.tail _ (.tail _ (.head _))), (List.forall_mem_cons.2 ⟨(.tail _ (.tail _ (.tail _ (.head _)))), (List.forall_mem_nil _)⟩)⟩)⟩)) (hk25.2 _ (.tail _ (.head _))) (by simp only [List.mem_cons, List.not_mem_nil, or_false, not_or]; exact ⟨nL.1, nL.2.1⟩) ⟨_, _, ls, p, cap, rfl, by rw [List.length_append]; rw [hlast, lastL, if_pos he]; simp, hll, hJ25, hAV, hWr.trans ho25.below, (ho25.apart g2 (.tail _ (.tail _ (.head _)))).2, (ho25.apart g1 (.tail _ (.tail _ (.tail _ (.head _))))).2, ho25.lo, hk25.2 _ (.tail _ (.tail _ (.head _))), hk25.2 _ (.tail _ (.tail _ (.tail _ (.head _))))⟩
            · have hem := fun W => empty_any f x.2 W
              rw [decide_eq_false he] at hem
              refine wpIn_seq ?_
              refine wp_region_LI (W0 := (rnd wr n₀ hom.hn)) ((g11, .cells #[.int .i64 f, .int .i64 x.2] 41 (0, 0)) :: (L, o) :: (g2, .cells #[.slice p ls.length cap] 22 (0, 0)) :: (g1, .cells #[.func (.yield l) #[] #[]] 95 (0, 0)) :: (oth wr [g11, L, g2, g1])) (by kernel_rfl) (hkm) ?_
              refine lp (v := .bool false) rfl rfl (run_bin rfl (vx := .int .i64 (k : Int)) (vy := .int .i64 (ls.length : Int)) (by kernel_rfl) (by kernel_rfl) fun w => run_lssI (decide_eq_false (by omega)) w) ?_
              refine wpL_done (fun W24 hW24 => ?_)
              obtain ⟨ho24, hJ24⟩ := Tw.Own.work (O' := [g11, L, g2, g1]) hJa hom hJm hW24 (fun p hp => (.tail _ (.tail _ (.tail _ (.tail _ hp))))) (List.forall_mem_cons.2 ⟨.inl (.head _), (List.forall_mem_cons.2 ⟨.inl (.tail _ (.head _)), (List.forall_mem_cons.2 ⟨.inl (.tail _ (.tail _ (.head _))), (List.forall_mem_cons.2 ⟨.inl (.tail _ (.tail _ (.tail _ (.head _)))), (List.forall_mem_nil _)⟩)⟩)⟩)⟩)
              have hk24 : KS (rnd W24 n₀ ho24.hn) ((g11, .cells #[.int .i64 f, .int .i64 x.2] 41 (0, 0)) :: (L, o) :: (g2, .cells #[.slice p ls.length cap] 22 (0, 0)) :: (g1, .cells #[.func (.yield l) #[] #[]] 95 (0, 0)) :: (oth W24 [g11, L, g2, g1])) W24 := ks_oth (K := [(g11, .cells #[.int .i64 f, .int .i64 x.2] 41 (0, 0)), (L, o), (g2, .cells #[.slice p ls.length cap] 22 (0, 0)), (g1, .cells #[.func (.yield l) #[] #[]] 95 (0, 0))]) (fun p hp => hW24.2 p (List.mem_append_left _ hp))
              have N24g11 := oth_ne (W := W24) (S := [g11, L, g2, g1]) (g := g11) (.head _)
              have ge24g11 : (rnd W24 n₀ ho24.hn).B ≤ g11 := ho24.ge (.head _)
              have N24L := oth_ne (W := W24) (S := [g11, L, g2, g1]) (g := L) (.tail _ (.head _))
              have ge24L : (rnd W24 n₀ ho24.hn).B ≤ L := ho24.ge (.tail _ (.head _))
              have N24g2 := oth_ne (W := W24) (S := [g11, L, g2, g1]) (g := g2) (.tail _ (.tail _ (.head _)))
              have ge24g2 : (rnd W24 n₀ ho24.hn).B ≤ g2 := ho24.ge (.tail _ (.tail _ (.head _)))
              have N24g1 := oth_ne (W := W24) (S := [g11, L, g2, g1]) (g := g1) (.tail _ (.tail _ (.tail _ (.head _))))
              have ge24g1 : (rnd W24 n₀ ho24.hn).B ≤ g1 := ho24.ge (.tail _ (.tail _ (.tail _ (.head _))))
              refine (show Code.wpIn _ _ _ _ _ _ _ from ?_)
              refine wpIn_seq ?_
              refine wpIn_cond_false rfl ?_
              refine wpIn_exit ?_
              refine (show Code.wpIn _ _ _ _ _ _ _ from ?_)
              refine wpIn_seq ?_
              refine wp_region_S (W0 := (rnd W24 n₀ ho24.hn)) (List.take 6 _) (List.drop 6 _) ((g11, .cells #[.int .i64 f, .int .i64 x.2] 41 (0, 0)) :: (L, o) :: (g2, .cells #[.slice p ls.length cap] 22 (0, 0)) :: (g1, .cells #[.func (.yield l) #[] #[]] 95 (0, 0)) :: (oth W24 [g11, L, g2, g1])) (List.take_append_drop 6 _).symm (by kernel_rfl) (hk24) ?_
              simp only [List.take_succ_cons, List.take_zero, List.drop_succ_cons, List.drop_zero]
              refine lv (v := .agg #[.int .i64 f, .int .i64 x.2]) rfl rfl (yb_load (n := 2) (off := 0) rfl (by kernel_rfl) (.head _) Tryd.underlying41 rfl size_span (by simp) (by kernel_rfl)) ?_
              refine lv (v := .bool false) rfl rfl (yb_call (f := 60) (args := #[.agg #[.int .i64 f, .int .i64 x.2]]) (fun _ => by kernel_rfl) fun W hW => hem W) ?_
              refine lm (v := .bool true) rfl rfl ?_
              refine lm (v := .bool true) rfl rfl ?_
              refine lv (v := .func (.yield l) #[] #[]) rfl rfl (yb_loadc (off := 0) rfl (by kernel_rfl) (.tail _ (.tail _ (.tail _ (.head _)))) Tryd.underlying95 rfl (by kernel_rfl)) ?_
              refine lv (v := .agg #[.int .i64 f, .int .i64 x.2]) rfl rfl (yb_load (n := 2) (off := 0) rfl (by kernel_rfl) (.head _) Tryd.underlying41 rfl size_span (by simp) (by kernel_rfl)) ?_
              refine wpL_done (fun W25 hW25 => ?_)
              obtain ⟨ho25, hJ25⟩ := Tw.Own.work (O' := [g11, L, g2, g1]) hJa ho24 hJ24 hW25 (fun p hp => (.tail _ (.tail _ (.tail _ (.tail _ hp))))) (List.forall_mem_cons.2 ⟨.inl (.head _), (List.forall_mem_cons.2 ⟨.inl (.tail _ (.head _)), (List.forall_mem_cons.2 ⟨.inl (.tail _ (.tail _ (.head _))), (List.forall_mem_cons.2 ⟨.inl (.tail _ (.tail _ (.tail _ (.head _)))), (List.forall_mem_nil _)⟩)⟩)⟩)⟩)
              have hk25 : KS (rnd W25 n₀ ho25.hn) ((g11, .cells #[.int .i64 f, .int .i64 x.2] 41 (0, 0)) :: (L, o) :: (g2, .cells #[.slice p ls.length cap] 22 (0, 0)) :: (g1, .cells #[.func (.yield l) #[] #[]] 95 (0, 0)) :: (oth W25 [g11, L, g2, g1])) W25 := ks_oth (K := [(g11, .cells #[.int .i64 f, .int .i64 x.2] 41 (0, 0)), (L, o), (g2, .cells #[.slice p ls.length cap] 22 (0, 0)), (g1, .cells #[.func (.yield l) #[] #[]] 95 (0, 0))]) (fun p hp => hW25.2 p (List.mem_append_left _ hp))
              have N25g11 := oth_ne (W := W25) (S := [g11, L, g2, g1]) (g := g11) (.head _)
              have ge25g11 : (rnd W25 n₀ ho25.hn).B ≤ g11 := ho25.ge (.head _)
              have N25L := oth_ne (W := W25) (S := [g11, L, g2, g1]) (g := L) (.tail _ (.head _))
              have ge25L : (rnd W25 n₀ ho25.hn).B ≤ L := ho25.ge (.tail _ (.head _))
              have N25g2 := oth_ne (W := W25) (S := [g11, L, g2, g1]) (g := g2) (.tail _ (.tail _ (.head _)))
              have ge25g2 : (rnd W25 n₀ ho25.hn).B ≤ g2 := ho25.ge (.tail _ (.tail _ (.head _)))
              have N25g1 := oth_ne (W := W25) (S := [g11, L, g2, g1]) (g := g1) (.tail _ (.tail _ (.tail _ (.head _))))
              have ge25g1 : (rnd W25 n₀ ho25.hn).B ≤ g1 := ho25.ge (.tail _ (.tail _ (.tail _ (.head _))))
              refine (show wpListIn _ _ _ _ _ _ _ _ from ?_)
              have hYY := yieldF (m := 0) (r := (some L)) (hYd os2 (f, x.2) _ W25 hJ25 ho25.mem (pre_of (rest := withoutL ls (xs.drop (pre.length + 1))) (by rw [hlast, lastL, if_neg he]; simp)))
              refine wpl_yield rfl rfl (by kernel_rfl) (by kernel_rfl) (by kernel_rfl) rfl hYY (by simp only [List.setIfInBounds_toArray, List.set_cons_succ, List.set_cons_zero] <;> rfl) (by simp only [List.setIfInBounds_toArray, List.set_cons_succ, List.set_cons_zero] <;> rfl) (fun W26 hA26 => ?_) (fun W26 hX26 => ?_)
              · obtain ⟨Sy, hFy, hJy26⟩ := hA26
                have hoy26 := ho25.yielded hFy
                have hq26 := ho25.kept (K := [(g11, .cells #[.int .i64 f, .int .i64 x.2] 41 (0, 0)), (L, o), (g2, .cells #[.slice p ls.length cap] 22 (0, 0)), (g1, .cells #[.func (.yield l) #[] #[]] 95 (0, 0))]) hFy (fun p hp => hk25.2 p (List.mem_append_left _ hp)) (List.forall_mem_cons.2 ⟨.inl (.head _), (List.forall_mem_cons.2 ⟨.inl (.tail _ (.head _)), (List.forall_mem_cons.2 ⟨.inl (.tail _ (.tail _ (.head _))), (List.forall_mem_cons.2 ⟨.inl (.tail _ (.tail _ (.tail _ (.head _)))), (List.forall_mem_nil _)⟩)⟩)⟩)⟩)
                have hk26 : KS (rnd W26 n₀ hoy26.hn) ((g11, .cells #[.int .i64 f, .int .i64 x.2] 41 (0, 0)) :: (L, o) :: (g2, .cells #[.slice p ls.length cap] 22 (0, 0)) :: (g1, .cells #[.func (.yield l) #[] #[]] 95 (0, 0)) :: (oth W26 [g11, L, g2, g1])) W26 := ks_oth (K := [(g11, .cells #[.int .i64 f, .int .i64 x.2] 41 (0, 0)), (L, o), (g2, .cells #[.slice p ls.length cap] 22 (0, 0)), (g1, .cells #[.func (.yield l) #[] #[]] 95 (0, 0))]) hq26
                have N26g11 := oth_ne (W := W26) (S := [g11, L, g2, g1]) (g := g11) (.head _)
                have ge26g11 : (rnd W26 n₀ hoy26.hn).B ≤ g11 := hoy26.ge (.head _)
                have N26L := oth_ne (W := W26) (S := [g11, L, g2, g1]) (g := L) (.tail _ (.head _))
                have ge26L : (rnd W26 n₀ hoy26.hn).B ≤ L := hoy26.ge (.tail _ (.head _))
                have N26g2 := oth_ne (W := W26) (S := [g11, L, g2, g1]) (g := g2) (.tail _ (.tail _ (.head _)))
                have ge26g2 : (rnd W26 n₀ hoy26.hn).B ≤ g2 := hoy26.ge (.tail _ (.tail _ (.head _)))
                have N26g1 := oth_ne (W := W26) (S := [g11, L, g2, g1]) (g := g1) (.tail _ (.tail _ (.tail _ (.head _))))
                have ge26g1 : (rnd W26 n₀ hoy26.hn).B ≤ g1 := hoy26.ge (.tail _ (.tail _ (.tail _ (.head _))))
                refine wpl_rest (W0 := (rnd W26 n₀ hoy26.hn)) ((g11, .cells #[.int .i64 f, .int .i64 x.2] 41 (0, 0)) :: (L, o) :: (g2, .cells #[.slice p ls.length cap] 22 (0, 0)) :: (g1, .cells #[.func (.yield l) #[] #[]] 95 (0, 0)) :: (oth W26 [g11, L, g2, g1])) (by kernel_rfl) (hk26) ?_
                refine lm (v := .bool false) rfl rfl ?_
                refine lm (v := .bool false) rfl rfl ?_
                refine wpL_done (fun W27 hW27 => ?_)
                obtain ⟨ho27, hJ27⟩ := Tw.Own.work (O' := [g11, L, g2, g1]) hJa hoy26 hJy26 hW27 (fun p hp => (.tail _ (.tail _ (.tail _ (.tail _ hp))))) (List.forall_mem_cons.2 ⟨.inl (.head _), (List.forall_mem_cons.2 ⟨.inl (.tail _ (.head _)), (List.forall_mem_cons.2 ⟨.inl (.tail _ (.tail _ (.head _))), (List.forall_mem_cons.2 ⟨.inl (.tail _ (.tail _ (.tail _ (.head _)))), (List.forall_mem_nil _)⟩)⟩)⟩)⟩)
                have hk27 : KS (rnd W27 n₀ ho27.hn) ((g11, .cells #[.int .i64 f, .int .i64 x.2] 41 (0, 0)) :: (L, o) :: (g2, .cells #[.slice p ls.length cap] 22 (0, 0)) :: (g1, .cells #[.func (.yield l) #[] #[]] 95 (0, 0)) :: (oth W27 [g11, L, g2, g1])) W27 := ks_oth (K := [(g11, .cells #[.int .i64 f, .int .i64 x.2] 41 (0, 0)), (L, o), (g2, .cells #[.slice p ls.length cap] 22 (0, 0)), (g1, .cells #[.func (.yield l) #[] #[]] 95 (0, 0))]) (fun p hp => hW27.2 p (List.mem_append_left _ hp))
                have N27g11 := oth_ne (W := W27) (S := [g11, L, g2, g1]) (g := g11) (.head _)
                have ge27g11 : (rnd W27 n₀ ho27.hn).B ≤ g11 := ho27.ge (.head _)
                have N27L := oth_ne (W := W27) (S := [g11, L, g2, g1]) (g := L) (.tail _ (.head _))
                have ge27L : (rnd W27 n₀ ho27.hn).B ≤ L := ho27.ge (.tail _ (.head _))
                have N27g2 := oth_ne (W := W27) (S := [g11, L, g2, g1]) (g := g2) (.tail _ (.tail _ (.head _)))
                have ge27g2 : (rnd W27 n₀ ho27.hn).B ≤ g2 := ho27.ge (.tail _ (.tail _ (.head _)))
                have N27g1 := oth_ne (W := W27) (S := [g11, L, g2, g1]) (g := g1) (.tail _ (.tail _ (.tail _ (.head _))))
                have ge27g1 : (rnd W27 n₀ ho27.hn).B ≤ g1 := ho27.ge (.tail _ (.tail _ (.tail _ (.head _))))
                refine (show Code.wpIn _ _ _ _ _ _ _ from ?_)
                refine wpIn_cond_false rfl ?_
                refine wpIn_skip ?_
                exact round_end (Ix := WX Jx g1 g2) (a := ⟨#[], []⟩) (O := [g2, g1]) (ho27.fewer (O' := [L, g2, g1]) (List.forall_mem_cons.2 ⟨(.tail _ (.head _)), (List.forall_mem_cons.2 ⟨(.tail _ (.tail _ (.head _))), (List.forall_mem_cons.2 ⟨(.tail _ (.tail _ (.tail _ (.head _)))), (List.forall_mem_nil _)⟩)⟩)⟩)) (hk27.2 _ (.tail _ (.head _))) (by simp only [List.mem_cons, List.not_mem_nil, or_false, not_or]; exact ⟨nL.1, nL.2.1⟩) ⟨_, _, ls, p, cap, rfl, by rw [List.length_append]; rw [hlast, lastL, if_neg he]; simp, hll, hJ27, hAV, hWr.trans ho27.below, (ho27.apart g2 (.tail _ (.tail _ (.head _)))).2, (ho27.apart g1 (.tail _ (.tail _ (.tail _ (.head _))))).2, ho27.lo, hk27.2 _ (.tail _ (.tail _ (.head _))), hk27.2 _ (.tail _ (.tail _ (.tail _ (.head _))))⟩
              · obtain ⟨Sy, hFy, hJy26⟩ := hX26
                have hoy26 := ho25.yielded hFy
                have hq26 := ho25.kept (K := [(g11, .cells #[.int .i64 f, .int .i64 x.2] 41 (0, 0)), (L, o), (g2, .cells #[.slice p ls.length cap] 22 (0, 0)), (g1, .cells #[.func (.yield l) #[] #[]] 95 (0, 0))]) hFy (fun p hp => hk25.2 p (List.mem_append_left _ hp)) (List.forall_mem_cons.2 ⟨.inl (.head _), (List.forall_mem_cons.2 ⟨.inl (.tail _ (.head _)), (List.forall_mem_cons.2 ⟨.inl (.tail _ (.tail _ (.head _))), (List.forall_mem_cons.2 ⟨.inl (.tail _ (.tail _ (.tail _ (.head _)))), (List.forall_mem_nil _)⟩)⟩)⟩)⟩)
                have hk26 : KS (rnd W26 n₀ hoy26.hn) ((g11, .cells #[.int .i64 f, .int .i64 x.2] 41 (0, 0)) :: (L, o) :: (g2, .cells #[.slice p ls.length cap] 22 (0, 0)) :: (g1, .cells #[.func (.yield l) #[] #[]] 95 (0, 0)) :: (oth W26 [g11, L, g2, g1])) W26 := ks_oth (K := [(g11, .cells #[.int .i64 f, .int .i64 x.2] 41 (0, 0)), (L, o), (g2, .cells #[.slice p ls.length cap] 22 (0, 0)), (g1, .cells #[.func (.yield l) #[] #[]] 95 (0, 0))]) hq26
                have N26g11 := oth_ne (W := W26) (S := [g11, L, g2, g1]) (g := g11) (.head _)
                have ge26g11 : (rnd W26 n₀ hoy26.hn).B ≤ g11 := hoy26.ge (.head _)
                have N26L := oth_ne (W := W26) (S := [g11, L, g2, g1]) (g := L) (.tail _ (.head _))
                have ge26L : (rnd W26 n₀ hoy26.hn).B ≤ L := hoy26.ge (.tail _ (.head _))
                have N26g2 := oth_ne (W := W26) (S := [g11, L, g2, g1]) (g := g2) (.tail _ (.tail _ (.head _)))
                have ge26g2 : (rnd W26 n₀ hoy26.hn).B ≤ g2 := hoy26.ge (.tail _ (.tail _ (.head _)))
                have N26g1 := oth_ne (W := W26) (S := [g11, L, g2, g1]) (g := g1) (.tail _ (.tail _ (.tail _ (.head _))))
                have ge26g1 : (rnd W26 n₀ hoy26.hn).B ≤ g1 := hoy26.ge (.tail _ (.tail _ (.tail _ (.head _))))
                refine wpl_rest (W0 := (rnd W26 n₀ hoy26.hn)) ((g11, .cells #[.int .i64 f, .int .i64 x.2] 41 (0, 0)) :: (L, o) :: (g2, .cells #[.slice p ls.length cap] 22 (0, 0)) :: (g1, .cells #[.func (.yield l) #[] #[]] 95 (0, 0)) :: (oth W26 [g11, L, g2, g1])) (by kernel_rfl) (hk26) ?_
                refine lm (v := .bool true) rfl rfl ?_
                refine lm (v := .bool true) rfl rfl ?_
                refine wpL_done (fun W27 hW27 => ?_)
                obtain ⟨ho27, hJ27⟩ := Tw.Own.work (O' := [g11, L, g2, g1]) hJxa hoy26 hJy26 hW27 (fun p hp => (.tail _ (.tail _ (.tail _ (.tail _ hp))))) (List.forall_mem_cons.2 ⟨.inl (.head _), (List.forall_mem_cons.2 ⟨.inl (.tail _ (.head _)), (List.forall_mem_cons.2 ⟨.inl (.tail _ (.tail _ (.head _))), (List.forall_mem_cons.2 ⟨.inl (.tail _ (.tail _ (.tail _ (.head _)))), (List.forall_mem_nil _)⟩)⟩)⟩)⟩)
                have hk27 : KS (rnd W27 n₀ ho27.hn) ((g11, .cells #[.int .i64 f, .int .i64 x.2] 41 (0, 0)) :: (L, o) :: (g2, .cells #[.slice p ls.length cap] 22 (0, 0)) :: (g1, .cells #[.func (.yield l) #[] #[]] 95 (0, 0)) :: (oth W27 [g11, L, g2, g1])) W27 := ks_oth (K := [(g11, .cells #[.int .i64 f, .int .i64 x.2] 41 (0, 0)), (L, o), (g2, .cells #[.slice p ls.length cap] 22 (0, 0)), (g1, .cells #[.func (.yield l) #[] #[]] 95 (0, 0))]) (fun p hp => hW27.2 p (List.mem_append_left _ hp))
                have N27g11 := oth_ne (W := W27) (S := [g11, L, g2, g1]) (g := g11) (.head _)
                have ge27g11 : (rnd W27 n₀ ho27.hn).B ≤ g11 := ho27.ge (.head _)
                have N27L := oth_ne (W := W27) (S := [g11, L, g2, g1]) (g := L) (.tail _ (.head _))
                have ge27L : (rnd W27 n₀ ho27.hn).B ≤ L := ho27.ge (.tail _ (.head _))
                have N27g2 := oth_ne (W := W27) (S := [g11, L, g2, g1]) (g := g2) (.tail _ (.tail _ (.head _)))
                have ge27g2 : (rnd W27 n₀ ho27.hn).B ≤ g2 := ho27.ge (.tail _ (.tail _ (.head _)))
                have N27g1 := oth_ne (W := W27) (S := [g11, L, g2, g1]) (g := g1) (.tail _ (.tail _ (.tail _ (.head _))))
                have ge27g1 : (rnd W27 n₀ ho27.hn).B ≤ g1 := ho27.ge (.tail _ (.tail _ (.tail _ (.head _))))
                refine (show Code.wpIn _ _ _ _ _ _ _ from ?_)
                refine wpIn_cond_true rfl ?_
                refine wpIn_ret ?_
                try simp only [inBlock_ret, then_ret]
                exact round_stop (I := WI J n₀ g1 g2 l W1 closed xs) (a := ⟨#[], []⟩) (O := [g2, g1]) (ho27.fewer (O' := [L, g2, g1]) (List.forall_mem_cons.2 ⟨(.tail _ (.head _)), (List.forall_mem_cons.2 ⟨(.tail _ (.tail _ (.head _))), (List.forall_mem_cons.2 ⟨(.tail _ (.tail _ (.tail _ (.head _)))), (List.forall_mem_nil _)⟩)⟩)⟩)) (hk27.2 _ (.tail _ (.head _))) (by simp only [List.mem_cons, List.not_mem_nil, or_false, not_or]; exact ⟨nL.1, nL.2.1⟩) ⟨_, _, rfl, hJ27⟩
  case done =>
    rintro D S' W hFr ⟨So, os, ls, p, cap, rfl, hxs, _, hJd, _⟩ hD hDS hDef
    rw [List.drop_length] at hxs
    have hos : withoutL closed xs = os := by rw [hxs]; simp [withoutL]
    -- the end
    have hDn : D ∉ So := fun h => hDS (.tail _ (.tail _ h))
    refine ⟨by simp, .inl ⟨_, _, rfl, run_takeDeferred hDef, _, results_none rfl _ _ _, ⟨_, rfl⟩, So, Tw.Own.finish (O := [g2, g1]) _ ho4 hFr hD, ?_⟩⟩
    exact .inl (hos ▸ hJa.put _ hJd (by omega) hDn)
  case stop =>
    rintro D pre S' W hFr ⟨So, os, rfl, hJd⟩ hD hDS hDef
    refine wpIn_ret ?_
    try simp only [inBlock_ret, then_ret]
    have hDn : D ∉ So := fun h => hDS (.tail _ (.tail _ h))
    refine ⟨by simp, .inl ⟨_, _, rfl, run_takeDeferred hDef, _, results_none rfl _ _ _, ⟨_, rfl⟩, So, Tw.Own.finish (O := [g2, g1]) _ ho4 hFr hD, ?_⟩⟩
    exact .inr ⟨os, hJxa.put _ hJd (by omega) hDn⟩
end Go.Proofs.YtjmcelgdjpdacaaDoor
